import PyProof.Rows.All
import Wide.All
import OpenK.AllK
import Wide.FinOn
import HandS.TryMany
import HandS.ExcField
import HandS.ExcInit
import HandS.ForMost
import HandS.Codes
import HandS.IsInst
import HandS.Style
import HandS.More
import HandS.SlotsOwn
import HandS.OwnEq
import KE.GoesMore
import PyProof.AutoSeq1
import HandS.TupAny
import HandS.Lambda
import HandS.Deep
import HandS.Conv
import PyProof.P3In
import HandS.WordsExc
import HandS.Dict
import HandS.Iter
import HandS.Ends
import HandS.Zip
import HandS.SortInts
import PyProof.ReprLen
import PyProof.ReprRoads
import PyProof.RowDictHeap
import PyProof.CallFns
import HandS.EndBits
import HandS.Defaults
import HandS.SetFor
import HandS.HeadHook3
import KE.DatumOrd
import HandS.SortRule
import HandS.Small
import HandS.TupMul
import KE.Datum
import PySem.Challenge.RW_sparkboard_k17_whole_shapes_and_rows
set_option Elab.async false
set_option linter.all false
set_option maxRecDepth 100000
set_option maxHeartbeats 4000000
namespace Fw
open PySem PySem.Spec PyProof.Rows L2
/-! ### several except clauses, each with a name for what it caught; the name has the slot i -/
abbrev Suit := Addr → Value → Option Addr → TS
def unEnds (i : Nat) (D : Ends) : Ends := { nx := fun σ H => D.nx (σ.set i none) H, rt := D.rt, bk := fun σ H => D.bk (σ.set i none) H, ct := fun σ H => D.ct (σ.set i none) H }
def wNamed (K : PySem.W.Frag) (i : Nat) (none_ : WX) (D : Ends) : List (Value × Suit) → WX
  | [] => none_
  | y :: r => fun cls d σ H => ∃ b, PySem.W.exmOne K cls y.1 = some b ∧ (b = true → ∀ a, H a = none → y.2 a cls d (unEnds i D) (σ.set i (some (.ref a))) H) ∧ (b = false → wNamed K i none_ D r cls d σ H)
inductive Clauses (X : Cx) (n : Str) : List ExceptHandler → List (Value × Suit) → Prop
  | nil : Clauses X n [] []
  | cons {x : Str} {c : Value} {ts : Suit} {b : Stmt} {bs : List Stmt} {p q : Pos} {hs : List ExceptHandler} {l : List (Value × Suit)} (nm : Names X x c)
      (su : ∀ (a : Addr) (o : Obj) (cls : Value) (d : Option Addr) (pn : List (Addr × Obj)), Zc cls d o → (∃ vs, o.data = .fields vs) → PSs (X.suite a ((a, o) :: pn)) (b :: bs) (ts a cls d)) (r : Clauses X n hs l) :
      Clauses X n (.ExceptHandler (some (.Name x p)) (some n) (b :: bs) q :: hs) ((c, ts) :: l)
section
variable {X : Cx} {n : Str} {i : Nat} {body : List Stmt} {h : ExceptHandler} {hs : List ExceptHandler} {l : List (Value × Suit)} {pos : Pos} {tb : WX → TS} {none_ : WX}
theorem ps_tryN (stk : X.stack = X.env :: X.outer) (frm : X.env.frame = some X.env.locals) (nd : X.N.Nodup) (at_ : X.N[i]? = some n) (lo : X.env.kindOf n = some .local) (tk : Takes X none_)
    (run : ∀ (W : WX) (pn : List (Addr × Obj)) (xe : Value → Shared → Prop), Takes (X.tr pn xe) W → PassesOwn (model X.prog X.w) X.A X.env xe → PSs (X.tr pn xe) body (tb W))
    (cl : Clauses X n (h :: hs) l) : PS X (.Try body (h :: hs) [] [] pos) (fun D σ H => tb (wNamed X.K i none_ D l) D σ H) := by
  constructor
  intro pins s σ H D I pre
  have ok := I.ok
  have vis : Loc X.env.scope n := .inl lo
  have allF : X.A.frames = some (X.env :: X.outer) := by
    rw [← stk]
    exact ok.frames
  apply wpAny_Try_except
  refine wpAny_mono ((run (wNamed X.K i none_ D l) (X.pn ++ pins) (fun e s₁ => wpAny (model X.prog X.w) X.A (noteFrame e X.env) (fun _ s₂ => wpAny (model X.prog X.w) X.A (setFlight e none) (fun _ s₃ => wpAny (model X.prog X.w) X.A (handleBy e X.env (h :: hs)) (SP X pins D) X.xe s₃) X.xe s₂) X.xe s₁) ?_ PassesOwn.looking).run [] s σ H D (I.toTry _) pre) ?_ (fun _ _ z => z)
  · rintro _ s' ⟨a, B, sI, pins', σ', H', cls, d, rfl, J0, nb, up, sky, na, os, ag, w⟩
    have J : Inv X pins σ' H' sI := J0.ofTry ok
    show wpAny (model X.prog X.w) X.A (noteFrame (.ref a) X.env) _ _ _
    refine Sky.land Zc.steady allF frm (show Sky B (X.env :: X.outer) a (Zc cls d) X.env.locals s'.heap by rw [← stk]; exact sky) ?_
    intro h3 fl up3
    have J3 : Inv X pins σ' H' { s' with heap := h3 } := J.landed nb fl.1 (up.trans up3) os ag
    obtain ⟨oe, vs, he, hz, hd⟩ := fl.there
    have noFrame : a ∉ frs (X.env :: X.outer) := fun m => by
      obtain ⟨_, o', e', hn⟩ := fl.2.2.1.mem m
      cases he.symm.trans e'
      exact hn _ hd
    have noLoc : a ≠ X.env.locals := fun z => noFrame (List.mem_filterMap.mpr ⟨X.env, List.mem_cons_self, by rw [frm, z]⟩)
    have noFs : a ∉ X.fs := fun m => by
      obtain ⟨e, me, q⟩ := List.mem_filterMap.mp m
      exact noFrame (List.mem_filterMap.mpr ⟨e, List.mem_cons_of_mem _ me, q⟩)
    have S := J3.suite he hd na noLoc noFs
    have look : PySem.W.Looks (model X.prog X.w) h3 (typeOf (.ref a)) cls := fun A Q E s k q => wpAny_typeOf_ref (k _ _ he) (by rw [hz.1]; exact q)
    -- clause by clause
    have go : ∀ {hs' : List ExceptHandler} {l' : List (Value × Suit)}, Clauses X n hs' l' → wNamed X.K i none_ D l' cls d σ' H' → wpAny (model X.prog X.w) X.A (handleBy (.ref a) X.env hs') (SP X pins D) X.xe { s' with heap := h3 } := by
      intro hs' l' cl'
      induction cl' with
      | nil =>
        intro w
        apply wpAny_handleBy_nil
        obtain ⟨k1, k2, k3, o, vs', T, oT, ts', ae, az, ad, a1, ar⟩ := id fl
        unfold PySem.passOn
        refine wpAny_bind (wpAny_field ae ad a1 ?_)
        rw [if_neg (show ¬ ((Value.ref T == Value.none) = true) by simp)]
        have last : wpAny (model X.prog X.w) X.A (setFlight (.ref a) X.env.frame) (fun _ s4 => wpAny (model X.prog X.w) X.A (throw (.ref a) : Sem Flow) (SP X pins D) X.xe s4) X.xe { s' with heap := h3 } := by
          rw [frm]
          exact HandSPX.setFlight_upZ fl fun h4 hh4 up4 => wpAny_throw (tk _ _ ⟨a, B, sI, pins, σ', H', cls, d, rfl, J, nb, (up.trans up3).trans up4, .inr (.inr (by rw [stk]; exact hh4)), na, os, ag, w⟩)
        first
          | exact wpAny_bind (wpAny_pure (wpAny_bind last))
          | exact wpAny_bind last
      | @cons x c ts b bs p q hs2 l2 nm su r ih =>
        rintro ⟨k, hk, yes, no⟩
        refine wpAny_handleBy_cons (codeAny_handlers_test ?_) (by intro q; cases q)
        have met := PySem.W.exm_one (M := model X.prog X.w) J3.kIn look hk
        have asked : ∀ {Q : Value → Shared → Prop} {E : Value → Shared → Prop}, Q c { s' with heap := h3 } → wpAny (model X.prog X.w) (X.A.mark (some (.ref a))) (eval (.Name x p) X.env) Q E { s' with heap := h3 } := fun {Q E} q => by
          obtain ⟨g1, g2, m | ⟨m, v, nn⟩⟩ := nm
          · exact ld_glob (X := X.suite a ((a, oe) :: (X.pn ++ pins))) S g1 m q g2
          · exact ld_blt (X := X.suite a ((a, oe) :: (X.pn ++ pins))) S g1 m v q nn g2
        refine asked (met.here ?_)
        cases k with
        | false =>
          show wpAny _ X.A (handleBy (.ref a) X.env hs2) _ _ _
          exact ih (no rfl)
        | true =>
          refine codeAny_handlers_suite_as (HandSPX.lands_againZ fl fun h4 fl4 up4 => ?_)
          have J4 : Inv X pins σ' H' { s' with heap := h4 } := J.landed nb fl4.1 ((up.trans up3).trans up4) os ag
          obtain ⟨o4, v4, e4, z4, d4⟩ := fl4.there
          refine store_ok (X := X.suite a ((a, o4) :: (X.pn ++ pins))) (v := .ref a) (J4.suite e4 d4 na noLoc noFs) nd at_ vis rfl (fun s5 S5 => ?_) (.inr lo)
          have gone : ∀ {σ6 : L2.St} {H6 : Hp} {s6 : Shared} {Q : Shared → Prop}, Inv (X.suite a ((a, o4) :: (X.pn ++ pins))) [] σ6 H6 s6 → (∀ s7, Inv X pins (σ6.set i none) H6 s7 → Q s7) → wpAny (model X.prog X.w) X.A (do bindName X.env n .none; unbindBehindTheSuite X.env n q) (fun _ s7 => Q s7) X.xe s6 := fun S6 hq => gone_ok (S6.unsuite ok) nd at_ lo hq
          refine wpAny_mono ((su a o4 cls d (X.pn ++ pins) z4 ⟨_, d4⟩).run [] s5 _ H' _ S5 (yes rfl a na)) (fun f s6 z => ?_) (fun _ _ z => False.elim z)
          match f, z with
          | .next, ⟨σ6, H6, S6, q6⟩ => exact gone S6 fun s7 J7 => ⟨_, _, J7, q6⟩
          | .brk, ⟨σ6, H6, S6, q6⟩ => exact gone S6 fun s7 J7 => ⟨_, _, J7, q6⟩
          | .cont, ⟨σ6, H6, S6, q6⟩ => exact gone S6 fun s7 J7 => ⟨_, _, J7, q6⟩
          | .ret u, ⟨v6, σ6, H6, S6, r6, q6⟩ => exact gone S6 fun s7 J7 => ⟨_, _, _, J7, r6, q6⟩
    exact go cl w
  · intro f s1 z
    match f, z with
    | .next, ⟨σ1, H1, J1, q⟩ => exact wpAny_execs_nil ⟨σ1, H1, J1.ofTry ok, q⟩
    | .brk, ⟨σ1, H1, J1, q⟩ => exact ⟨σ1, H1, J1.ofTry ok, q⟩
    | .cont, ⟨σ1, H1, J1, q⟩ => exact ⟨σ1, H1, J1.ofTry ok, q⟩
    | .ret u, ⟨v, σ1, H1, J1, r, q⟩ => exact ⟨v, σ1, H1, J1.ofTry ok, r, q⟩
end
end Fw

set_option linter.all false
set_option maxRecDepth 100000
set_option maxHeartbeats 4000000
namespace Sb
open PySem PySem.Spec PyProof.Rows L2
/-! ### values as data: None, bools, ints, texts, tuples and lists of such; a dict is told as a dict alone -/
mutual
inductive Da (H : Hp) : V → PyData → Prop
  | non : Da H .non .none
  | bl (b : Bool) : Da H (.bl b) (.bool b)
  | int (i : Int) : Da H (.int i) (.int i)
  | str (x : Str) : Da H (.str x) (.str x)
  | lst {a : Addr} {xs : List V} {ds : List PyData} : H a = some (.lst xs) → Das H xs ds → Da H (.ref a) (.list ds)
  | tup {a : Addr} {xs : List V} {ds : List PyData} : H a = some (.tup xs) → Das H xs ds → Da H (.ref a) (.tuple ds)
inductive Das (H : Hp) : List V → List PyData → Prop
  | nil : Das H [] []
  | cons {v : V} {vs : List V} {d : PyData} {ds : List PyData} : Da H v d → Das H vs ds → Das H (v :: vs) (d :: ds)
end
/-- lists and tuples stand -/
structure Kp (H H' : Hp) : Prop where
  t : ∀ a xs, H a = some (.tup xs) → H' a = some (.tup xs)
  l : ∀ a xs, H a = some (.lst xs) → H' a = some (.lst xs)
theorem Kp.of {H H' : Hp} (s : Same H H') : Kp H H' := ⟨fun a xs h => s a _ h, fun a xs h => s a _ h⟩
theorem Kp.trans {H H1 H2 : Hp} (a : Kp H H1) (b : Kp H1 H2) : Kp H H2 := ⟨fun c xs h => b.t c xs (a.t c xs h), fun c xs h => b.l c xs (a.l c xs h)⟩
mutual
theorem Da.kp {H H' : Hp} (k : Kp H H') : ∀ (d : PyData) (v : V), Da H v d → Da H' v d
  | .none, _, h => by cases h; exact .non
  | .bool b, _, h => by cases h; exact .bl b
  | .int i, _, h => by cases h; exact .int i
  | .str x, _, h => by cases h; exact .str x
  | .list ds, _, h => by
    cases h with
    | lst ha hs => exact .lst (k.l _ _ ha) (Das.kp k ds _ hs)
  | .tuple ds, _, h => by
    cases h with
    | tup ha hs => exact .tup (k.t _ _ ha) (Das.kp k ds _ hs)
  | .dict _, _, h => by cases h
theorem Das.kp {H H' : Hp} (k : Kp H H') : ∀ (ds : List PyData) (vs : List V), Das H vs ds → Das H' vs ds
  | [], _, h => by cases h; exact .nil
  | d :: ds, _, h => by
    cases h with
    | cons h1 h2 => exact .cons (Da.kp k d _ h1) (Das.kp k ds _ h2)
end
theorem Da.same {H H' : Hp} (s : Same H H') {d : PyData} {v : V} (h : Da H v d) : Da H' v d := Da.kp (.of s) d v h
theorem Das.same {H H' : Hp} (s : Same H H') {d : List PyData} {v : List V} (h : Das H v d) : Das H' v d := Das.kp (.of s) d v h
theorem Das.length {H : Hp} : ∀ {vs : List V} {ds : List PyData}, Das H vs ds → vs.length = ds.length
  | _, _, .nil => rfl
  | _, _, .cons _ t => congrArg (· + 1) t.length
theorem Das.get {H : Hp} : ∀ {vs : List V} {ds : List PyData} {i : Nat} {x : V}, Das H vs ds → vs[i]? = some x → ∃ d, ds[i]? = some d ∧ Da H x d
  | _, _, 0, _, .cons h _, e => by cases e; exact ⟨_, rfl, h⟩
  | _, _, i + 1, x, .cons _ t, e => Das.get (i := i) t (by simpa using e)
  | _, _, 0, _, .nil, e => by cases e
  | _, _, i + 1, _, .nil, e => by cases e
theorem Das.at {H : Hp} : ∀ {vs : List V} {ds : List PyData} {i : Nat} {d : PyData}, Das H vs ds → ds[i]? = some d → ∃ x, vs[i]? = some x ∧ Da H x d
  | _, _, 0, _, .cons h _, e => by cases e; exact ⟨_, rfl, h⟩
  | _, _, i + 1, d, .cons _ t, e => Das.at (i := i) t (by simpa using e)
  | _, _, 0, _, .nil, e => by cases e
  | _, _, i + 1, _, .nil, e => by cases e
theorem Das.app {H : Hp} : ∀ {vs us : List V} {ds es : List PyData}, Das H vs ds → Das H us es → Das H (vs ++ us) (ds ++ es)
  | _, _, _, _, .nil, h => h
  | _, _, _, _, .cons h t, u => .cons h (t.app u)
theorem Das.one {H : Hp} {v : V} {d : PyData} (h : Da H v d) : Das H [v] [d] := .cons h .nil
theorem Das.take {H : Hp} : ∀ {vs : List V} {ds : List PyData} (n : Nat), Das H vs ds → Das H (vs.take n) (ds.take n)
  | _, _, 0, _ => .nil
  | _, _, _ + 1, .nil => .nil
  | _, _, n + 1, .cons h t => .cons h (Das.take n t)
theorem Das.drop {H : Hp} : ∀ {vs : List V} {ds : List PyData} (n : Nat), Das H vs ds → Das H (vs.drop n) (ds.drop n)
  | _, _, 0, h => h
  | _, _, _ + 1, .nil => .nil
  | _, _, n + 1, .cons _ t => Das.drop n t
/-- the same, or a dict -/
def Dx (H : Hp) (v : V) (d : PyData) : Prop := Da H v d ∨ ∃ a kvs, v = .ref a ∧ H a = some (.dK kvs) ∧ d = .dict []
theorem Dx.same {H H' : Hp} (s : Same H H') {d : PyData} {v : V} (h : Dx H v d) : Dx H' v d := by
  rcases h with h | ⟨a, kvs, e, h, e2⟩
  · exact .inl (h.same s)
  · exact .inr ⟨a, kvs, e, s _ _ h, e2⟩
def tyN : PyData → String
  | .none => "NoneType"
  | .bool _ => "bool"
  | .int _ => "int"
  | .str _ => "str"
  | .list _ => "list"
  | .tuple _ => "tuple"
  | .dict _ => "dict"
theorem Dx.ty {K : PySem.W.Frag} {H : Hp} {v : V} {d : PyData} (h : Dx H v d) : TyX K H v (.type (tyN d)) := by
  rcases h with h | ⟨a, kvs, rfl, h, rfl⟩
  · cases h with
    | non => exact .base .non
    | bl b => exact .base (.bl b)
    | int i => exact .base (.int i)
    | str x => exact .base (.str x)
    | lst h _ => exact .base (.lst h)
    | tup h _ => exact .base (.tup h)
  · exact .base (.dK h)
theorem isi_d {K : PySem.W.Frag} {H : Hp} {v : V} {d : PyData} {T : String} {b : Bool} {Q : VK} (h : Dx H v d) (e : kitB (tyN d) T = some b) (q : Q (.bl b) H) : rIsi K [v, .ty T] H Q :=
  ⟨v, .ty T, _, _, b, rfl, .ty T, h.ty, kit_ty e, q⟩
theorem isi2_d {K : PySem.W.Frag} {H : Hp} {v : V} {d : PyData} {tp : Addr} {S T : String} {a b : Bool} {Q : VK} (h : Dx H v d) (ht : H tp = some (.tup [.ty S, .ty T])) (e : kitB (tyN d) S = some a) (f : kitB (tyN d) T = some b) (q : Q (.bl (a || b)) H) : rIsiT K [v, .ref tp] H Q := by
  refine ⟨v, tp, [.ty S, .ty T], _, [.type S, .type T], a || b, rfl, ht, .cons (.ty S) (.cons (.ty T) .nil), h.ty, ?_, q⟩
  exact kitAny_cons (kit_ty e) (fun z => kitAny_cons (kit_ty f) (fun z2 => by rw [z, z2]; rfl) (fun z2 => by rw [z, z2]; rfl)) (fun z => by rw [z, Bool.true_or])
/-! ### what the program asks of data -/
def isInt : PyData → Bool
  | .int _ => true
  | _ => false
def isBelow (n : Int) : PyData → Bool
  | .int i => decide (0 ≤ i ∧ i < n)
  | _ => false
def isFrom (n : Int) : PyData → Bool
  | .int i => decide (n ≤ i)
  | _ => false
def rowOf : PyData → Option (List PyData)
  | .list xs => some xs
  | .tuple xs => some xs
  | _ => none
def isBits (n : Int) (d : PyData) : Bool := match rowOf d with
  | some xs => decide ((xs.length : Int) = n) && xs.all (isBelow 2)
  | none => false
def isBitRows (n : Int) (d : PyData) : Bool := match rowOf d with
  | some xs => xs.all (isBits n)
  | none => false
def areSignals (n : Int) (d : PyData) : Bool := match rowOf d with
  | some xs => xs.all (isBelow n)
  | none => false
end Sb
namespace Sb
open PySem PySem.Spec PyProof.Rows L2
structure Fn (K : PySem.W.Frag) (mg : Str → Option Value) (P : Program) (w : World) (base : Heap) (CX : CXT) (x : Str) (lv : Nat) (f : Addr) (fd : FuncData) (ps : List Str) (sp : Sp) : Prop where
  g : mg x = some (.ref f)
  k : PySem.W.keepIn K (.ref f) = true
  b : Binds K fd ps []
  G : FnOk P w K mg base CX lv f fd ps sp
theorem at_sig {G : L2.St → Hp → Prop} {σ σ' : L2.St} {H : Hp} (e : σ = σ') (h : G σ' H) : G σ H := e ▸ h
theorem same_upd {H : Hp} {p : Addr} {o : HO} (h : H p = none) : Same H (upd H p o) := fun b x e => by
  rw [upd_ne (ne_of_none e h)]
  exact e
theorem same_mut {H H' : Hp} {p : Addr} {o : HO} (s : Same H H') (h : H p = none) : Same H (upd H' p o) := fun b u e => by
  rw [upd_ne (ne_of_none e h)]
  exact s b u e
theorem with_new {H : Hp} {p : Addr} {o : HO} {G : Hp → Prop} (hp : H p = none) (k : ∀ H', Same H H' → H' p = some o → G H') : G (upd H p o) := k _ (same_upd hp) upd_same
end Sb
namespace Sb
open PySem PySem.Spec PyProof.Rows L2
/-! ### data without lists stands whatever is written -/
def Tp (H H' : Hp) : Prop := ∀ a xs, H a = some (.tup xs) → H' a = some (.tup xs)
theorem Tp.of {H H' : Hp} (s : Same H H') : Tp H H' := fun a xs h => s a _ h
theorem Tp.trans {H H1 H2 : Hp} (a : Tp H H1) (b : Tp H1 H2) : Tp H H2 := fun c xs h => b c xs (a c xs h)
theorem Tp.lst {H : Hp} {D : Addr} {xs ys : List V} (h : H D = some (.lst xs)) : Tp H (upd H D (.lst ys)) := fun a zs e => by
  rw [upd_ne (ne_of e h (by intro z; cases z))]
  exact e
mutual
def still : PyData → Bool
  | .list _ => false
  | .dict _ => false
  | .tuple xs => stills xs
  | _ => true
def stills : List PyData → Bool
  | [] => true
  | x :: xs => still x && stills xs
end
mutual
theorem Da.tp {H H' : Hp} (k : Tp H H') : ∀ (d : PyData) (v : V), still d = true → Da H v d → Da H' v d
  | .none, _, _, h => by cases h; exact .non
  | .bool b, _, _, h => by cases h; exact .bl b
  | .int i, _, _, h => by cases h; exact .int i
  | .str x, _, _, h => by cases h; exact .str x
  | .list ds, _, e, _ => by cases e
  | .tuple ds, _, e, h => by
    cases h with
    | tup ha hs => exact .tup (k _ _ ha) (Das.tp k ds _ e hs)
  | .dict _, _, _, h => by cases h
theorem Das.tp {H H' : Hp} (k : Tp H H') : ∀ (ds : List PyData) (vs : List V), stills ds = true → Das H vs ds → Das H' vs ds
  | [], _, _, h => by cases h; exact .nil
  | d :: ds, _, e, h => by
    have e : (still d && stills ds) = true := e
    obtain ⟨e1, e2⟩ := Bool.and_eq_true_iff.mp e
    cases h with
    | cons h1 h2 => exact .cons (Da.tp k d _ e1 h1) (Das.tp k ds _ e2 h2)
end
/-! ### a comprehension over a row, one name, no test: what each turn gives -/
section
variable {K : PySem.W.Frag} {a : Addr} {xs : List V} {tl te : TE} {j : Nat} {vs : List Nat} {σ : L2.St} {H1 : Hp} {Q : VK} {R : Nat → V → Hp → Prop}
/-- so far -/
def Cw (H1 : Hp) (R : Nat → V → Hp → Prop) (D : Addr) (k : Nat) (H : Hp) : Prop := Same H1 H ∧ ∃ ys, H D = some (.lst ys) ∧ ys.length = k ∧ ∀ i y, ys[i]? = some y → R i y H
/-- behind it -/
def Made (H1 : Hp) (R : Nat → V → Hp → Prop) (n : Nat) (Q : VK) : Prop := ∀ D H2 ys, H1 D = none → Same H1 H2 → H2 D = some (.lst ys) → ys.length = n → (∀ i y, ys[i]? = some y → R i y H2) → Q (.ref D) H2
theorem comp_turn {D : Addr} {k : Nat} {x : V} {H2 : Hp} (mono : ∀ k v H H', R k v H → Tp H H' → R k v H') (hz : k < 100000) (hD : H1 D = none)
    (hte : ∀ H2, Same H1 H2 → ∀ Q : VK, (∀ y H3, Same H2 H3 → R k y H3 → Q y H3) → te ((wipe σ vs).set j (some x)) H2 Q)
    (hw : wipe ((wipe σ vs).set j (some x)) vs = wipe σ vs) (p : Cw H1 R D k H2) :
    wipe ((wipe σ vs).set j (some x)) vs = wipe σ vs ∧ tYes ((wipe σ vs).set j (some x)) H2 fun b H3 => if b = true then te ((wipe σ vs).set j (some x)) H3 fun y H4 => ∃ acc, H4 D = some (.lst acc) ∧ acc.length < sizeLine ∧ Cw H1 R D (k + 1) (upd H4 D (.lst (acc ++ [y]))) else Cw H1 R D (k + 1) H3 := by
  obtain ⟨s2, ys, e2, el, hR⟩ := p
  refine ⟨hw, ?_⟩
  show te ((wipe σ vs).set j (some x)) H2 fun y H4 => ∃ acc, H4 D = some (.lst acc) ∧ acc.length < sizeLine ∧ Cw H1 R D (k + 1) (upd H4 D (.lst (acc ++ [y])))
  refine hte H2 s2 _ fun y H3 s3 hy => ⟨ys, s3 _ _ e2, ?_, same_mut (s2.trans s3) hD, ys ++ [y], upd_same, by rw [List.length_append, el]; rfl, fun i y' hi => ?_⟩
  · exact Nat.lt_of_lt_of_le (by omega : ys.length < 100000) (by decide)
  · have tp : Tp H3 (upd H3 D (.lst (ys ++ [y]))) := Tp.lst (s3 _ _ e2)
    by_cases c : i < ys.length
    · rw [List.getElem?_append_left c] at hi
      exact mono _ _ _ _ (mono _ _ _ _ (hR i y' hi) (Tp.of s3)) tp
    · rw [List.getElem?_append_right (by omega)] at hi
      have c2 : i - ys.length = 0 := by
        cases q : i - ys.length with
        | zero => rfl
        | succ m => rw [q] at hi; cases hi
      rw [c2] at hi
      cases hi
      have c3 : i = k := by omega
      rw [c3]
      exact mono _ _ _ _ hy tp
theorem comp_l (mono : ∀ k v H H', R k v H → Tp H H' → R k v H') (htl : ∀ Q : VK, Q (.ref a) H1 → tl σ H1 Q) (hx : SqL K H1 a xs) (hz : xs.length ≤ 100000)
    (hw : ∀ x, wipe ((wipe σ vs).set j (some x)) vs = wipe σ vs)
    (hte : ∀ k x, xs[k]? = some x → ∀ H2, Same H1 H2 → ∀ Q : VK, (∀ y H3, Same H2 H3 → R k y H3 → Q y H3) → te ((wipe σ vs).set j (some x)) H2 Q)
    (q : Made H1 R xs.length Q) : tLc (iList K tl) (gName j) tYes te vs σ H1 Q := by
  refine htl _ ⟨a, rfl, ⟨xs, hx⟩, fun D hD => lc_list (K := K) (a := a) (xs := xs) (Cw H1 R D) ⟨same_upd hD, [], upd_same, rfl, fun i y h => by cases h⟩ (fun k H2 _ hh => hh.1.seq hx) (fun k x H2 hk p => ?_) (fun H2 p => ?_)⟩
  · exact comp_turn mono (by have := (List.getElem?_eq_some_iff.mp hk).1; omega) hD (hte k x hk) (hw x) p
  · obtain ⟨s, ys, e, el, hR⟩ := p
    exact q D H2 ys hD s e el hR
theorem Same.sqt {K : PySem.W.Frag} {H H' : Hp} {a : Addr} {xs : List V} (e : Same H H') (h : SqT K H a xs) : SqT K H' a xs := by
  rcases h with (h | ⟨o, h⟩) | h
  · exact .inl (.inl (e _ _ h))
  · exact .inl (.inr ⟨o, e _ _ h⟩)
  · exact .inr h
theorem comp_t (mono : ∀ k v H H', R k v H → Tp H H' → R k v H') (htl : ∀ Q : VK, Q (.ref a) H1 → tl σ H1 Q) (hx : SqT K H1 a xs) (hz : xs.length ≤ 100000)
    (hw : ∀ x, wipe ((wipe σ vs).set j (some x)) vs = wipe σ vs)
    (hte : ∀ k x, xs[k]? = some x → ∀ H2, Same H1 H2 → ∀ Q : VK, (∀ y H3, Same H2 H3 → R k y H3 → Q y H3) → te ((wipe σ vs).set j (some x)) H2 Q)
    (q : Made H1 R xs.length Q) : tLc (iTup K tl) (gName j) tYes te vs σ H1 Q := by
  refine htl _ ⟨a, rfl, ⟨xs, hx⟩, fun D hD => lc_tup (K := K) (a := a) (xs := xs) (Cw H1 R D) ⟨same_upd hD, [], upd_same, rfl, fun i y h => by cases h⟩ (fun k H2 _ hh => Same.sqt hh.1 hx) (fun k x H2 hk p => ?_) (fun H2 p => ?_)⟩
  · exact comp_turn mono (by have := (List.getElem?_eq_some_iff.mp hk).1; omega) hD (hte k x hk) (hw x) p
  · obtain ⟨s, ys, e, el, hR⟩ := p
    exact q D H2 ys hD s e el hR
/-- turns that give what hangs on their number alone -/
theorem made_is {g : Nat → V} {n : Nat} (q : ∀ D H2, H1 D = none → Same H1 H2 → H2 D = some (.lst ((List.range n).map g)) → Q (.ref D) H2) : Made H1 (fun k v _ => v = g k) n Q := by
  intro D H2 ys hD s e el hR
  have : ys = (List.range n).map g := by
    apply List.ext_getElem?
    intro i
    by_cases c : i < n
    · rw [List.getElem?_map, List.getElem?_range c, List.getElem?_eq_getElem (by omega)]
      exact congrArg some (hR i _ (List.getElem?_eq_getElem (by omega)))
    · rw [List.getElem?_eq_none (by omega), List.getElem?_eq_none (by rw [List.length_map, List.length_range]; omega)]
  rw [this] at e
  exact q D H2 hD s e
theorem range_get {α β : Type} {ds : List α} {f : α → β} {d0 : α} : (List.range ds.length).map (fun k => f (ds.getD k d0)) = ds.map f := by
  apply List.ext_getElem?
  intro i
  by_cases c : i < ds.length
  · rw [List.getElem?_map, List.getElem?_range c, List.getElem?_map, List.getElem?_eq_getElem c]
    show some (f (ds.getD i d0)) = _
    rw [List.getD_eq_getElem?_getD, List.getElem?_eq_getElem c]
    rfl
  · rw [List.getElem?_eq_none (by rw [List.length_map, List.length_range]; omega), List.getElem?_eq_none (by rw [List.length_map]; omega)]
end
end Sb
namespace Sb
open PySem PySem.Spec PyProof.Rows L2
theorem cb1 {r : List V → Hp → VK → Prop} {ta : TE} {σ : L2.St} {H : Hp} {Q : VK} (h : ta σ H fun x H1 => r [x] H1 Q) : tCB r (tCons ta tNil) σ H Q := h
end Sb

set_option linter.all false
set_option maxRecDepth 100000
set_option maxHeartbeats 4000000
namespace Sb
open PySem PySem.Spec PyProof.Rows L2
/-! ### ints, texts and tuples of such: two are equal where their data is the same -/
def fine : Nat → PyData → Bool
  | _, .int _ => true
  | _, .str x => PyData.strOk x
  | n + 1, .tuple xs => xs.all (fine n)
  | _, _ => false
theorem fine_lay : ∀ (n : Nat) (d : PyData), fine n d = true → d.canLay0 = true ∧ d.depth ≤ n
  | n, .int i, _ => ⟨by simp [PyData.canLay0], by simp [PyData.depth]⟩
  | n, .str x, h => ⟨by cases n <;> (simp only [PyData.canLay0]; exact h), by simp [PyData.depth]⟩
  | n + 1, .tuple xs, h => by
    have h : xs.all (fine n) = true := h
    have k : ∀ xs : List PyData, xs.all (fine n) = true → PyData.canLayAll0 xs = true ∧ PyData.depthAll xs ≤ n := by
      intro xs
      induction xs with
      | nil => exact fun _ => ⟨by simp [PyData.canLayAll0], by simp [PyData.depthAll]⟩
      | cons x xs ih =>
        intro h
        rw [List.all_cons, Bool.and_eq_true_iff] at h
        have a := fine_lay n x h.1
        have b := ih h.2
        refine ⟨by simp [PyData.canLayAll0, a.1, b.1], ?_⟩
        simp only [PyData.depthAll]
        omega
    have z := k xs h
    exact ⟨by simp only [PyData.canLay0]; exact z.1, by simp only [PyData.depth]; omega⟩
  | 0, .tuple xs, h => by cases h
  | 0, .none, h => by cases h
  | n + 1, .none, h => by cases h
  | 0, .bool _, h => by cases h
  | n + 1, .bool _, h => by cases h
  | 0, .list _, h => by cases h
  | n + 1, .list _, h => by cases h
  | 0, .dict _, h => by cases h
  | n + 1, .dict _, h => by cases h
theorem fine_shaped {n : Nat} {d : PyData} (hn : n ≤ 64) (h : fine n d = true) : SeqAt.shaped d = true := by
  have z := fine_lay n d h
  unfold SeqAt.shaped
  rw [z.1, decide_eq_true (Nat.le_trans z.2 hn)]
  rfl
theorem eqv_is (n : Nat) : ∀ (d e : PyData), fine n d = true → fine n e = true → (PyData.eqv d e = true ↔ d = e) := by
  induction n with
  | zero =>
    intro d e hd he
    cases d <;> first | cases hd | skip
    all_goals cases e <;> first | cases he | skip
    all_goals simp [PyData.eqv]
  | succ n ih =>
    have k : ∀ xs ys : List PyData, xs.all (fine n) = true → ys.all (fine n) = true → (PyData.eqvAll xs ys = true ↔ xs = ys) := by
      intro xs
      induction xs with
      | nil =>
        intro ys _ _
        cases ys <;> simp [PyData.eqvAll]
      | cons x xs ih2 =>
        intro ys h1 h2
        cases ys with
        | nil => simp [PyData.eqvAll]
        | cons y ys =>
          rw [List.all_cons, Bool.and_eq_true_iff] at h1 h2
          simp only [PyData.eqvAll, Bool.and_eq_true_iff, ih x y h1.1 h2.1, ih2 ys h1.2 h2.2, List.cons.injEq]
    intro d e hd he
    cases d <;> first | cases hd | skip
    all_goals cases e <;> first | cases he | skip
    all_goals simp only [PyData.eqv, PyData.int.injEq, PyData.str.injEq, PyData.tuple.injEq, beq_iff_eq, reduceCtorEq, Bool.false_eq_true]
    exact k _ _ hd he
theorem eqv_dec {n : Nat} {d e : PyData} (hd : fine n d = true) (he : fine n e = true) [Decidable (d = e)] : PyData.eqv d e = decide (d = e) := by
  have z := eqv_is n d e hd he
  by_cases c : d = e
  · rw [decide_eq_true c]
    exact z.mpr c
  · rw [decide_eq_false c]
    exact Bool.eq_false_iff.mpr fun q => c (z.mp q)
mutual
theorem Da.dp {K : PySem.W.Frag} {H : Hp} : ∀ (d : PyData) (v : V), Da H v d → Dp K H v d
  | .none, _, h => by cases h; exact .non
  | .bool b, _, h => by cases h; exact .bl b
  | .int i, _, h => by cases h; exact .int i
  | .str x, _, h => by cases h; exact .str x
  | .list ds, _, h => by
    cases h with
    | lst ha hs => exact .lst (SqL.of ha) (Das.dp ds _ hs)
  | .tuple ds, _, h => by
    cases h with
    | tup ha hs => exact .tup (SqT.of ha) (Das.dp ds _ hs)
  | .dict _, _, h => by cases h
theorem Das.dp {K : PySem.W.Frag} {H : Hp} : ∀ (ds : List PyData) (vs : List V), Das H vs ds → DpAll K H vs ds
  | [], _, h => by cases h; exact .nil
  | d :: ds, _, h => by
    cases h with
    | cons h1 h2 => exact .cons (Da.dp d _ h1) (Das.dp ds _ h2)
end
theorem eqD_of {K : PySem.W.Frag} {H : Hp} {x y : V} {d e : PyData} {Q : VK} {n : Nat} {b : Bool} (hx : Da H x d) (hy : Da H y e) (hn : n ≤ 64) (fd : fine n d = true) (fe : fine n e = true) (hb : b = true ↔ d = e) (q : Q (.bl b) H) : rEqD K x y H Q := by
  refine ⟨d, e, hx.dp, hy.dp, fine_shaped hn fd, fine_shaped hn fe, ?_⟩
  have z : PyData.eqv d e = b := by
    cases b with
    | true => exact (eqv_is n d e fd fe).mpr (hb.mp rfl)
    | false => exact Bool.eq_false_iff.mpr fun c => Bool.false_ne_true (hb.mpr ((eqv_is n d e fd fe).mp c))
  rw [z]
  exact q
theorem neD_of {K : PySem.W.Frag} {H : Hp} {x y : V} {d e : PyData} {Q : VK} {n : Nat} {b : Bool} (hx : Da H x d) (hy : Da H y e) (hn : n ≤ 64) (fd : fine n d = true) (fe : fine n e = true) (hb : b = true ↔ d = e) (q : Q (.bl (!b)) H) : rNeD K x y H Q := by
  refine ⟨d, e, hx.dp, hy.dp, fine_shaped hn fd, fine_shaped hn fe, ?_⟩
  have z : PyData.eqv d e = b := by
    cases b with
    | true => exact (eqv_is n d e fd fe).mpr (hb.mp rfl)
    | false => exact Bool.eq_false_iff.mpr fun c => Bool.false_ne_true (hb.mpr ((eqv_is n d e fd fe).mp c))
  rw [z]
  exact q
/-! ### x == y by the __eq__ of the class of x, whatever y is and whatever is answered -/
def rOwnE (K : PySem.W.Frag) (C : Addr) (sp : Sp) (E : XK) : R2 := fun x y H Q => ∃ a dx fs t, x = .ref a ∧ H a = some (.ins C dx fs) ∧ TyX K H y t ∧ PySem.W.notFirst K C t = true ∧ sp [x, y] H Q E
theorem op_ownE {X : Cx} {CX : CXT} {C f : Addr} {fd : FuncData} {ps : List Str} {sp : Sp} {E : XK} {n : Nat} (hs : PySem.W.findIn X.K (.ref C) "__eq__" = some (some (.ref f))) (hf : PySem.W.isFn X.K (.ref f) = true) (F : FnOk X.prog X.w X.K X.mg X.base CX n f fd ps sp)
    (hb : Binds X.K fd ps []) (hr : Room n X.A) (hx : Passes CX X E) : OpR X (compareOp .Eq) (rOwnE X.K C sp E) := by
  intro pins s σ H x y v u Q I rx ry h
  obtain ⟨a, dx, fs, t, rfl, ha, ty, hn, q⟩ := h
  cases (show v = Value.ref a from rx)
  obtain ⟨mA, J, _⟩ := ins_get I.hok ha
  obtain ⟨od, J, _⟩ := J.look
  obtain ⟨m, hF⟩ := I.fr
  obtain ⟨P, kx, hP, _⟩ := kit_of I ry ty
  show wpAny (model X.prog X.w) X.A (richCompare .Eq (.ref a) u) (EP X pins σ Q) X.xe s
  refine PySem.W.cmp_K (op := .Eq) (tb := t) hr.units0 hF I.ok.mod.kin J (kx.ty _ _ I.kIn hP) hn hs hf ?_
  refine wpAny_mono (run_fn (us := [.ref a, u]) (vs := [.ref a, y]) (ds := []) (dvs := []) F hr hb .nil hx I (.cons rfl (.cons ry .nil)) q) (fun w s' z => ?_) fun _ _ x => x
  obtain ⟨z', H', I', rz, qz⟩ := z
  exact SlX.cmpback rz ⟨z', H', I', rz, qz⟩
end Sb

set_option linter.all false
set_option maxRecDepth 100000
set_option maxHeartbeats 4000000
namespace PySem
theorem meets_enumerate_newT (l : Addr) (items : Array Value) (n : Nat) (dct : Option Addr) (sl : Array (Option Value)) :
    Meets (Builtin.«enumerate.__new__» ⟨[.type "enumerate", .ref l], []⟩) (fun _ R s => s.heap.get? l = some { cls := .type "tuple", dict := dct, data := .seq items n, slots := sl } ∧
      R (.ok (.ret (.ref (s.heap.push { cls := .type "tuple_iterator", data := .fields #[.ref l, .int 0 0] }).objs.size)))
        { s with heap := (s.heap.push { cls := .type "tuple_iterator", data := .fields #[.ref l, .int 0 0] }).push { cls := .type "enumerate", data := .fields #[.none, .bool false, .ref s.heap.objs.size, rawInt 0, .none, .none] } }) :=
  .of_wp fun prog w A R s h => by
    obtain ⟨hp, g, d, tk, os⟩ := s
    obtain ⟨hl, h⟩ := h
    have hsub := sub_enumerate
    have hL : Heap.IsTuple (Shared.heap ⟨hp, g, d, tk, os⟩) l items := ⟨_, hl, rfl, n, rfl⟩
    wp_walk using AutoSeq1.wpAny_loadPart' hl
    refine wpAny_stack_any fun st => wpAny_pure ?_
    split
    · rename_i c _ _ _ _ _
      cases (c == Value.type "enumerate")
      · wp_walk using AutoSeq1.wpAny_loadPart' hl, wpAny_pyIter_tuple hL
        exact ⟨_, rfl, h⟩
      · wp_walk using AutoSeq1.wpAny_loadPart' hl, wpAny_pyIter_tuple hL
        exact ⟨_, rfl, h⟩
    · wp_walk using AutoSeq1.wpAny_loadPart' hl, wpAny_pyIter_tuple hL
      exact ⟨_, rfl, h⟩
/-- the fields of a new enumerate object -/
abbrev enumF (it : Addr) : Array Value := #[.none, .bool false, .ref it, rawInt 0, .none, .none]
section
variable {prog : Program} {w : World} {A : Around} {E : Value → Shared → Prop} {s : Shared}
theorem call_enumerate_tuple {l : Addr} {items : Array Value} {Q : Value → Shared → Prop} (hL : s.heap.IsTuple l items)
    (h : ∀ h', IsEnum h' (s.heap.objs.size + 1) s.heap.objs.size 0 .none → h'.IsTupleIter s.heap.objs.size l 0 → h'.objs.size = s.heap.objs.size + 2 →
      (∀ b o, s.heap.get? b = some o → h'.get? b = some o) → Q (.ref (s.heap.objs.size + 1)) { s with heap := h' }) :
    wpAny (model prog w) A (call (.type "enumerate") [.ref l]) Q E s := by
  obtain ⟨⟨c, dct, dt, sl⟩, hl, hc, n, hd⟩ := hL
  have hc : c = .type "tuple" := hc
  have hd : dt = .seq items n := hd
  subst hc hd
  refine callType_new F.called_enumerate (by decide) (F.typeCall_enumerate_1 _) (F.newCall_enumerate_1 _) (fun o9 => F.args_object_init_2 o9 _) F.entry_enumerate_new
    (meets_enumerate_newT l items n dct sl) ⟨hl, ?_⟩
  have hz : (s.heap.push { cls := .type "tuple_iterator", data := .fields #[.ref l, .int 0 0] }).objs.size = s.heap.objs.size + 1 := Heap.size_push ..
  show _ ∧ _
  rw [hz]
  have he : IsEnum ((s.heap.push { cls := .type "tuple_iterator", data := .fields #[.ref l, .int 0 0] }).push
      { cls := .type "enumerate", data := .fields (enumF s.heap.objs.size) }) (s.heap.objs.size + 1) s.heap.objs.size 0 .none := by
    have z := Heap.get?_push_size (s.heap.push { cls := .type "tuple_iterator", data := .fields #[.ref l, .int 0 0] })
      (o := { cls := .type "enumerate", data := .fields (enumF s.heap.objs.size) }) rfl
    rw [hz] at z
    exact z
  exact ⟨⟨_, he, rfl⟩, h _ he ⟨_, Heap.get?_push_of_some _ (Heap.get?_push_size _ rfl), rfl, rfl⟩ (by rw [Heap.size_push, hz]) fun b o x => Heap.get?_push_of_some _ (Heap.get?_push_of_some _ x)⟩
end
end PySem
namespace L2
open PySem PySem.Spec PyProof.Rows
/-! ### a tuple walked with held places -/
def IteT (K : PySem.W.Frag) (a : Addr) : It :=
  ⟨fun i H => ∃ (xs : List V) (x : V), SqT K H a xs ∧ xs[i]? = some x, fun i H v H' => ∃ T x, v = .ref T ∧ H T = none ∧ H' = upd H T (.tup [.int (i : Nat), x]) ∧ ∀ xs, SqT K H a xs → xs[i]? = some x, fun i H => ∃ xs : List V, SqT K H a xs ∧ xs.length ≤ i⟩
theorem turn_enumT {P : Program} {w : World} {K : PySem.W.Frag} {elts : List Expr} {kk : Nat} {tpos : Pos} (a en ti : Addr) :
    Turn P w K (.Tuple elts kk tpos) (IteT K a) [en, ti] en (fun i h => (∃ was, IsEnum h en ti ((i : Nat) : Int) was) ∧ h.IsTupleIter ti a i ∧ en ≠ ti) where
  mem := by simp
  obj := fun i h st b mb => by
    obtain ⟨⟨was, he⟩, ⟨o, ho, hc, hd⟩, _⟩ := st
    have or2 : b = en ∨ b = ti := by simpa using mb
    rcases or2 with zq | zq
    · rw [zq]; exact ⟨_, he, fun v q => nomatch q⟩
    · rw [zq]; exact ⟨o, ho, fun v q => by rw [hd] at q; cases q⟩
  keep := fun i h h' st k => let ⟨⟨was, he⟩, hi, apart⟩ := st; ⟨⟨was, k en (by simp) _ he⟩, hi.at fun o q => k ti (by simp) o q, apart⟩
  item := by
    intro X hP hw hK hc i kept0 s σ H E I hf st hg
    subst hP hw hK
    obtain ⟨⟨was, he⟩, atI, apart⟩ := st
    obtain ⟨xs, x, hq, hx⟩ := hg
    obtain ⟨held, vs2, p, zl⟩ := I.tuple hq
    obtain ⟨u, hu, ru⟩ := vs2.get hx
    have eOld : en < s.heap.objs.size := Heap.lt_size he
    have itOld : ti < s.heap.objs.size := by obtain ⟨_, q, _⟩ := atI; exact Heap.lt_size q
    have aIt : a ≠ ti := fun zq => by
      obtain ⟨o1, q1, c1, _⟩ := p
      obtain ⟨o2, q2, c2, _⟩ := atI
      rw [zq, q2] at q1
      cases q1
      rw [c2] at c1
      exact absurd (Value.type.inj c1) (by decide)
    have aEn : a ≠ en := fun zq => by
      obtain ⟨o1, q1, c1, _⟩ := p
      have he' : s.heap.get? en = some _ := he
      rw [zq, he'] at q1
      cases q1
      exact absurd (Value.type.inj c1) (by decide)
    have drw := Draws.tuple (prog := X.prog) (w := X.w) (A := X.A.in1) (show X.A.in1.handled = none from I.ok.hd hc) ti a aIt held.toArray
    have inside : i < held.toArray.size := by
      have := (List.getElem?_eq_some_iff.mp hu).1
      simpa using this
    refine wpAny_pyNext_enum_itemD drw he ⟨atI, p⟩ inside apart (by simp; exact ⟨apart, fun zq => aEn zq.symm⟩) fun u' h' tk hP ho hst newT hsz hk => ?_
    have eu : u' = u := by
      have zq : held.toArray[i]? = some u := by simpa using hu
      rw [zq] at hP
      exact (Option.some.inj hP).symm
    subst eu
    have hit' : h'.IsTupleIter ti a (i + 1) := hst.1
    refine ⟨_, rfl, wpAny_letOwnedTupleGo_enum (s := { s with heap := h', toks := tk + 1 }) ho fun h'' he' sb => ?_⟩
    have got2 : h''.get? s.heap.objs.size = some { cls := .type "tuple", data := .seq #[.int i tk, u'] } := (sb.2 _ (Nat.ne_of_gt eOld)).trans newT
    have new : ObjOk X.prog X.w (upd H s.heap.objs.size (.tup [.int (i : Nat), x])) h'' s.heap.objs.size (.tup [.int (i : Nat), x]) :=
      ⟨by show 2 ≤ sizeLine; decide, [.int i tk, u'], .cons ⟨_, rfl⟩ (.cons ru .nil), ⟨_, got2, rfl, _, rfl⟩⟩
    have I1 : Inv X kept0 σ (upd H s.heap.objs.size (.tup [.int (i : Nat), x])) { s with heap := h'', toks := tk + 1 } :=
      I.turnedNew (ch := [en, ti]) (fun b ob mb q => (sb.2 b (fun zq => mb (by simp [zq]))).trans (hk b ob (fun zq => mb (by simp [zq])) (fun zq => mb (by simp [zq])) q)) hf (Nat.le_refl _) new
    refine ⟨.ref s.heap.objs.size, _, I1, rfl, ⟨_, x, rfl, I.hok.fresh (Nat.le_refl _), rfl, fun ys hy => by rw [I.tuple_inj hy hq]; exact hx⟩, ⟨⟨u', ?_⟩, hit'.at fun o q => (sb.2 ti (Ne.symm apart)).trans q, apart⟩, fun b mb => ?_⟩
    · have e1 := Int.natCast_succ i
      rw [e1]; exact he'
    · have bs9 : b < s.heap.objs.size := by
        have or2 : b = en ∨ b = ti := by simpa using mb
        rcases or2 with zq | zq
        · rw [zq]; exact eOld
        · rw [zq]; exact itOld
      rw [upd_ne (Nat.ne_of_lt bs9)]
      exact (hf b mb).1
  done := by
    intro X hP hw hK hc i kept0 s σ H E I hf st hg
    subst hP hw hK
    obtain ⟨⟨was, he⟩, atI, apart⟩ := st
    obtain ⟨xs, hq, hx⟩ := hg
    obtain ⟨held, vs2, p, zl⟩ := I.tuple hq
    obtain ⟨f0, f1, f2, f3, f4, f5⟩ := hf ti (by simp)
    have len0 := vs2.length
    have aIt : a ≠ ti := fun zq => by
      obtain ⟨o1, q1, c1, _⟩ := p
      obtain ⟨o2, q2, c2, _⟩ := atI
      rw [zq, q2] at q1
      cases q1
      rw [c2] at c1
      exact absurd (Value.type.inj c1) (by decide)
    -- at the end or past ti: nothing is left
    have hn : held.toArray[i]? = none := by simp; omega
    have newT : s.TypeIs (.ref en) "enumerate" := ⟨_, he, rfl⟩
    unfold pyNext
    refine wpAny_bind (wpAny_attempt (wpAny_callSpecial?_slot (name := Str.ofString "__next__") newT F.slot_enumerate_next
      (wpAny_call_entry F.slot_enumerate_next newT F.entry_enumerate_next ?_ (F.args_enumerate_next_1 _))))
    show wpAny _ _ (field (.ref en) 2 >>= _) _ _ _
    refine wpAny_bind (wpAny_field he rfl (x := .ref ti) rfl ?_)
    refine wpAny_bind (wpAny_nextOf_tuple_end (show X.A.in1.handled = none from I.ok.hd hc) atI p hn fun h' x he' hx' => ?_)
    obtain ⟨o, ho, hc⟩ := hx'
    refine wpAny_bind (wpAny_isInstance (T := "StopIteration") (b := true) ⟨o, ho, hc⟩ isSubtype_stop ?_)
    exact wpAny_pure ⟨rfl, I.turned (t' := s.toks) (fun b o mb q => he' b o mb q) f0 f1 f3 f4 f5⟩
  self := fun A i s Q E st h => let ⟨⟨_, he⟩, _⟩ := st; wpAny_pyIter_enum he h
def iEnumT (K : PySem.W.Frag) (ta : TA) : TI := fun σ H R => ta σ H fun vs H1 => ∃ a xs, vs = [.ref a] ∧ SqT K H1 a xs ∧ R (IteT K a) H1
theorem pi_enumT {X : Cx} {en : Expr} {ta : TA} {p pos tpos : Pos} {elts : List Expr} {kk : Nat} (hg : Gl X "enumerate") (hm : X.mg "enumerate" = none) (ha : PA X [en] ta) (hs : starEach [en] X.env = [(false, eval en X.env)] := by rfl) :
    PI X (.Tuple elts kk tpos) (.Call (.Name "enumerate" p) [en] [] pos) (iEnumT X.K ta) := by
  refine ⟨fun kept0 s σ H R I h => ?_⟩
  refine Call_ (ld_blt I hg hm boot_enumerate (PyProof.Rows.callWith_type1 (thn (ha.run pos kept0 s σ H _ I h) fun us sh1 ⟨vs, H1, I1, r1, q1⟩ => ?_) hs rfl))
  obtain ⟨a, xs, one1, hq, q⟩ := q1
  subst one1
  cases r1 with
  | cons r rest =>
    cases rest
    cases r
    obtain ⟨held, vs2, p', zl⟩ := I1.tuple hq
    refine call_enumerate_tuple p' fun h' he atI hsz hk => wpAny_pyIter_enum he ?_
    have I2 : Inv X kept0 σ H1 { sh1 with heap := h' } := I1.kept (t' := sh1.toks) hk
    refine ⟨sh1.heap.objs.size + 1, [sh1.heap.objs.size + 1, sh1.heap.objs.size], _, _, H1, rfl, I2, turn_enumT a (sh1.heap.objs.size + 1) sh1.heap.objs.size, ⟨⟨.none, he⟩, atI, Nat.succ_ne_self _⟩, fun b mb => ?_, q⟩
    have or2 : b = sh1.heap.objs.size + 1 ∨ b = sh1.heap.objs.size := by simpa using mb
    have bNew : sh1.heap.objs.size ≤ b := by
      rcases or2 with zq | zq
      · rw [zq]; exact Nat.le_add_right _ _
      · rw [zq]; exact Nat.le_refl _
    exact I1.fpOk bNew (I1.hok.fresh bNew)
/-- for .. in enumerate(a tuple): turns by their number -/
theorem for_enumT {K : PySem.W.Frag} {a : Addr} {xs : List V} {g : TG} {tb : TS} {D : Ends} {σ : St} {H : Hp} (Pv : Nat → St → Hp → Prop) (h0 : Pv 0 σ H) (len0 : ∀ i σ H, i ≤ xs.length → Pv i σ H → SqT K H a xs)
    (hs : ∀ i x σ H T, xs[i]? = some x → Pv i σ H → H T = none → g (.ref T) σ (upd H T (.tup [.int (i : Nat), x])) fun σ2 H2 => tb { D with nx := Pv (i + 1), ct := Pv (i + 1), bk := D.nx } σ2 H2) (hd : ∀ σ H, Pv xs.length σ H → D.nx σ H) :
    ∃ W : Nat → Nat → St → Hp → Prop, (∃ n0, W 0 n0 σ H) ∧ ∀ (i m : Nat) (σ : St) (H : Hp), W i m σ H →
      ((IteT K a).stop i H ∧ D.nx σ H) ∨ ((IteT K a).go i H ∧ ∃ N : St → Hp → Prop, (∀ σ' H', N σ' H' → ∃ m', m' < m ∧ W (i + 1) m' σ' H') ∧ ∀ x H', (IteT K a).yld i H x H' → g x σ H' fun σ2 H2 => tb { D with nx := N, ct := N, bk := D.nx } σ2 H2) := by
  refine ⟨fun j left σ1 H1 => left = xs.length - j ∧ j ≤ xs.length ∧ Pv j σ1 H1, ⟨_, (Nat.sub_zero _).symm, Nat.zero_le _, h0⟩, fun i left σ1 H1 w => ?_⟩
  obtain ⟨rfl, hi, p⟩ := w
  have q := len0 i σ1 H1 hi p
  by_cases inside : i < xs.length
  · refine Or.inr ⟨⟨xs, _, q, List.getElem?_eq_getElem inside⟩, Pv (i + 1), fun σ' H' p' => ⟨_, (by omega : xs.length - (i + 1) < xs.length - i), rfl, inside, p'⟩, fun x H' y => ?_⟩
    obtain ⟨T, x, rfl, newT, rfl, y⟩ := y
    exact hs i x σ1 _ T (y xs q) p newT
  · obtain rfl : i = xs.length := Nat.le_antisymm hi (Nat.not_lt.mp inside)
    exact Or.inl ⟨⟨xs, q, Nat.le_refl _⟩, hd σ1 H1 p⟩
theorem for_enumL {K : PySem.W.Frag} {a : Addr} {xs : List V} {g : TG} {tb : TS} {D : Ends} {σ : St} {H : Hp} (Pv : Nat → St → Hp → Prop) (h0 : Pv 0 σ H) (len0 : ∀ i σ H, i ≤ xs.length → Pv i σ H → SqL K H a xs)
    (hs : ∀ i x σ H T, xs[i]? = some x → Pv i σ H → H T = none → g (.ref T) σ (upd H T (.tup [.int (i : Nat), x])) fun σ2 H2 => tb { D with nx := Pv (i + 1), ct := Pv (i + 1), bk := D.nx } σ2 H2) (hd : ∀ σ H, Pv xs.length σ H → D.nx σ H) :
    ∃ W : Nat → Nat → St → Hp → Prop, (∃ n0, W 0 n0 σ H) ∧ ∀ (i m : Nat) (σ : St) (H : Hp), W i m σ H →
      ((Ite K a).stop i H ∧ D.nx σ H) ∨ ((Ite K a).go i H ∧ ∃ N : St → Hp → Prop, (∀ σ' H', N σ' H' → ∃ m', m' < m ∧ W (i + 1) m' σ' H') ∧ ∀ x H', (Ite K a).yld i H x H' → g x σ H' fun σ2 H2 => tb { D with nx := N, ct := N, bk := D.nx } σ2 H2) := by
  refine ⟨fun j left σ1 H1 => left = xs.length - j ∧ j ≤ xs.length ∧ Pv j σ1 H1, ⟨_, (Nat.sub_zero _).symm, Nat.zero_le _, h0⟩, fun i left σ1 H1 w => ?_⟩
  obtain ⟨rfl, hi, p⟩ := w
  have q := len0 i σ1 H1 hi p
  by_cases inside : i < xs.length
  · refine Or.inr ⟨⟨xs, _, q, List.getElem?_eq_getElem inside⟩, Pv (i + 1), fun σ' H' p' => ⟨_, (by omega : xs.length - (i + 1) < xs.length - i), rfl, inside, p'⟩, fun x H' y => ?_⟩
    obtain ⟨T, x, rfl, newT, rfl, y⟩ := y
    exact hs i x σ1 _ T (y xs q) p newT
  · obtain rfl : i = xs.length := Nat.le_antisymm hi (Nat.not_lt.mp inside)
    exact Or.inl ⟨⟨xs, q, Nat.le_refl _⟩, hd σ1 H1 p⟩
end L2

set_option linter.all false
set_option maxRecDepth 100000
set_option maxHeartbeats 4000000
namespace Sb
open PySem PySem.Spec PyProof.Rows L2
open PySem.AutoSeq1 in
theorem extend_tup (l : Addr) (items : Array Value) (n : Nat) (b : Addr) (items2 : Array Value) (n2 : Nat) (dd : Option Addr) (sl : Array (Option Value)) (hs0 : ¬(!items.isEmpty && Builtin.List.listTooLong (items.size + items2.size)) = true) (hs1 : items.size ≤ sizeLine) (hs2 : items.size + items2.size ≤ sizeLine + 1) :
    Meets (Builtin.«list.extend» ⟨[.ref l, .ref b], []⟩) (fun _ R s => s.heap.get? l = some { cls := .type "list", dict := none, data := .seq items n, slots := #[] } ∧ s.heap.get? b = some { cls := .type "tuple", dict := dd, data := .seq items2 n2, slots := sl } ∧ R (.ok (.ret Value.none)) { s with heap := s.heap.update l (Obj.mapSeq fun x => x ++ items2), toks := s.toks }) :=
  .of_wp fun prog w A R s h => by
    obtain ⟨hp, g, d, tk, os⟩ := s; obtain ⟨hl, hb, h⟩ := h; have f1 := AutoSeq1.idx_int; have f2 := AutoSeq1.sub_tuple_tuple; have f3 := AutoSeq1.sub_list_list; have f4 := AutoSeq1.sub_tuple_list; have f5 := AutoSeq1.sub_list_tuple;
    have hz' : (items ++ items2).size ≤ sizeLine + 1 := by rw [Array.size_append]; exact hs2
    wp_walk using (wpAny_updateSeq hl rfl (hz := hs1) (_hz' := hz')), wpAny_loadPart' hl, wpAny_loadPart' hb; exact ⟨_, rfl, h⟩
/-- l.extend(t), t a tuple -/
def rExtT (K : PySem.W.Frag) : V → List V → Hp → VK → Prop := fun x vs H Q => ∃ l b xs zs, x = .ref l ∧ vs = [.ref b] ∧ H l = some (.lst xs) ∧ SqT K H b zs ∧ xs.length + zs.length ≤ sizeLine ∧ Q .non (upd H l (.lst (xs ++ zs)))
theorem mt_extT {X : Cx} : MtM X "list.extend" (rExtT X.K) := by
  intro pins s σ H x vs v us Q I rx rv h
  obtain ⟨l, b, xs, zs, rfl, rfl, hH, hB, hz, q⟩ := h
  cases rx
  obtain ⟨u, rfl, ru⟩ := rv.one
  cases ru
  obtain ⟨z, its, n, r, hl, e⟩ := I.lstM hH
  obtain ⟨its2, r2, ⟨⟨cls, dd, data, sl⟩, e2, hc, n2, hd⟩, z2⟩ := I.tuple hB
  simp only at hc hd
  subst hc hd
  have hl2 := r2.length
  have hsz : its.toArray.size + its2.toArray.size ≤ sizeLine := by rw [List.size_toArray, List.size_toArray]; omega
  have hlong : ¬ (!its.toArray.isEmpty && Builtin.List.listTooLong (its.toArray.size + its2.toArray.size)) = true := by
    rw [notLongL hsz, Bool.and_false]
    exact Bool.false_ne_true
  refine call_meets F.slot_list_extend ⟨_, e, rfl⟩ F.entry_list_extend (F.args_list_extend_2 _ _)
    (extend_tup l its.toArray n b its2.toArray n2 dd sl hlong (by rw [List.size_toArray]; omega) (by omega)) ⟨e, e2, ?_⟩
  refine ⟨.non, _, I.lset (its' := its ++ its2) hH e (by simp) (r.append r2) ?_, rfl, q⟩
  rw [List.length_append]
  omega
end Sb

set_option linter.all false
set_option maxRecDepth 100000
set_option maxHeartbeats 4000000
namespace Fw
open PySem PySem.Spec PyProof.Rows L2
abbrev D := PyData
/-- what a def's text stands on: the written part, the classes by their names -/
structure Gm where
  K : PySem.W.Frag
  X : Str → Option Addr
def keyD : Key → D
  | .inl i => .int i
  | .inr s => .str s
def keyT (ks : List Key) : D := .tuple (ks.map keyD)
def insD (c : Str) (fs : List Str) (ds : List D) : D := .dict ((.none, .str c) :: (fs.map PyData.str).zip ds)
/-- a def of the text, as a value -/
def fnD (c : Str) : D := .dict [(.bool true, .str c)]
/-- a tuple of the written part -/
def kD (ds : List D) : D := .dict [(.bool false, .tuple ds)]
def KT (K : PySem.W.Frag) (a : Addr) (xs : List V) : Prop := ∃ (o : Obj) (its : Array Value) (n : Nat), K.lookup a = some o ∧ o.cls = .type "tuple" ∧ o.data = .seq its n ∧ its.size ≤ sizeLine ∧ Vals xs its.toList
/-! ### values as data -/
mutual
inductive Rz (G : Gm) (B : Hp) : V → D → Prop
  | non : Rz G B .non .none
  | bl (b : Bool) : Rz G B (.bl b) (.bool b)
  | int (i : Int) : Rz G B (.int i) (.int i)
  | str (x : Str) : Rz G B (.str x) (.str x)
  | lst {a : Addr} {xs : List V} {ds : List D} : B a = some (.lst xs) → RzA G B xs ds → Rz G B (.ref a) (.list ds)
  | tup {a : Addr} {xs : List V} {ds : List D} : B a = some (.tup xs) → RzA G B xs ds → Rz G B (.ref a) (.tuple ds)
  | kt {a : Addr} {xs : List V} {ds : List D} : KT G.K a xs → RzA G B xs ds → Rz G B (.ref a) (kD ds)
  | dk {a : Addr} {ks : List (Key × V)} {ds : List D} : B a = some (.dK ks) → RzA G B (ks.map (·.2)) ds → Rz G B (.ref a) (.dict ((ks.map fun k => keyD k.1).zip ds))
  | dt {a : Addr} {ks : List (List Key × V)} {ds : List D} : B a = some (.dT ks) → RzA G B (ks.map (·.2)) ds → Rz G B (.ref a) (.dict ((ks.map fun k => keyT k.1).zip ds))
  | ins {a C dx : Addr} {c : Str} {fs : List (Str × V)} {ds : List D} : B a = some (.ins C dx fs) → B dx = some (.own a) → G.X c = some C → RzA G B (fs.map (·.2)) ds → Rz G B (.ref a) (insD c (fs.map (·.1)) ds)
  | fn {a : Addr} {c : Str} : G.X c = some a → Rz G B (.ref a) (fnD c)
inductive RzA (G : Gm) (B : Hp) : List V → List D → Prop
  | nil : RzA G B [] []
  | cons {v : V} {vs : List V} {d : D} {ds : List D} : Rz G B v d → RzA G B vs ds → RzA G B (v :: vs) (d :: ds)
end
theorem same_rd {H H' : Hp} {a : Addr} {u : HO} (e : Same H H') (h : Rd H a u) : Rd H' a u := by
  rcases h with h | ⟨o, h⟩
  · exact .inl (e a _ h)
  · exact .inr ⟨o, e a _ h⟩
theorem same_t {K : PySem.W.Frag} {H H' : Hp} {a : Addr} {xs : List V} (e : Same H H') (h : H a = some (.tup xs)) : SqT K H' a xs := .inl (.inl (e _ _ h))
theorem KT.sq {K : PySem.W.Frag} {H : Hp} {a : Addr} {xs : List V} (h : KT K a xs) : SqT K H a xs := .inr h
theorem same_tS {K : PySem.W.Frag} {H H' : Hp} {a : Addr} {xs : List V} (e : Same H H') (h : SqT K H a xs) : SqT K H' a xs := by
  rcases h with h | h
  · exact .inl (same_rd e h)
  · exact .inr h
mutual
theorem Rz.same {G : Gm} {B B' : Hp} (s : Same B B') : ∀ {v : V} {d : D}, Rz G B v d → Rz G B' v d
  | _, _, .non => .non
  | _, _, .bl b => .bl b
  | _, _, .int i => .int i
  | _, _, .str x => .str x
  | _, _, .lst h hs => .lst (s _ _ h) (RzA.same s hs)
  | _, _, .tup h hs => .tup (s _ _ h) (RzA.same s hs)
  | _, _, .kt h hs => .kt h (RzA.same s hs)
  | _, _, .dk h hs => .dk (s _ _ h) (RzA.same s hs)
  | _, _, .dt h hs => .dt (s _ _ h) (RzA.same s hs)
  | _, _, .ins h h2 h3 hs => .ins (s _ _ h) (s _ _ h2) h3 (RzA.same s hs)
  | _, _, .fn h => .fn h
theorem RzA.same {G : Gm} {B B' : Hp} (s : Same B B') : ∀ {v : List V} {d : List D}, RzA G B v d → RzA G B' v d
  | _, _, .nil => .nil
  | _, _, .cons h t => .cons (Rz.same s h) (RzA.same s t)
end
theorem same_upd {H : Hp} {p : Addr} {o : HO} (h : H p = none) : Same H (upd H p o) := fun b x e => by
  rw [upd_ne (ne_of_none e h)]
  exact e
section
variable {G : Gm} {B : Hp}
theorem RzA.length : ∀ {vs : List V} {ds : List D}, RzA G B vs ds → vs.length = ds.length
  | _, _, .nil => rfl
  | _, _, .cons _ t => congrArg (· + 1) t.length
theorem RzA.get : ∀ {vs : List V} {ds : List D} {i : Nat} {d : D}, RzA G B vs ds → ds[i]? = some d → ∃ x, vs[i]? = some x ∧ Rz G B x d
  | _, _, 0, _, .cons h _, e => by cases e; exact ⟨_, rfl, h⟩
  | _, _, i + 1, d, .cons _ t, e => RzA.get (i := i) t (by simpa using e)
  | _, _, 0, _, .nil, e => by cases e
  | _, _, i + 1, _, .nil, e => by cases e
theorem RzA.getV : ∀ {vs : List V} {ds : List D} {i : Nat} {x : V}, RzA G B vs ds → vs[i]? = some x → ∃ d, ds[i]? = some d ∧ Rz G B x d
  | _, _, 0, _, .cons h _, e => by cases e; exact ⟨_, rfl, h⟩
  | _, _, i + 1, d, .cons _ t, e => RzA.getV (i := i) t (by simpa using e)
  | _, _, 0, _, .nil, e => by cases e
  | _, _, i + 1, _, .nil, e => by cases e
theorem RzA.app : ∀ {vs us : List V} {ds es : List D}, RzA G B vs ds → RzA G B us es → RzA G B (vs ++ us) (ds ++ es)
  | _, _, _, _, .nil, h => h
  | _, _, _, _, .cons h t, u => .cons h (t.app u)
theorem RzA.take : ∀ {vs : List V} {ds : List D} (n : Nat), RzA G B vs ds → RzA G B (vs.take n) (ds.take n)
  | _, _, 0, _ => .nil
  | _, _, _ + 1, .nil => .nil
  | _, _, n + 1, .cons h t => .cons h (RzA.take n t)
theorem RzA.drop : ∀ {vs : List V} {ds : List D} (n : Nat), RzA G B vs ds → RzA G B (vs.drop n) (ds.drop n)
  | _, _, 0, h => h
  | _, _, _ + 1, .nil => .nil
  | _, _, n + 1, .cons _ t => RzA.drop n t
theorem RzA.set {x : V} {d : D} (h : Rz G B x d) : ∀ {vs : List V} {ds : List D} (n : Nat), RzA G B vs ds → RzA G B (vs.set n x) (ds.set n d)
  | _, _, _, .nil => .nil
  | _, _, 0, .cons _ t => .cons h t
  | _, _, n + 1, .cons h1 t => .cons h1 (RzA.set h n t)
theorem RzA.eraseIdx : ∀ {vs : List V} {ds : List D} (n : Nat), RzA G B vs ds → RzA G B (vs.eraseIdx n) (ds.eraseIdx n)
  | _, _, _, .nil => .nil
  | _, _, 0, .cons _ t => t
  | _, _, n + 1, .cons h1 t => .cons h1 (RzA.eraseIdx n t)
theorem RzA.reverse : ∀ {vs : List V} {ds : List D}, RzA G B vs ds → RzA G B vs.reverse ds.reverse
  | _, _, .nil => .nil
  | _, _, .cons h t => by
    rw [List.reverse_cons, List.reverse_cons]
    exact (RzA.reverse t).app (.cons h .nil)
theorem RzA.rep {x : V} {d : D} (h : Rz G B x d) : ∀ n : Nat, RzA G B (List.replicate n x) (List.replicate n d)
  | 0 => .nil
  | n + 1 => .cons h (RzA.rep h n)
theorem RzA.flat {vs : List V} {ds : List D} (h : RzA G B vs ds) : ∀ n : Nat, RzA G B (List.replicate n vs).flatten (List.replicate n ds).flatten
  | 0 => .nil
  | n + 1 => by
    rw [List.replicate_succ, List.replicate_succ, List.flatten_cons, List.flatten_cons]
    exact h.app (RzA.flat h n)
theorem RzA.ints (ns : List Int) : RzA G B (ns.map V.int) (ns.map PyData.int) := by
  induction ns with
  | nil => exact .nil
  | cons n t ih => exact .cons (.int n) ih
theorem Rz.non_inv {v : V} (h : Rz G B v .none) : v = .non := by cases h; rfl
theorem Rz.int_inv {v : V} {i : Int} (h : Rz G B v (.int i)) : v = .int i := by cases h; rfl
theorem Rz.str_inv {v : V} {i : Str} (h : Rz G B v (.str i)) : v = .str i := by cases h; rfl
theorem Rz.bl_inv {v : V} {i : Bool} (h : Rz G B v (.bool i)) : v = .bl i := by cases h; rfl
theorem Rz.lst_inv {v : V} {ds : List D} (h : Rz G B v (.list ds)) : ∃ a xs, v = .ref a ∧ B a = some (.lst xs) ∧ RzA G B xs ds := by
  cases h with
  | lst h hs => exact ⟨_, _, rfl, h, hs⟩
theorem Rz.tup_inv {v : V} {ds : List D} (h : Rz G B v (.tuple ds)) : ∃ a xs, v = .ref a ∧ B a = some (.tup xs) ∧ RzA G B xs ds := by
  cases h with
  | tup h hs => exact ⟨_, _, rfl, h, hs⟩
mutual
/-- data without dicts and instances -/
def plain : D → Bool
  | .dict _ => false
  | .list ds => plainA ds
  | .tuple ds => plainA ds
  | _ => true
def plainA : List D → Bool
  | [] => true
  | d :: ds => plain d && plainA ds
end
mutual
theorem Rz.dp : ∀ {v : V} {d : D}, plain d = true → Rz G B v d → Dp G.K B v d
  | _, _, _, .non => .non
  | _, _, _, .bl b => .bl b
  | _, _, _, .int i => .int i
  | _, _, _, .str x => .str x
  | _, _, p, .lst h hs => .lst (SqL.of h) (RzA.dp (by simpa [plain] using p) hs)
  | _, _, p, .tup h hs => .tup (SqT.of h) (RzA.dp (by simpa [plain] using p) hs)
  | _, _, p, .kt h hs => by simp [plain, kD] at p
  | _, _, p, .dk h hs => by simp [plain] at p
  | _, _, p, .dt h hs => by simp [plain] at p
  | _, _, p, .ins h h2 h3 hs => by simp [plain, insD] at p
  | _, _, p, .fn h => by simp [plain, fnD] at p
theorem RzA.dp : ∀ {v : List V} {d : List D}, plainA d = true → RzA G B v d → DpAll G.K B v d
  | _, _, _, .nil => .nil
  | _, _, p, .cons h t => by
    simp only [plainA, Bool.and_eq_true] at p
    exact .cons (Rz.dp p.1 h) (RzA.dp p.2 t)
end
/-! ### what a tuple of the written part is as a plain one -/
mutual
def nrm : D → D
  | .list ds => .list (nrmA ds)
  | .tuple ds => .tuple (nrmA ds)
  | .dict kvs => match nrmK kvs with
    | some d => d
    | none => .dict kvs
  | d => d
def nrmA : List D → List D
  | [] => []
  | d :: ds => nrm d :: nrmA ds
def nrmK : List (D × D) → Option D
  | [p] => nrmP p
  | _ => none
def nrmP : D × D → Option D
  | (.bool false, d) => some (nrm d)
  | _ => none
end
theorem nrm_dk {ks : List (Key × V)} {ds : List D} : nrm (.dict ((ks.map fun k => keyD k.1).zip ds)) = .dict ((ks.map fun k => keyD k.1).zip ds) := by
  have e : nrmK ((ks.map fun k => keyD k.1).zip ds) = none := by
    match ks, ds with
    | [], _ => rfl
    | _ :: _, [] => rfl
    | (k, _) :: [], d :: ds => cases k <;> rfl
    | (k, _) :: _ :: _, d :: [] => cases k <;> rfl
    | _ :: _ :: _, _ :: _ :: _ => rfl
  rw [nrm, e]
theorem nrm_dt {ks : List (List Key × V)} {ds : List D} : nrm (.dict ((ks.map fun k => keyT k.1).zip ds)) = .dict ((ks.map fun k => keyT k.1).zip ds) := by
  have e : nrmK ((ks.map fun k => keyT k.1).zip ds) = none := by
    match ks, ds with
    | [], _ => rfl
    | _ :: _, [] => rfl
    | (k, _) :: [], d :: ds => rfl
    | (k, _) :: _ :: _, d :: [] => rfl
    | _ :: _ :: _, _ :: _ :: _ => rfl
  rw [nrm, e]
theorem nrm_k (ds : List D) : nrm (kD ds) = .tuple (nrmA ds) := rfl
theorem nrm_ins {c : Str} {fs : List Str} {ds : List D} : nrm (insD c fs ds) = insD c fs ds := by
  have e : nrmK ((.none, .str c) :: (fs.map PyData.str).zip ds) = none := by
    cases (fs.map PyData.str).zip ds <;> rfl
  show (match nrmK ((.none, .str c) :: (fs.map PyData.str).zip ds) with
    | some d => d
    | none => .dict ((.none, .str c) :: (fs.map PyData.str).zip ds)) = _
  rw [e]
  rfl
mutual
theorem Rz.dpn : ∀ {v : V} {d : D}, plain (nrm d) = true → Rz G B v d → Dp G.K B v (nrm d)
  | _, _, _, .non => .non
  | _, _, _, .bl b => .bl b
  | _, _, _, .int i => .int i
  | _, _, _, .str x => .str x
  | _, _, p, .lst h hs => .lst (SqL.of h) (RzA.dpn (by simpa [nrm, plain] using p) hs)
  | _, _, p, .tup h hs => .tup (SqT.of h) (RzA.dpn (by simpa [nrm, plain] using p) hs)
  | _, _, p, .kt h hs => .tup h.sq (RzA.dpn (by rw [nrm_k] at p; simpa [plain] using p) hs)
  | _, _, p, .dk h hs => by rw [nrm_dk] at p; simp [plain] at p
  | _, _, p, .dt h hs => by rw [nrm_dt] at p; simp [plain] at p
  | _, _, p, .ins h h2 h3 hs => by rw [nrm_ins] at p; simp [plain, insD] at p
  | _, _, p, .fn h => by simp [nrm, nrmK, nrmP, plain, fnD] at p
theorem RzA.dpn : ∀ {v : List V} {d : List D}, plainA (nrmA d) = true → RzA G B v d → DpAll G.K B v (nrmA d)
  | _, _, _, .nil => .nil
  | _, _, p, .cons h t => by
    simp only [nrmA, plainA, Bool.and_eq_true] at p
    exact .cons (Rz.dpn p.1 h) (RzA.dpn p.2 t)
end
end
end Fw

set_option linter.all false
set_option maxRecDepth 100000
set_option maxHeartbeats 4000000
namespace Fw
open PySem PySem.Spec PyProof.Rows L2
/-! ### the state of a def: its slots, the pen -/
inductive Slot where
  | u | d (x : D) | o (x : D) | p | me (a : Addr) | f
structure PenS where
  ns : List Int
  a : Int
  d : Int
  n : Int
  f : Int
structure Ev where
  sl : List Slot
  pen : PenS
/-- the pen and its cells, the tables of code objects that the defs at work write, code objects that stand -/
structure PnI where
  p : Addr
  c : Addr
  T : List (Addr × Str)
  Z : List (Addr × HO)
  F : Addr
  K : Hp
abbrev Pn := Option PnI
def NP (pn : Pn) (a : Addr) : Prop := ∀ q, pn = some q → a ≠ q.1 ∧ ∀ t ∈ q.T, a ≠ t.1
def penD (c : Addr) (p : PenS) : List (Key × V) := [(.inr "cells", .ref c), (.inr "at", .int p.a), (.inr "digits", .int p.d), (.inr "count", .int p.n), (.inr "fold", .int p.f)]
def PenAt (pn : Pn) (p : PenS) (H B U : Hp) : Prop := ∀ q, pn = some q → B q.1 = none ∧ U q.1 = none ∧ H q.1 = some (.dK (penD q.2 p)) ∧ B q.2 = some (.lst (p.ns.map V.int))
/-- neither any other thing nor a table nor the script -/
def NoC : HO → Prop
  | .ext _ => False
  | .tbl _ => False
  | .frz _ _ => False
  | _ => True
/-- any other thing, the script: never written -/
def Fix : HO → Prop
  | .ext _ => True
  | .frz _ _ => True
  | _ => False
theorem Fix.no {o : HO} (h : Fix o) (n : NoC o) : False := by cases o <;> first | exact h | exact n
def ZAt (H : Hp) (Z : List (Addr × HO)) : Prop := ∀ z ∈ Z, H z.1 = some z.2 ∧ Fix z.2
theorem ZAt.up {H H' : Hp} {Z : List (Addr × HO)} (h : ZAt H Z) (s : Same H H') : ZAt H' Z := fun z hz => ⟨s _ _ (h z hz).1, (h z hz).2⟩
theorem ZAt.mut {H : Hp} {Z : List (Addr × HO)} {p : Addr} {o o' : HO} (h : ZAt H Z) (e : H p = some o) (n : NoC o) : ZAt (L2.upd H p o') Z := fun z hz => by
  obtain ⟨h1, h2⟩ := h z hz
  refine ⟨?_, h2⟩
  rw [upd_ne (fun y => (by rw [y, e] at h1; cases h1; exact h2.no n : False))]
  exact h1
def TabAt (pn : Pn) (H B U : Hp) : Prop := ∀ q, pn = some q → (∀ t ∈ q.T, B t.1 = none ∧ U t.1 = none) ∧ LamX.Tabs q.T H ∧ ZAt H q.Z ∧ Same q.K B
theorem noC_lst {xs : List V} : NoC (.lst xs) := trivial
theorem noC_own {a : Addr} : NoC (.own a) := trivial
theorem noC_dK {xs : List (Key × V)} : NoC (.dK xs) := trivial
theorem noC_dT {xs : List (List Key × V)} : NoC (.dT xs) := trivial
theorem noC_ins {C dx : Addr} {xs : List (Str × V)} : NoC (.ins C dx xs) := trivial
theorem tabs_mut {T : List (Addr × Str)} {H : Hp} {p : Addr} {o o' : HO} (t : LamX.Tabs T H) (h : H p = some o) (n : NoC o) : LamX.Tabs T (upd H p o') := fun x hx => by
  obtain ⟨ps, h1, h2, h3⟩ := t x hx
  refine ⟨ps, ?_, h2, fun pos cv hc => ?_⟩
  · rw [upd_ne (fun z => (by have y : o = .tbl ps := Option.some.inj (h.symm.trans (by rw [← z]; exact h1)); rw [y] at n; exact n : False))]
    exact h1
  · obtain ⟨c, e1, e2⟩ := h3 pos cv hc
    refine ⟨c, e1, ?_⟩
    rw [upd_ne (fun z => (by have y : o = LamX.CodeO c x.2 := Option.some.inj (h.symm.trans (by rw [← z]; exact e2)); rw [y] at n; exact n : False))]
    exact e2
structure Base (U : Hp) (pn : Pn) (p : PenS) (H B : Hp) : Prop where
  bh : Same B H
  uh : Same U H
  bu : ∀ a o, B a = some o → U a = none
  pen : PenAt pn p H B U
  tab : TabAt pn H B U
/-- an object of one's own: its parts are data -/
inductive OwnAt (G : Gm) (B H : Hp) (p : Addr) : D → Prop
  | lst {xs : List V} {ds : List D} : H p = some (.lst xs) → RzA G B xs ds → OwnAt G B H p (.list ds)
  | dk {ks : List (Key × V)} {ds : List D} : H p = some (.dK ks) → RzA G B (ks.map (·.2)) ds → OwnAt G B H p (.dict ((ks.map fun k => keyD k.1).zip ds))
  | dt {ks : List (List Key × V)} {ds : List D} : H p = some (.dT ks) → RzA G B (ks.map (·.2)) ds → OwnAt G B H p (.dict ((ks.map fun k => keyT k.1).zip ds))
inductive Slots (G : Gm) (pn : Pn) (B H : Hp) : L2.St → List Slot → List Addr → Prop
  | nil : Slots G pn B H [] [] []
  | u {x : Option V} {σ : L2.St} {ρ : List Slot} {os : List Addr} : Slots G pn B H σ ρ os → Slots G pn B H (x :: σ) (.u :: ρ) os
  | d {v : V} {x : D} {σ : L2.St} {ρ : List Slot} {os : List Addr} : Rz G B v x → Slots G pn B H σ ρ os → Slots G pn B H (some v :: σ) (.d x :: ρ) os
  | o {p : Addr} {x : D} {σ : L2.St} {ρ : List Slot} {os : List Addr} : OwnAt G B H p x → Slots G pn B H σ ρ os → Slots G pn B H (some (.ref p) :: σ) (.o x :: ρ) (p :: os)
  | p {q : PnI} {σ : L2.St} {ρ : List Slot} {os : List Addr} : pn = some q → Slots G pn B H σ ρ os → Slots G pn B H (some (.ref q.p) :: σ) (.p :: ρ) os
  | fo {q : PnI} {σ : L2.St} {ρ : List Slot} {os : List Addr} : pn = some q → Slots G pn B H σ ρ os → Slots G pn B H (some (.ref q.F) :: σ) (.f :: ρ) os
  | me {a : Addr} {σ : L2.St} {ρ : List Slot} {os : List Addr} : Slots G pn B H σ ρ os → Slots G pn B H (some (.ref a) :: σ) (.me a :: ρ) os
def Free (U : Hp) (pn : Pn) (B : Hp) (os : List Addr) : Prop := ∀ q ∈ os, B q = none ∧ U q = none ∧ NP pn q
structure Rl (G : Gm) (U : Hp) (pn : Pn) (e : Ev) (σ : L2.St) (H B : Hp) : Prop where
  b : Base U pn e.pen H B
  s : ∃ os, Slots G pn B H σ e.sl os ∧ os.Nodup ∧ Free U pn B os
/-- all but the pen stands -/
def Keep (pn : Pn) (H H' : Hp) : Prop := ∀ a o, H a = some o → NP pn a → H' a = some o
theorem Keep.refl {pn : Pn} {H : Hp} : Keep pn H H := fun _ _ h _ => h
theorem Keep.trans {pn : Pn} {H H1 H2 : Hp} (a : Keep pn H H1) (b : Keep pn H1 H2) : Keep pn H H2 := fun x o h n => b x o (a x o h n) n
theorem Keep.of {pn : Pn} {H H' : Hp} (s : Same H H') : Keep pn H H' := fun a o h _ => s a o h
/-- seen from without: the object itself in the heap, its parts data -/
inductive RzB (G : Gm) (pn : Pn) (B H : Hp) : V → D → Prop
  | non : RzB G pn B H .non .none
  | bl (b : Bool) : RzB G pn B H (.bl b) (.bool b)
  | int (i : Int) : RzB G pn B H (.int i) (.int i)
  | str (x : Str) : RzB G pn B H (.str x) (.str x)
  | lst {a : Addr} {xs : List V} {ds : List D} : H a = some (.lst xs) → NP pn a → RzA G B xs ds → RzB G pn B H (.ref a) (.list ds)
  | tup {a : Addr} {xs : List V} {ds : List D} : B a = some (.tup xs) → RzA G B xs ds → RzB G pn B H (.ref a) (.tuple ds)
  | kt {a : Addr} {xs : List V} {ds : List D} : KT G.K a xs → RzA G B xs ds → RzB G pn B H (.ref a) (kD ds)
  | dk {a : Addr} {ks : List (Key × V)} {ds : List D} : H a = some (.dK ks) → NP pn a → RzA G B (ks.map (·.2)) ds → RzB G pn B H (.ref a) (.dict ((ks.map fun k => keyD k.1).zip ds))
  | dt {a : Addr} {ks : List (List Key × V)} {ds : List D} : H a = some (.dT ks) → NP pn a → RzA G B (ks.map (·.2)) ds → RzB G pn B H (.ref a) (.dict ((ks.map fun k => keyT k.1).zip ds))
  | ins {a C dx : Addr} {c : Str} {fs : List (Str × V)} {ds : List D} : B a = some (.ins C dx fs) → B dx = some (.own a) → G.X c = some C → RzA G B (fs.map (·.2)) ds → RzB G pn B H (.ref a) (insD c (fs.map (·.1)) ds)
  | fn {a : Addr} {c : Str} : G.X c = some a → RzB G pn B H (.ref a) (fnD c)
section
variable {G : Gm} {U : Hp} {pn : Pn} {e : Ev} {σ : L2.St} {H B H' B' : Hp} {v : V} {x : D}
theorem Base.np {p : PenS} (b : Base U pn p H B) {a : Addr} {o : HO} (h : B a = some o) : NP pn a := fun q hq => by
  refine ⟨fun z => ?_, fun t ht z => ?_⟩
  · have := (b.pen q hq).1
    rw [← z, h] at this
    cases this
  · have := ((b.tab q hq).1 t ht).1
    rw [← z, h] at this
    cases this
theorem Base.npU {p : PenS} (b : Base U pn p H B) {a : Addr} {o : HO} (h : U a = some o) : NP pn a := fun q hq => by
  refine ⟨fun z => ?_, fun t ht z => ?_⟩
  · have := (b.pen q hq).2.1
    rw [← z, h] at this
    cases this
  · have := ((b.tab q hq).1 t ht).2
    rw [← z, h] at this
    cases this
theorem Base.npN {p : PenS} (b : Base U pn p H B) {a : Addr} (h : H a = none) : NP pn a := fun q hq => by
  refine ⟨fun z => ?_, fun t ht z => ?_⟩
  · have := (b.pen q hq).2.2.1
    rw [← z, h] at this
    cases this
  · obtain ⟨ps, h1, _⟩ := (b.tab q hq).2.1 t ht
    rw [← z, h] at h1
    cases h1
theorem Base.tabN {p : PenS} (b : Base U pn p H B) {a : Addr} {o o2 : HO} (h : H a = none) {B' : Hp} (hB : B' = B ∨ B' = upd B a o2) {U' : Hp} (hU : U' = U ∨ U' = upd U a o2) : TabAt pn (upd H a o) B' U' := fun q hq => by
  obtain ⟨h1, h2, h3, h4⟩ := b.tab q hq
  have n := b.npN h q hq
  refine ⟨fun t ht => ⟨?_, ?_⟩, h2.ext (same_upd h), h3.up (same_upd h), ?_⟩
  rotate_right
  · rcases hB with rfl | rfl
    · exact h4
    · exact h4.trans (same_upd (b.bh.free h))
  · rcases hB with rfl | rfl
    · exact (h1 t ht).1
    · rw [upd_ne (fun z => n.2 t ht z.symm)]; exact (h1 t ht).1
  · rcases hU with rfl | rfl
    · exact (h1 t ht).2
    · rw [upd_ne (fun z => n.2 t ht z.symm)]; exact (h1 t ht).2
theorem Rz.b (b : Base U pn e.pen H B) (h : Rz G B v x) : RzB G pn B H v x := by
  cases h with
  | non => exact .non
  | bl b => exact .bl b
  | int b => exact .int b
  | str b => exact .str b
  | lst h hs => exact .lst (b.bh _ _ h) (b.np h) hs
  | tup h hs => exact .tup h hs
  | kt h hs => exact .kt h hs
  | dk h hs => exact .dk (b.bh _ _ h) (b.np h) hs
  | dt h hs => exact .dt (b.bh _ _ h) (b.np h) hs
  | ins h h2 h3 hs => exact .ins h h2 h3 hs
  | fn h => exact .fn h
theorem OwnAt.atC {p : Addr} (h : OwnAt G B H p x) : ∃ o, H p = some o ∧ NoC o := by
  cases h with
  | lst h => exact ⟨_, h, noC_lst⟩
  | dk h => exact ⟨_, h, noC_dK⟩
  | dt h => exact ⟨_, h, noC_dT⟩
theorem OwnAt.tabs {p : Addr} {T : List (Addr × Str)} {o : HO} (h : OwnAt G B H p x) (t : LamX.Tabs T H) : LamX.Tabs T (upd H p o) := by
  cases h with
  | lst h => exact tabs_mut t h noC_lst
  | dk h => exact tabs_mut t h noC_dK
  | dt h => exact tabs_mut t h noC_dT
theorem OwnAt.zat {p : Addr} {Z : List (Addr × HO)} {o : HO} (h : OwnAt G B H p x) (t : ZAt H Z) : ZAt (upd H p o) Z := by
  cases h with
  | lst h => exact t.mut h noC_lst
  | dk h => exact t.mut h noC_dK
  | dt h => exact t.mut h noC_dT
theorem OwnAt.rb {p : Addr} (n : NP pn p) (h : OwnAt G B H p x) : RzB G pn B H (.ref p) x := by
  cases h with
  | lst h hs => exact .lst h n hs
  | dk h hs => exact .dk h n hs
  | dt h hs => exact .dt h n hs
theorem RzB.keep (k : Keep pn H H') (s : Same B B') (h : RzB G pn B H v x) : RzB G pn B' H' v x := by
  cases h with
  | non => exact .non
  | bl b => exact .bl b
  | int b => exact .int b
  | str b => exact .str b
  | lst h n hs => exact .lst (k _ _ h n) n (hs.same s)
  | tup h hs => exact .tup (s _ _ h) (hs.same s)
  | kt h hs => exact .kt h (hs.same s)
  | dk h n hs => exact .dk (k _ _ h n) n (hs.same s)
  | dt h n hs => exact .dt (k _ _ h n) n (hs.same s)
  | ins h h2 h3 hs => exact .ins (s _ _ h) (s _ _ h2) h3 (hs.same s)
  | fn h => exact .fn h
theorem RzB.int_inv {i : Int} (h : RzB G pn B H v (.int i)) : v = .int i := by cases h; rfl
theorem RzB.str_inv {i : Str} (h : RzB G pn B H v (.str i)) : v = .str i := by cases h; rfl
theorem RzB.bl_inv {i : Bool} (h : RzB G pn B H v (.bool i)) : v = .bl i := by cases h; rfl
theorem RzB.non_inv (h : RzB G pn B H v .none) : v = .non := by cases h; rfl
theorem RzB.lst_inv {ds : List D} (h : RzB G pn B H v (.list ds)) : ∃ a xs, v = .ref a ∧ H a = some (.lst xs) ∧ NP pn a ∧ RzA G B xs ds := by
  cases h with
  | lst h n hs => exact ⟨_, _, rfl, h, n, hs⟩
theorem RzB.tup_inv {ds : List D} (h : RzB G pn B H v (.tuple ds)) : ∃ a xs, v = .ref a ∧ B a = some (.tup xs) ∧ RzA G B xs ds := by
  cases h with
  | tup h hs => exact ⟨_, _, rfl, h, hs⟩
theorem RzB.tup_data {ds : List D} (h : RzB G pn B H v (.tuple ds)) : Rz G B v (.tuple ds) := by
  cases h with
  | tup h hs => exact .tup h hs
theorem RzB.dp (b : Same B H) (p : plain x = true) (h : RzB G pn B H v x) : Dp G.K H v x := by
  cases h with
  | non => exact .non
  | bl b => exact .bl b
  | int b => exact .int b
  | str b => exact .str b
  | lst h n hs => exact .lst (SqL.of h) (RzA.dp (by simpa [plain] using p) (hs.same b))
  | tup h hs => exact .tup (same_t b h) (RzA.dp (by simpa [plain] using p) (hs.same b))
  | dk h hs => simp [plain] at p
  | dt h hs => simp [plain] at p
  | ins h h2 h3 hs => simp [plain, insD] at p
  | fn h => simp [plain, fnD] at p
  | kt h hs => simp [plain, kD] at p
theorem RzB.kt_inv {ds : List D} (h : RzB G pn B H v (kD ds)) : ∃ a xs, v = .ref a ∧ KT G.K a xs ∧ RzA G B xs ds := by
  generalize hd : kD ds = d at h
  cases h with
  | kt h hs => cases hd; exact ⟨_, _, rfl, h, hs⟩
  | @dk a ks ds h n hs =>
    exfalso
    unfold kD at hd
    have hd := PyData.dict.inj hd
    match ks, ds with
    | [], _ => cases hd
    | _ :: _, [] => cases hd
    | (.inl _, _) :: _, _ :: _ => cases hd
    | (.inr _, _) :: _, _ :: _ => cases hd
  | @dt a ks ds h n hs =>
    exfalso
    unfold kD at hd
    have hd := PyData.dict.inj hd
    match ks, ds with
    | [], _ => cases hd
    | _ :: _, [] => cases hd
    | _ :: _, _ :: _ => cases hd
  | ins h h2 h3 hs => exfalso; unfold kD insD at hd; cases hd
  | fn h => exfalso; unfold kD fnD at hd; cases hd
  | _ => cases hd
theorem Rz.kt_inv {ds : List D} {p : PenS} (b : Base U pn p H B) (h : Rz G B v (kD ds)) : ∃ a xs, v = .ref a ∧ KT G.K a xs ∧ RzA G B xs ds := (Rz.b (e := ⟨[], p⟩) b h).kt_inv
theorem RzB.dpn (b : Same B H) (p : plain (nrm x) = true) (h : RzB G pn B H v x) : Dp G.K H v (nrm x) := by
  cases h with
  | non => exact .non
  | bl b => exact .bl b
  | int b => exact .int b
  | str b => exact .str b
  | lst h n hs => exact .lst (SqL.of h) (RzA.dpn (by simpa [nrm, plain] using p) (hs.same b))
  | tup h hs => exact .tup (same_t b h) (RzA.dpn (by simpa [nrm, plain] using p) (hs.same b))
  | kt h hs => exact .tup h.sq (RzA.dpn (by rw [nrm_k] at p; simpa [plain] using p) (hs.same b))
  | dk h hs => rw [nrm_dk] at p; simp [plain] at p
  | dt h hs => rw [nrm_dt] at p; simp [plain] at p
  | ins h h2 h3 hs => rw [nrm_ins] at p; simp [plain, insD] at p
  | fn h => simp [nrm, nrmK, nrmP, plain, fnD] at p
theorem OwnAt.keep {p : Addr} (k : H' p = H p) (s : Same B B') (h : OwnAt G B H p x) : OwnAt G B' H' p x := by
  cases h with
  | lst h hs => exact .lst (k.trans h) (hs.same s)
  | dk h hs => exact .dk (k.trans h) (hs.same s)
  | dt h hs => exact .dt (k.trans h) (hs.same s)
theorem OwnAt.at {p : Addr} (h : OwnAt G B H p x) : ∃ o, H p = some o := by
  cases h with
  | lst h hs => exact ⟨_, h⟩
  | dk h hs => exact ⟨_, h⟩
  | dt h hs => exact ⟨_, h⟩
/-- freed: it may stand within data from now on -/
theorem OwnAt.free {p : Addr} {o : HO} (e : H p = some o) (n : B p = none) (h : OwnAt G B H p x) : Rz G (upd B p o) (.ref p) x := by
  cases h with
  | lst h hs => rw [h] at e; cases e; exact .lst upd_same (hs.same (same_upd n))
  | dk h hs => rw [h] at e; cases e; exact .dk upd_same (hs.same (same_upd n))
  | dt h hs => rw [h] at e; cases e; exact .dt upd_same (hs.same (same_upd n))
variable {ρ : List Slot} {os : List Addr}
theorem Slots.grow (s : Same B B') : ∀ {σ : L2.St} {ρ : List Slot} {os : List Addr}, (∀ q ∈ os, H' q = H q) → Slots G pn B H σ ρ os → Slots G pn B' H' σ ρ os
  | _, _, _, _, .nil => .nil
  | _, _, _, k, .u t => .u (t.grow s k)
  | _, _, _, k, .d h t => .d (h.same s) (t.grow s k)
  | _, _, _, k, .o h t => .o (h.keep (k _ (.head _)) s) (t.grow s fun q hq => k q (.tail _ hq))
  | _, _, _, k, .p h t => .p h (t.grow s k)
  | _, _, _, k, .fo h t => .fo h (t.grow s k)
  | _, _, _, k, .me t => .me (t.grow s k)
theorem Slots.len : ∀ {σ : L2.St} {ρ : List Slot} {os : List Addr}, Slots G pn B H σ ρ os → σ.length = ρ.length
  | _, _, _, .nil => rfl
  | _, _, _, .u t => congrArg (· + 1) t.len
  | _, _, _, .d _ t => congrArg (· + 1) t.len
  | _, _, _, .o _ t => congrArg (· + 1) t.len
  | _, _, _, .p _ t => congrArg (· + 1) t.len
  | _, _, _, .fo _ t => congrArg (· + 1) t.len
  | _, _, _, .me t => congrArg (· + 1) t.len
theorem Slots.get : ∀ {σ : L2.St} {ρ : List Slot} {os : List Addr} {i : Nat} {x : D}, Slots G pn B H σ ρ os → ρ[i]? = some (.d x) → ∃ v, σ[i]? = some (some v) ∧ Rz G B v x
  | _, _, _, 0, _, .d h _, e => by cases e; exact ⟨_, rfl, h⟩
  | _, _, _, 0, _, .u _, e => by cases e
  | _, _, _, 0, _, .o _ _, e => by cases e
  | _, _, _, 0, _, .p _ _, e => by cases e
  | _, _, _, 0, _, .fo _ _, e => by cases e
  | _, _, _, 0, _, .me _, e => by cases e
  | _, _, _, i + 1, _, .d _ t, e => Slots.get (i := i) t (by simpa using e)
  | _, _, _, i + 1, _, .u t, e => Slots.get (i := i) t (by simpa using e)
  | _, _, _, i + 1, _, .o _ t, e => Slots.get (i := i) t (by simpa using e)
  | _, _, _, i + 1, _, .p _ t, e => Slots.get (i := i) t (by simpa using e)
  | _, _, _, i + 1, _, .fo _ t, e => Slots.get (i := i) t (by simpa using e)
  | _, _, _, i + 1, _, .me t, e => Slots.get (i := i) t (by simpa using e)
  | _, _, _, _, _, .nil, e => by simp at e
theorem Slots.getO : ∀ {σ : L2.St} {ρ : List Slot} {os : List Addr} {i : Nat} {x : D}, Slots G pn B H σ ρ os → ρ[i]? = some (.o x) → ∃ p, σ[i]? = some (some (.ref p)) ∧ OwnAt G B H p x ∧ p ∈ os
  | _, _, _, 0, _, .o h _, e => by cases e; exact ⟨_, rfl, h, .head _⟩
  | _, _, _, 0, _, .u _, e => by cases e
  | _, _, _, 0, _, .d _ _, e => by cases e
  | _, _, _, 0, _, .p _ _, e => by cases e
  | _, _, _, 0, _, .fo _ _, e => by cases e
  | _, _, _, 0, _, .me _, e => by cases e
  | _, _, _, i + 1, _, .d _ t, e => Slots.getO (i := i) t (by simpa using e)
  | _, _, _, i + 1, _, .u t, e => Slots.getO (i := i) t (by simpa using e)
  | _, _, _, i + 1, _, .o _ t, e => by
    obtain ⟨p, h1, h2, h3⟩ := Slots.getO (i := i) t (by simpa using e)
    exact ⟨p, h1, h2, .tail _ h3⟩
  | _, _, _, i + 1, _, .p _ t, e => Slots.getO (i := i) t (by simpa using e)
  | _, _, _, i + 1, _, .fo _ t, e => Slots.getO (i := i) t (by simpa using e)
  | _, _, _, i + 1, _, .me t, e => Slots.getO (i := i) t (by simpa using e)
  | _, _, _, _, _, .nil, e => by simp at e
theorem Slots.getP : ∀ {σ : L2.St} {ρ : List Slot} {os : List Addr} {i : Nat}, Slots G pn B H σ ρ os → ρ[i]? = some .p → ∃ q : PnI, σ[i]? = some (some (.ref q.p)) ∧ pn = some q
  | _, _, _, 0, .p h _, e => ⟨_, rfl, h⟩
  | _, _, _, 0, .fo _ _, e => by cases e
  | _, _, _, 0, .me _, e => by cases e
  | _, _, _, 0, .u _, e => by cases e
  | _, _, _, 0, .d _ _, e => by cases e
  | _, _, _, 0, .o _ _, e => by cases e
  | _, _, _, i + 1, .d _ t, e => Slots.getP (i := i) t (by simpa using e)
  | _, _, _, i + 1, .u t, e => Slots.getP (i := i) t (by simpa using e)
  | _, _, _, i + 1, .o _ t, e => Slots.getP (i := i) t (by simpa using e)
  | _, _, _, i + 1, .p _ t, e => Slots.getP (i := i) t (by simpa using e)
  | _, _, _, i + 1, .fo _ t, e => Slots.getP (i := i) t (by simpa using e)
  | _, _, _, i + 1, .me t, e => Slots.getP (i := i) t (by simpa using e)
  | _, _, _, _, .nil, e => by simp at e
theorem Slots.getF : ∀ {σ : L2.St} {ρ : List Slot} {os : List Addr} {i : Nat}, Slots G pn B H σ ρ os → ρ[i]? = some .f → ∃ q : PnI, σ[i]? = some (some (.ref q.F)) ∧ pn = some q
  | _, _, _, 0, .fo h _, e => ⟨_, rfl, h⟩
  | _, _, _, 0, .p _ _, e => by cases e
  | _, _, _, 0, .me _, e => by cases e
  | _, _, _, 0, .u _, e => by cases e
  | _, _, _, 0, .d _ _, e => by cases e
  | _, _, _, 0, .o _ _, e => by cases e
  | _, _, _, i + 1, .d _ t, e => Slots.getF (i := i) t (by simpa using e)
  | _, _, _, i + 1, .u t, e => Slots.getF (i := i) t (by simpa using e)
  | _, _, _, i + 1, .o _ t, e => Slots.getF (i := i) t (by simpa using e)
  | _, _, _, i + 1, .p _ t, e => Slots.getF (i := i) t (by simpa using e)
  | _, _, _, i + 1, .fo _ t, e => Slots.getF (i := i) t (by simpa using e)
  | _, _, _, i + 1, .me t, e => Slots.getF (i := i) t (by simpa using e)
/-- a slot's store of data -/
theorem Slots.setD (h : Rz G B v x) : ∀ {σ : L2.St} {ρ : List Slot} {os : List Addr} (i : Nat), Slots G pn B H σ ρ os → ∃ os', Slots G pn B H (σ.set i (some v)) (ρ.set i (.d x)) os' ∧ os'.Sublist os
  | _, _, _, _, .nil => ⟨[], .nil, .slnil⟩
  | _, _, _, 0, .u t => ⟨_, .d h t, List.Sublist.refl _⟩
  | _, _, _, 0, .d _ t => ⟨_, .d h t, List.Sublist.refl _⟩
  | _, _, _, 0, .o _ t => ⟨_, .d h t, List.sublist_cons_self ..⟩
  | _, _, _, 0, .p _ t => ⟨_, .d h t, List.Sublist.refl _⟩
  | _, _, _, 0, .fo _ t => ⟨_, .d h t, List.Sublist.refl _⟩
  | _, _, _, 0, .me t => ⟨_, .d h t, List.Sublist.refl _⟩
  | _, _, _, i + 1, .u t => let ⟨os, a, b⟩ := Slots.setD h i t; ⟨os, .u a, b⟩
  | _, _, _, i + 1, .d g t => let ⟨os, a, b⟩ := Slots.setD h i t; ⟨os, .d g a, b⟩
  | _, _, _, i + 1, .o g t => let ⟨os, a, b⟩ := Slots.setD h i t; ⟨_ :: os, .o g a, b.cons₂ _⟩
  | _, _, _, i + 1, .p g t => let ⟨os, a, b⟩ := Slots.setD h i t; ⟨os, .p g a, b⟩
  | _, _, _, i + 1, .fo g t => let ⟨os, a, b⟩ := Slots.setD h i t; ⟨os, .fo g a, b⟩
  | _, _, _, i + 1, .me t => let ⟨os, a, b⟩ := Slots.setD h i t; ⟨os, .me a, b⟩
/-- .. of nothing -/
theorem Slots.setU {w : Option V} : ∀ {σ : L2.St} {ρ : List Slot} {os : List Addr} (i : Nat), Slots G pn B H σ ρ os → ∃ os', Slots G pn B H (σ.set i w) (ρ.set i .u) os' ∧ os'.Sublist os
  | _, _, _, _, .nil => ⟨[], .nil, .slnil⟩
  | _, _, _, 0, .u t => ⟨_, .u t, List.Sublist.refl _⟩
  | _, _, _, 0, .d _ t => ⟨_, .u t, List.Sublist.refl _⟩
  | _, _, _, 0, .o _ t => ⟨_, .u t, List.sublist_cons_self ..⟩
  | _, _, _, 0, .p _ t => ⟨_, .u t, List.Sublist.refl _⟩
  | _, _, _, 0, .fo _ t => ⟨_, .u t, List.Sublist.refl _⟩
  | _, _, _, 0, .me t => ⟨_, .u t, List.Sublist.refl _⟩
  | _, _, _, i + 1, .u t => let ⟨os, a, b⟩ := Slots.setU i t; ⟨os, .u a, b⟩
  | _, _, _, i + 1, .d g t => let ⟨os, a, b⟩ := Slots.setU i t; ⟨os, .d g a, b⟩
  | _, _, _, i + 1, .o g t => let ⟨os, a, b⟩ := Slots.setU i t; ⟨_ :: os, .o g a, b.cons₂ _⟩
  | _, _, _, i + 1, .p g t => let ⟨os, a, b⟩ := Slots.setU i t; ⟨os, .p g a, b⟩
  | _, _, _, i + 1, .fo g t => let ⟨os, a, b⟩ := Slots.setU i t; ⟨os, .fo g a, b⟩
  | _, _, _, i + 1, .me t => let ⟨os, a, b⟩ := Slots.setU i t; ⟨os, .me a, b⟩
/-- .. of a new object of one's own -/
theorem Slots.setO {p : Addr} (h : OwnAt G B H p x) : ∀ {σ : L2.St} {ρ : List Slot} {os : List Addr} (i : Nat), i < ρ.length → Slots G pn B H σ ρ os → ∃ os', Slots G pn B H (σ.set i (some (.ref p))) (ρ.set i (.o x)) os' ∧ (∀ q ∈ os', q = p ∨ q ∈ os) ∧ (os.Nodup → p ∉ os → os'.Nodup)
  | _, _, _, _, l, .nil => by cases l
  | _, _, _, 0, _, .u t => ⟨_, .o h t, fun q hq => (List.mem_cons.mp hq), fun n f => List.nodup_cons.mpr ⟨f, n⟩⟩
  | _, _, _, 0, _, .d _ t => ⟨_, .o h t, fun q hq => (List.mem_cons.mp hq), fun n f => List.nodup_cons.mpr ⟨f, n⟩⟩
  | _, _, _, 0, _, .o _ t => ⟨_, .o h t, fun q hq => (List.mem_cons.mp hq).imp id fun z => .tail _ z, fun n f => List.nodup_cons.mpr ⟨fun z => f (.tail _ z), (List.nodup_cons.mp n).2⟩⟩
  | _, _, _, 0, _, .p _ t => ⟨_, .o h t, fun q hq => (List.mem_cons.mp hq), fun n f => List.nodup_cons.mpr ⟨f, n⟩⟩
  | _, _, _, 0, _, .fo _ t => ⟨_, .o h t, fun q hq => (List.mem_cons.mp hq), fun n f => List.nodup_cons.mpr ⟨f, n⟩⟩
  | _, _, _, 0, _, .me t => ⟨_, .o h t, fun q hq => (List.mem_cons.mp hq), fun n f => List.nodup_cons.mpr ⟨f, n⟩⟩
  | _, _, _, i + 1, l, .u t => let ⟨os, a, b, c⟩ := Slots.setO h i (Nat.lt_of_succ_lt_succ l) t; ⟨os, .u a, b, c⟩
  | _, _, _, i + 1, l, .d g t => let ⟨os, a, b, c⟩ := Slots.setO h i (Nat.lt_of_succ_lt_succ l) t; ⟨os, .d g a, b, c⟩
  | _, _, _, i + 1, l, .o g t => let ⟨os, a, b, c⟩ := Slots.setO h i (Nat.lt_of_succ_lt_succ l) t
      ⟨_ :: os, .o g a, fun q hq => (List.mem_cons.mp hq).elim (fun z => .inr (z ▸ .head _)) fun z => (b q z).imp id fun y => .tail _ y,
        fun n f => List.nodup_cons.mpr ⟨fun z => (b _ z).elim (fun y => f (y ▸ .head _)) fun y => (List.nodup_cons.mp n).1 y, c (List.nodup_cons.mp n).2 fun z => f (.tail _ z)⟩⟩
  | _, _, _, i + 1, l, .p g t => let ⟨os, a, b, c⟩ := Slots.setO h i (Nat.lt_of_succ_lt_succ l) t; ⟨os, .p g a, b, c⟩
  | _, _, _, i + 1, l, .fo g t => let ⟨os, a, b, c⟩ := Slots.setO h i (Nat.lt_of_succ_lt_succ l) t; ⟨os, .fo g a, b, c⟩
  | _, _, _, i + 1, l, .me t => let ⟨os, a, b, c⟩ := Slots.setO h i (Nat.lt_of_succ_lt_succ l) t; ⟨os, .me a, b, c⟩
/-- an object of one's own changes -/
theorem Slots.mut {p : Addr} {y : D} : ∀ {σ : L2.St} {ρ : List Slot} {os : List Addr} (i : Nat), (∀ q ∈ os, q ≠ p → H' q = H q) → OwnAt G B H' p y → os.Nodup → σ[i]? = some (some (.ref p)) → ρ[i]? = some (.o x) → Slots G pn B H σ ρ os → Slots G pn B H' σ (ρ.set i (.o y)) os
  | _, _, _, _, _, _, _, e, _, .nil => by simp at e
  | _, _, _, 0, k, h, n, e, _, .o g t => by
    cases e
    exact .o h (t.grow (Same.refl _) fun q hq => k q (.tail _ hq) fun z => (List.nodup_cons.mp n).1 (z ▸ hq))
  | _, _, _, 0, _, _, _, _, f, .u _ => by cases f
  | _, _, _, 0, _, _, _, _, f, .d _ _ => by cases f
  | _, _, _, 0, _, _, _, _, f, .p _ _ => by cases f
  | _, _, _, 0, _, _, _, _, f, .fo _ _ => by cases f
  | _, _, _, 0, _, _, _, _, f, .me _ => by cases f
  | _, _, _, i + 1, k, h, n, e, f, .u t => .u (Slots.mut i k h n (by simpa using e) (by simpa using f) t)
  | _, _, _, i + 1, k, h, n, e, f, .d g t => .d g (Slots.mut i k h n (by simpa using e) (by simpa using f) t)
  | _, _, _, i + 1, k, h, n, e, f, .p g t => .p g (Slots.mut i k h n (by simpa using e) (by simpa using f) t)
  | _, _, _, i + 1, k, h, n, e, f, .fo g t => .fo g (Slots.mut i k h n (by simpa using e) (by simpa using f) t)
  | _, _, _, i + 1, k, h, n, e, f, .me t => .me (Slots.mut i k h n (by simpa using e) (by simpa using f) t)
  | _, _, _, i + 1, k, h, n, e, f, .o g t => by
    obtain ⟨p', e', _, m⟩ := Slots.getO (i := i) t (by simpa using f)
    have e2 : some (some (V.ref p')) = some (some (V.ref p)) := e'.symm.trans (by simpa using e)
    cases e2
    exact .o (g.keep (k _ (.head _) fun z => (List.nodup_cons.mp n).1 (z ▸ m)) (Same.refl _)) (Slots.mut i (fun q hq => k q (.tail _ hq)) h (List.nodup_cons.mp n).2 (by simpa using e) (by simpa using f) t)
/-- .. becomes data -/
theorem Slots.rel {p : Addr} (s : Same B B') (h : Rz G B' (.ref p) x) : ∀ {σ : L2.St} {ρ : List Slot} {os : List Addr} (i : Nat), os.Nodup → σ[i]? = some (some (.ref p)) → ρ[i]? = some (.o x) → Slots G pn B H σ ρ os → ∃ os', Slots G pn B' H σ (ρ.set i (.d x)) os' ∧ os'.Sublist os ∧ p ∉ os'
  | _, _, _, _, _, e, _, .nil => by simp at e
  | _, _, _, 0, n, e, _, .o g t => by
    cases e
    exact ⟨_, .d h (t.grow s fun _ _ => rfl), List.sublist_cons_self .., (List.nodup_cons.mp n).1⟩
  | _, _, _, 0, _, _, f, .u _ => by cases f
  | _, _, _, 0, _, _, f, .d _ _ => by cases f
  | _, _, _, 0, _, _, f, .p _ _ => by cases f
  | _, _, _, 0, _, _, f, .fo _ _ => by cases f
  | _, _, _, 0, _, _, f, .me _ => by cases f
  | _, _, _, i + 1, n, e, f, .u t => let ⟨os, a, b, c⟩ := Slots.rel s h i n (by simpa using e) (by simpa using f) t; ⟨os, .u a, b, c⟩
  | _, _, _, i + 1, n, e, f, .d g t => let ⟨os, a, b, c⟩ := Slots.rel s h i n (by simpa using e) (by simpa using f) t; ⟨os, .d (g.same s) a, b, c⟩
  | _, _, _, i + 1, n, e, f, .p g t => let ⟨os, a, b, c⟩ := Slots.rel s h i n (by simpa using e) (by simpa using f) t; ⟨os, .p g a, b, c⟩
  | _, _, _, i + 1, n, e, f, .fo g t => let ⟨os, a, b, c⟩ := Slots.rel s h i n (by simpa using e) (by simpa using f) t; ⟨os, .fo g a, b, c⟩
  | _, _, _, i + 1, n, e, f, .me t => let ⟨os, a, b, c⟩ := Slots.rel s h i n (by simpa using e) (by simpa using f) t; ⟨os, .me a, b, c⟩
  | _, _, _, i + 1, n, e, f, .o g t => by
    obtain ⟨p', e', _, m⟩ := Slots.getO (i := i) t (by simpa using f)
    have e2 : some (some (V.ref p')) = some (some (V.ref p)) := e'.symm.trans (by simpa using e)
    cases e2
    obtain ⟨os, a, b, c⟩ := Slots.rel s h i (List.nodup_cons.mp n).2 (by simpa using e) (by simpa using f) t
    refine ⟨_ :: os, .o (g.keep rfl s) a, b.cons₂ _, fun z => ?_⟩
    rcases List.mem_cons.mp z with z | z
    · exact (List.nodup_cons.mp n).1 (z ▸ m)
    · exact c z
theorem Slots.there : ∀ {σ : L2.St} {ρ : List Slot} {os : List Addr} {q : Addr}, Slots G pn B H σ ρ os → q ∈ os → ∃ o, H q = some o
  | _, _, _, _, .nil, h => by cases h
  | _, _, _, _, .u t, h => t.there h
  | _, _, _, _, .d _ t, h => t.there h
  | _, _, _, _, .p _ t, h => t.there h
  | _, _, _, _, .fo _ t, h => t.there h
  | _, _, _, _, .me t, h => t.there h
  | _, _, _, _, .o g t, h => (List.mem_cons.mp h).elim (fun z => z ▸ g.at) fun z => t.there z
/-! ### the whole -/
theorem Rl.get (r : Rl G U pn e σ H B) {i : Nat} (h : e.sl[i]? = some (.d x)) : ∃ v, σ[i]? = some (some v) ∧ Rz G B v x := by
  obtain ⟨os, s, _, _⟩ := r.s
  exact s.get h
theorem Rl.getO (r : Rl G U pn e σ H B) {i : Nat} (h : e.sl[i]? = some (.o x)) : ∃ p, σ[i]? = some (some (.ref p)) ∧ OwnAt G B H p x ∧ B p = none ∧ U p = none ∧ NP pn p := by
  obtain ⟨os, s, _, f⟩ := r.s
  obtain ⟨p, h1, h2, h3⟩ := s.getO h
  exact ⟨p, h1, h2, f p h3⟩
theorem Rl.new (r : Rl G U pn e σ H B) {p : Addr} {o : HO} (h : H p = none) : Rl G U pn e σ (upd H p o) (upd B p o) := by
  have tb := r.b.tabN (o := o) (o2 := o) h (.inr rfl) (.inl rfl)
  obtain ⟨⟨bh, uh, bu, pe⟩, os, s, n, f⟩ := r
  have hB : B p = none := bh.free h
  have hU : U p = none := uh.free h
  refine ⟨⟨fun a x hx => ?_, uh.trans (same_upd h), fun a x hx => ?_, fun q hq => ?_, tb⟩, os, s.grow (same_upd hB) (fun q hq => ?_), n, fun q hq => ?_⟩
  · by_cases z : a = p
    · rw [z, upd_same] at hx ⊢; exact hx
    · rw [upd_ne z] at hx ⊢; exact bh a x hx
  · by_cases z : a = p
    · rw [z]; exact hU
    · rw [upd_ne z] at hx; exact bu a x hx
  · obtain ⟨h1, h2, h3, h4⟩ := pe q hq
    have nq : q.1 ≠ p := fun z => by rw [← z, h3] at h; cases h
    exact ⟨(upd_ne nq).trans h1, h2, (upd_ne nq).trans h3, same_upd hB _ _ h4⟩
  · obtain ⟨p', hp⟩ := s.there hq
    exact upd_ne (ne_of_none hp h)
  · obtain ⟨h1, h2, h3⟩ := f q hq
    have nq : q ≠ p := fun z => by
      obtain ⟨o, ho⟩ := s.there hq
      rw [z, h] at ho
      cases ho
    exact ⟨(upd_ne nq).trans h1, h2, h3⟩
/-- a new object that is not yet data -/
structure Fresh (G : Gm) (U : Hp) (pn : Pn) (e : Ev) (σ : L2.St) (H B : Hp) (p : Addr) (x : D) : Prop where
  b : Base U pn e.pen H B
  s : ∃ os, Slots G pn B H σ e.sl os ∧ os.Nodup ∧ Free U pn B os ∧ p ∉ os
  o : OwnAt G B H p x
  n : B p = none ∧ U p = none ∧ NP pn p
theorem Fresh.rl {p : Addr} (r : Fresh G U pn e σ H B p x) : Rl G U pn e σ H B := by
  obtain ⟨os, s, n, f, _⟩ := r.s
  exact ⟨r.b, os, s, n, f⟩
/-- .. made data -/
theorem base_in {q : PenS} {p : Addr} {o : HO} (b : Base U pn q H B) (h : H p = some o) (hB : B p = none) (hU : U p = none) (hn : NP pn p) : Base U pn q H (upd B p o) := by
  refine ⟨fun a x hx => ?_, b.uh, fun a x hx => ?_, fun q hq => ?_, fun q hq => ?_⟩
  rotate_right
  · obtain ⟨h1, h2, h3, h4⟩ := b.tab q hq
    exact ⟨fun t ht => ⟨(upd_ne (fun z => (hn q hq).2 t ht z.symm)).trans (h1 t ht).1, (h1 t ht).2⟩, h2, h3, h4.trans (same_upd hB)⟩
  · by_cases z : a = p
    · rw [z, upd_same] at hx; rw [z, h]; exact hx
    · rw [upd_ne z] at hx; exact b.bh a x hx
  · by_cases z : a = p
    · rw [z]; exact hU
    · rw [upd_ne z] at hx; exact b.bu a x hx
  · obtain ⟨h1, h2, h3, h4⟩ := b.pen q hq
    exact ⟨(upd_ne (fun z => (hn q hq).1 z.symm)).trans h1, h2, h3, same_upd hB _ _ h4⟩
theorem Fresh.data {p : Addr} (r : Fresh G U pn e σ H B p x) : ∃ B', Rl G U pn e σ H B' ∧ Same B B' ∧ Rz G B' (.ref p) x := by
  obtain ⟨os, s, n, f, np⟩ := r.s
  obtain ⟨o, ho⟩ := r.o.at
  obtain ⟨hB, hU, hn⟩ := r.n
  refine ⟨upd B p o, ⟨base_in r.b ho hB hU hn, os, s.grow (same_upd hB) (fun _ _ => rfl), n, fun q hq => ?_⟩, same_upd hB, r.o.free ho hB⟩
  obtain ⟨h1, h2, h3⟩ := f q hq
  exact ⟨(upd_ne (fun z => np (by rw [← z]; exact hq))).trans h1, h2, h3⟩
theorem Rl.setD (r : Rl G U pn e σ H B) (h : Rz G B v x) (i : Nat) : Rl G U pn ⟨e.sl.set i (.d x), e.pen⟩ (σ.set i (some v)) H B := by
  obtain ⟨b, os, s, n, f⟩ := r
  obtain ⟨os', s', sb⟩ := Slots.setD h i s
  exact ⟨b, os', s', sb.nodup n, fun q hq => f q (sb.subset hq)⟩
theorem Rl.setU (r : Rl G U pn e σ H B) {w : Option V} (i : Nat) : Rl G U pn ⟨e.sl.set i .u, e.pen⟩ (σ.set i w) H B := by
  obtain ⟨b, os, s, n, f⟩ := r
  obtain ⟨os', s', sb⟩ := Slots.setU (w := w) i s
  exact ⟨b, os', s', sb.nodup n, fun q hq => f q (sb.subset hq)⟩
theorem Fresh.setO {p : Addr} (r : Fresh G U pn e σ H B p x) {i : Nat} (hi : i < e.sl.length) : Rl G U pn ⟨e.sl.set i (.o x), e.pen⟩ (σ.set i (some (.ref p))) H B := by
  obtain ⟨os, s, n, f, np⟩ := r.s
  obtain ⟨os', s', sb, nd⟩ := Slots.setO r.o i hi s
  exact ⟨r.b, os', s', nd n np, fun q hq => (sb q hq).elim (fun z => z ▸ r.n) (f q)⟩
theorem Rl.mut (r : Rl G U pn e σ H B) {p : Addr} {o : HO} {y : D} {i : Nat} (hs : σ[i]? = some (some (.ref p))) (he : e.sl[i]? = some (.o x)) (h : OwnAt G B (upd H p o) p y) : Rl G U pn ⟨e.sl.set i (.o y), e.pen⟩ σ (upd H p o) B := by
  obtain ⟨p', e', ow, hB, hU, hn⟩ := r.getO he
  rw [hs] at e'
  cases e'
  obtain ⟨b, os, s, n, f⟩ := r
  refine ⟨⟨fun a x hx => ?_, fun a x hx => ?_, b.bu, fun q hq => ?_, fun q hq => ⟨(b.tab q hq).1, ow.tabs (b.tab q hq).2.1, ow.zat (b.tab q hq).2.2.1, (b.tab q hq).2.2.2⟩⟩, os, Slots.mut i (fun q _ z => upd_ne z) h n hs he s, n, f⟩
  · rw [upd_ne (ne_of_none hx hB)]; exact b.bh a x hx
  · rw [upd_ne (ne_of_none hx hU)]; exact b.uh a x hx
  · obtain ⟨h1, h2, h3, h4⟩ := b.pen q hq
    exact ⟨h1, h2, (upd_ne (fun z => (hn q hq).1 z.symm)).trans h3, h4⟩
theorem Rl.rel (r : Rl G U pn e σ H B) {i : Nat} (he : e.sl[i]? = some (.o x)) : ∃ B', Rl G U pn ⟨e.sl.set i (.d x), e.pen⟩ σ H B' ∧ Same B B' := by
  obtain ⟨p, hs, ow, hB, hU, hn⟩ := r.getO he
  obtain ⟨o, ho⟩ := ow.at
  obtain ⟨b, os, s, n, f⟩ := r
  obtain ⟨os', s', sb, np⟩ := Slots.rel (same_upd hB) (ow.free ho hB) i n hs he s
  refine ⟨upd B p o, ⟨base_in b ho hB hU hn, os', s', sb.nodup n, fun q hq => ?_⟩, same_upd hB⟩
  obtain ⟨h1, h2, h3⟩ := f q (sb.subset hq)
  exact ⟨(upd_ne (fun z => np (by rw [← z]; exact hq))).trans h1, h2, h3⟩
end
end Fw

set_option linter.all false
set_option maxRecDepth 100000
set_option maxHeartbeats 4000000
namespace Fw
open PySem PySem.Spec PyProof.Rows L2
/-! ### what an expression tells: a value, or an error with its fields -/
inductive Rs (α : Type) where
  | v (a : α) | x (c : Str) (ns : List Str) (ds : List D)
inductive Fl where
  | nx | bk | ct | rt (d : D) | x (c : Str) (ns : List Str) (ds : List D)
abbrev FG (α : Type) := Ev → Option (Rs α × PenS)
abbrev FS := Ev → Option (Fl × Ev)
def XAt (G : Gm) (B H : Hp) (cls : Value) (ao : Option Addr) (c : Str) (ns : List Str) (ds : List D) : Prop :=
  ∃ C a fvs, G.X c = some C ∧ cls = .ref C ∧ ao = some a ∧ H a = some (.xd fvs) ∧ fvs.map (·.1) = ns ∧ RzA G B (fvs.map (·.2)) ds
abbrev TG_ (W : Type) := L2.St → Hp → (W → Hp → Prop) → Prop
section
variable {α β γ : Type} {W W1 W2 : Type}
def retG (a : α) : FG α := fun e => some (.v a, e.pen)
def optG (o : Option α) : FG α := fun e => o.map fun d => (.v d, e.pen)
def bindG (f : FG α) (g : α → FG β) : FG β := fun e => match f e with
  | none => none
  | some (.x c ns ds, p) => some (.x c ns ds, p)
  | some (.v a, p) => g a ⟨e.sl, p⟩
def Post (G : Gm) (U : Hp) (pn : Pn) (E : XK) (R : Hp → Hp → W → α → Prop) (e : Ev) (σ : L2.St) (H B : Hp) (p' : PenS) (Q : W → Hp → Prop) : Rs α → Prop
  | .v d => ∀ v H' B', Rl G U pn ⟨e.sl, p'⟩ σ H' B' → Same B B' → Keep pn H H' → R B' H' v d → Q v H'
  | .x c ns ds => ∀ cls ao H' B', Base U pn p' H' B' → Same B B' → XAt G B' H' cls ao c ns ds → E cls ao H'
def CG (G : Gm) (pn : Pn) (E : XK) (R : Hp → Hp → W → α → Prop) (t : TG_ W) (f : FG α) : Prop :=
  ∀ U e σ H B r p' Q, Rl G U pn e σ H B → f e = some (r, p') → Post G U pn E R e σ H B p' Q r → t σ H Q
abbrev CE (G : Gm) (pn : Pn) (E : XK) (t : TE) (f : FG D) : Prop := CG G pn E (fun B _ v d => Rz G B v d) t f
abbrev CB (G : Gm) (pn : Pn) (E : XK) (t : TE) (f : FG D) : Prop := CG G pn E (fun B H v d => RzB G pn B H v d) t f
abbrev CA (G : Gm) (pn : Pn) (E : XK) (t : TA) (f : FG (List D)) : Prop := CG G pn E (fun B _ v d => RzA G B v d) t f
abbrev CT (G : Gm) (pn : Pn) (E : XK) (t : TT) (f : FG Bool) : Prop := CG G pn E (fun _ _ v d => v = d) t f
abbrev CO (G : Gm) (pn : Pn) (E : XK) (t : TO) (f : FG (Option Int)) : Prop := CG G pn E (fun _ _ v d => v = d) t f
variable {G : Gm} {U : Hp} {pn : Pn} {E : XK} {e : Ev} {σ : L2.St} {H B H' B' H1 B1 : Hp} {R : Hp → Hp → W → α → Prop} {R1 : Hp → Hp → W1 → β → Prop} {S2 : Hp → Hp → W2 → γ → Prop} {p' p1 : PenS}
theorem Post.up {Q : W → Hp → Prop} {r : Rs α} {q : PenS} (s : Same B B1) (k : Keep pn H H1) (h : Post G U pn E R e σ H B p' Q r) : Post G U pn E R ⟨e.sl, q⟩ σ H1 B1 p' Q r := by
  cases r with
  | v d => exact fun v H' B' r s' k' x => h v H' B' r (s.trans s') (k.trans k') x
  | x c ns ds => exact fun cls ao H' B' b s' x => h cls ao H' B' b (s.trans s') x
/-- one behind the other -/
theorem CG.bind {t : TG_ W} {k : W → L2.St → Hp → (W1 → Hp → Prop) → Prop} {f : FG α} {g : α → FG β} (h1 : CG G pn E R t f)
    (h2 : ∀ w a U e σ H B r p' Q, Rl G U pn e σ H B → R B H w a → g a e = some (r, p') → Post G U pn E R1 e σ H B p' Q r → k w σ H Q) :
    CG G pn E R1 (fun σ H Q => t σ H fun w H1 => k w σ H1 Q) (bindG f g) := by
  intro U e σ H B r p' Q rl hf post
  unfold bindG at hf
  cases hfe : f e with
  | none => rw [hfe] at hf; cases hf
  | some rp =>
    obtain ⟨r1, q1⟩ := rp
    rw [hfe] at hf
    cases r1 with
    | x c ns ds =>
      cases hf
      exact h1 U e σ H B _ _ _ rl hfe post
    | v a =>
      exact h1 U e σ H B _ _ _ rl hfe fun w H1 B1 rl1 s1 k1 rw1 => h2 w a U ⟨e.sl, q1⟩ σ H1 B1 r p' Q rl1 rw1 hf (post.up s1 k1)
theorem CG.mono {R' : Hp → Hp → W → α → Prop} {t : TG_ W} {f : FG α} (h : CG G pn E R t f) (hR : ∀ U p H B w a, Base U pn p H B → R B H w a → R' B H w a) : CG G pn E R' t f := by
  intro U e σ H B r p' Q rl hf post
  refine h U e σ H B r p' Q rl hf ?_
  cases r with
  | v d => exact fun v H' B' r s' k' x => post v H' B' r s' k' (hR _ _ _ _ _ _ r.b x)
  | x c ns ds => exact post
theorem CE.b {t : TE} {f : FG D} (h : CE G pn E t f) : CB G pn E t f := CG.mono h fun U p H B w a b h => by
  exact Rz.b (e := ⟨[], p⟩) b h
/-! ### names, constants -/
def slotD (i : Nat) : FG D := fun e => match e.sl[i]? with
  | some (.d x) => some (.v x, e.pen)
  | _ => none
def slotB (i : Nat) : FG D := fun e => match e.sl[i]? with
  | some (.d x) => some (.v x, e.pen)
  | some (.o x) => some (.v x, e.pen)
  | _ => none
theorem ce_var (i : Nat) : CE G pn E (tVar i) (slotD i) := by
  intro U e σ H B r p' Q rl hf post
  unfold slotD at hf
  split at hf
  · next x hx =>
    cases hf
    obtain ⟨v, hv, rz⟩ := rl.get hx
    exact ⟨v, hv, post v H B rl (Same.refl _) Keep.refl rz⟩
  · cases hf
theorem cb_var (i : Nat) : CB G pn E (tVar i) (slotB i) := by
  intro U e σ H B r p' Q rl hf post
  unfold slotB at hf
  split at hf
  · next x hx =>
    cases hf
    obtain ⟨v, hv, rz⟩ := rl.get hx
    exact ⟨v, hv, post v H B rl (Same.refl _) Keep.refl (rz.b rl.b)⟩
  · next x hx =>
    cases hf
    obtain ⟨p, hv, ow, _, _, n⟩ := rl.getO hx
    exact ⟨_, hv, post _ H B rl (Same.refl _) Keep.refl (ow.rb n)⟩
  · cases hf
theorem ce_const {v : V} {d : D} (h : ∀ B, Rz G B v d) : CE G pn E (tC v) (retG d) := by
  intro U e σ H B r p' Q rl hf post
  cases hf
  exact post v H B rl (Same.refl _) Keep.refl (h B)
theorem ce_int {i : Int} : CE G pn E (tC (.int i)) (retG (.int i)) := ce_const fun _ => .int i
theorem ce_str {i : Str} : CE G pn E (tC (.str i)) (retG (.str i)) := ce_const fun _ => .str i
theorem ce_bl {i : Bool} : CE G pn E (tC (.bl i)) (retG (.bool i)) := ce_const fun _ => .bl i
theorem ce_non : CE G pn E (tC .non) (retG .none) := ce_const fun _ => .non
/-! ### operations by values -/
def OpB (G : Gm) (pn : Pn) (r : R2) (φ : D → D → Option D) : Prop := ∀ U e σ H B x y a b c (Q : VK), Rl G U pn e σ H B → RzB G pn B H x a → RzB G pn B H y b → φ a b = some c →
  (∀ v H' B', Rl G U pn e σ H' B' → Same B B' → Keep pn H H' → Rz G B' v c → Q v H') → r x y H Q
def UnB (G : Gm) (pn : Pn) (r : V → Hp → VK → Prop) (φ : D → Option D) : Prop := ∀ U e σ H B x a c (Q : VK), Rl G U pn e σ H B → RzB G pn B H x a → φ a = some c →
  (∀ v H' B', Rl G U pn e σ H' B' → Same B B' → Keep pn H H' → Rz G B' v c → Q v H') → r x H Q
def op2 (φ : D → D → Option D) (f g : FG D) : FG D := bindG f fun a => bindG g fun b => optG (φ a b)
def op1 (φ : D → Option D) (f : FG D) : FG D := bindG f fun a => optG (φ a)
theorem optG_eq {o : Option α} {e : Ev} {r : Rs α} {p' : PenS} (h : optG o e = some (r, p')) : ∃ a, o = some a ∧ r = .v a ∧ p' = e.pen := by
  unfold optG at h
  cases o with
  | none => cases h
  | some a => cases h; exact ⟨a, rfl, rfl, rfl⟩
/-- a value, then a second one, the first one kept -/
theorem CB.bind2 {t : TE} {u : TG_ W1} {k : V → W1 → L2.St → Hp → (W2 → Hp → Prop) → Prop} {f : FG D} {g : FG β} {h : D → β → FG γ} (h1 : CB G pn E t f) (h2 : CG G pn E R1 u g)
    (h3 : ∀ v w a b U e σ H B r p' Q, Rl G U pn e σ H B → RzB G pn B H v a → R1 B H w b → h a b e = some (r, p') → Post G U pn E S2 e σ H B p' Q r → k v w σ H Q) :
    CG G pn E S2 (fun σ H Q => t σ H fun v H1 => u σ H1 fun w H2 => k v w σ H2 Q) (bindG f fun a => bindG g fun b => h a b) := by
  refine CG.bind h1 fun v a U e σ H B r p' Q rl rz hf post => ?_
  unfold bindG at hf
  cases hge : g e with
  | none => rw [hge] at hf; cases hf
  | some rp =>
    obtain ⟨r1, q1⟩ := rp
    rw [hge] at hf
    cases r1 with
    | x c ns ds =>
      cases hf
      exact h2 U e σ H B _ _ _ rl hge post
    | v b => exact h2 U e σ H B _ _ _ rl hge fun w H1 B1 rl1 s1 k1 rw1 => h3 v w a b U ⟨e.sl, q1⟩ σ H1 B1 r p' Q rl1 (rz.keep k1 s1) rw1 hf (post.up s1 k1)
theorem ce_op {r : R2} {φ : D → D → Option D} {ta tb : TE} {f g : FG D} (hr : OpB G pn r φ) (h1 : CB G pn E ta f) (h2 : CB G pn E tb g) : CE G pn E (tOp r ta tb) (op2 φ f g) := by
  refine CB.bind2 h1 h2 fun v w a b U e σ H B r p' Q rl ra rb hf post => ?_
  obtain ⟨c, hc, rfl, rfl⟩ := optG_eq hf
  exact hr U e σ H B v w a b c Q rl ra rb hc post
theorem ce_un {r : V → Hp → VK → Prop} {φ : D → Option D} {ta : TE} {f : FG D} (hr : UnB G pn r φ) (h1 : CB G pn E ta f) : CE G pn E (tUn r ta) (op1 φ f) := by
  refine CG.bind (t := ta) h1 fun v a U e σ H B r p' Q rl ra hf post => ?_
  obtain ⟨c, hc, rfl, rfl⟩ := optG_eq hf
  exact hr U e σ H B v a c Q rl ra hc post
/-! ### tests -/
def boolD : D → Option Bool
  | .bool b => some b
  | _ => none
def testG (f : FG D) : FG Bool := bindG f fun d => optG (boolD d)
theorem boolD_eq {d : D} {b : Bool} (h : boolD d = some b) : d = .bool b := by
  cases d <;> cases h <;> rfl
theorem ct_test {t : TE} {f : FG D} (h : CE G pn E t f) : CT G pn E (tTest t) (testG f) := by
  refine CG.bind (t := t) h fun v a U e σ H B r p' Q rl ra hf post => ?_
  obtain ⟨c, hc, rfl, rfl⟩ := optG_eq hf
  cases boolD_eq hc
  exact ⟨c, ra.bl_inv, post c H B rl (Same.refl _) Keep.refl rfl⟩
theorem ct_B {t : TE} {f : FG D} (h : CE G pn E t f) : CT G pn E (tB t) (testG f) := by
  refine CG.bind (t := t) h fun v a U e σ H B r p' Q rl ra hf post => ?_
  obtain ⟨c, hc, rfl, rfl⟩ := optG_eq hf
  cases boolD_eq hc
  exact ⟨c, ra.bl_inv, post c H B rl (Same.refl _) Keep.refl rfl⟩
def andG (f g : FG Bool) : FG Bool := bindG f fun b => if b = true then g else retG false
def orG (f g : FG Bool) : FG Bool := bindG f fun b => if b = true then retG true else g
def notG (f : FG Bool) : FG Bool := bindG f fun b => retG (!b)
theorem ct_and {t u : TT} {f g : FG Bool} (h1 : CT G pn E t f) (h2 : CT G pn E u g) : CT G pn E (tAnd t u) (andG f g) := by
  refine CG.bind (t := t) h1 fun v a U e σ H B r p' Q rl ra hf post => ?_
  cases ra
  cases v with
  | true => exact h2 U e σ H B r p' Q rl hf post
  | false => cases hf; exact post false H B rl (Same.refl _) Keep.refl rfl
theorem ct_or {t u : TT} {f g : FG Bool} (h1 : CT G pn E t f) (h2 : CT G pn E u g) : CT G pn E (tOr t u) (orG f g) := by
  refine CG.bind (t := t) h1 fun v a U e σ H B r p' Q rl ra hf post => ?_
  cases ra
  cases v with
  | true => cases hf; exact post true H B rl (Same.refl _) Keep.refl rfl
  | false => exact h2 U e σ H B r p' Q rl hf post
theorem ct_not {t : TT} {f : FG Bool} (h1 : CT G pn E t f) : CT G pn E (tNot t) (notG f) := by
  refine CG.bind (t := t) h1 fun v a U e σ H B r p' Q rl ra hf post => ?_
  cases ra
  cases hf
  exact post (!v) H B rl (Same.refl _) Keep.refl rfl
theorem ct_yes : CT G pn E tYes (retG true) := by
  intro U e σ H B r p' Q rl hf post
  cases hf
  exact post true H B rl (Same.refl _) Keep.refl rfl
def andV (f g : FG D) : FG D := bindG f fun d => bindG (optG (boolD d)) fun b => if b = true then g else retG (.bool false)
def orV (f g : FG D) : FG D := bindG f fun d => bindG (optG (boolD d)) fun b => if b = true then retG (.bool true) else g
def notV (f : FG D) : FG D := bindG f fun d => bindG (optG (boolD d)) fun b => retG (.bool (!b))
theorem bindOpt {o : Option α} {g : α → FG β} {e : Ev} {r : Rs β} {p' : PenS} (h : bindG (optG o) g e = some (r, p')) : ∃ a, o = some a ∧ g a e = some (r, p') := by
  unfold bindG optG at h
  cases o with
  | none => cases h
  | some a => exact ⟨a, rfl, h⟩
theorem ce_and {t u : TE} {f g : FG D} (h1 : CE G pn E t f) (h2 : CE G pn E u g) : CE G pn E (tAndV t u) (andV f g) := by
  refine CG.bind (t := t) h1 fun v a U e σ H B r p' Q rl ra hf post => ?_
  obtain ⟨b, hb, hf⟩ := bindOpt hf
  cases boolD_eq hb
  refine ⟨b, ra.bl_inv, ?_⟩
  cases b with
  | true => exact h2 U e σ H B r p' Q rl hf post
  | false => cases hf; exact post _ H B rl (Same.refl _) Keep.refl (.bl false)
theorem ce_or {t u : TE} {f g : FG D} (h1 : CE G pn E t f) (h2 : CE G pn E u g) : CE G pn E (tOrV t u) (orV f g) := by
  refine CG.bind (t := t) h1 fun v a U e σ H B r p' Q rl ra hf post => ?_
  obtain ⟨b, hb, hf⟩ := bindOpt hf
  cases boolD_eq hb
  refine ⟨b, ra.bl_inv, ?_⟩
  cases b with
  | true => cases hf; exact post _ H B rl (Same.refl _) Keep.refl (.bl true)
  | false => exact h2 U e σ H B r p' Q rl hf post
theorem ce_not {t : TE} {f : FG D} (h1 : CE G pn E t f) : CE G pn E (tNotV t) (notV f) := by
  refine CG.bind (t := t) h1 fun v a U e σ H B r p' Q rl ra hf post => ?_
  obtain ⟨b, hb, hf⟩ := bindOpt hf
  cases boolD_eq hb
  cases hf
  exact ⟨b, ra.bl_inv, post _ H B rl (Same.refl _) Keep.refl (.bl _)⟩
def ifG (c : FG Bool) (f g : FG D) : FG D := bindG c fun b => if b = true then f else g
theorem ce_if {c : TT} {t u : TE} {fc : FG Bool} {f g : FG D} (hc : CT G pn E c fc) (h1 : CE G pn E t f) (h2 : CE G pn E u g) : CE G pn E (tIf c t u) (ifG fc f g) := by
  refine CG.bind (t := c) hc fun v a U e σ H B r p' Q rl ra hf post => ?_
  cases ra
  cases v with
  | true => exact h1 U e σ H B r p' Q rl hf post
  | false => exact h2 U e σ H B r p' Q rl hf post
/-- a op b op c -/
def chainG (φ ψ : D → D → Option D) (f g h : FG D) : FG D := bindG f fun a => bindG g fun b => bindG (optG ((φ a b).bind boolD)) fun k => if k = true then bindG h fun c => optG (ψ b c) else retG (.bool false)
theorem ce_chain {r r' : R2} {φ ψ : D → D → Option D} {ta tb tc : TE} {f g h : FG D} (hr : OpB G pn r φ) (hr' : OpB G pn r' ψ) (h1 : CE G pn E ta f) (h2 : CE G pn E tb g) (h3 : CE G pn E tc h) : CE G pn E (tChain r r' ta tb tc) (chainG φ ψ f g h) := by
  refine CB.bind2 h1.b h2.b fun v w a b U e σ H B r p' Q rl ra rb hf post => ?_
  obtain ⟨k, hk, hf⟩ := bindOpt hf
  cases hab : φ a b with
  | none => rw [hab] at hk; cases hk
  | some z =>
    rw [hab] at hk
    cases boolD_eq hk
    refine hr U e σ H B v w a b _ _ rl ra rb hab fun x H1 B1 rl1 s1 k1 rz => ⟨k, rz.bl_inv, ?_⟩
    cases k with
    | true =>
      rw [if_pos rfl]
      have hf : bindG h (fun c => optG (ψ b c)) e = some (r, p') := hf
      unfold bindG at hf
      cases hge : h e with
      | none => rw [hge] at hf; cases hf
      | some rp =>
        obtain ⟨r1, q1⟩ := rp
        rw [hge] at hf
        cases r1 with
        | x c ns ds =>
          cases hf
          exact h3 U e σ H1 B1 _ _ _ rl1 hge (post.up s1 k1 (q := e.pen))
        | v c =>
          refine h3 U e σ H1 B1 _ _ _ rl1 hge fun y H2 B2 rl2 s2 k2 rc => ?_
          obtain ⟨c', hc, rfl, rfl⟩ := optG_eq hf
          refine hr' U ⟨e.sl, _⟩ σ H2 B2 w y b c c' Q rl2 (rb.keep (k1.trans k2) (s1.trans s2)) (rc.b rl2.b) hc fun z H3 B3 rl3 s3 k3 rz3 => post z H3 B3 rl3 ((s1.trans s2).trans s3) ((k1.trans k2).trans k3) rz3
    | false =>
      rw [if_neg (by simp)]
      cases hf
      exact post _ H1 B1 rl1 s1 k1 (.bl false)
/-! ### argument lists, tuples -/
def consG (f : FG D) (g : FG (List D)) : FG (List D) := bindG f fun a => bindG g fun as => retG (a :: as)
theorem ca_nil : CA G pn E tNil (retG []) := by
  intro U e σ H B r p' Q rl hf post
  cases hf
  exact post [] H B rl (Same.refl _) Keep.refl .nil
theorem ca_cons {t : TE} {u : TA} {f : FG D} {g : FG (List D)} (h1 : CE G pn E t f) (h2 : CA G pn E u g) : CA G pn E (tCons t u) (consG f g) := by
  intro U e σ H B r p' Q rl hf post
  unfold consG bindG at hf
  cases hfe : f e with
  | none => rw [hfe] at hf; cases hf
  | some rp =>
    obtain ⟨r1, q1⟩ := rp
    rw [hfe] at hf
    cases r1 with
    | x c ns ds => cases hf; exact h1 U e σ H B _ _ _ rl hfe post
    | v a =>
      refine h1 U e σ H B _ _ _ rl hfe fun w H1 B1 rl1 s1 k1 rw1 => ?_
      dsimp only at hf
      cases hge : g ⟨e.sl, q1⟩ with
      | none => rw [hge] at hf; cases hf
      | some rp2 =>
        obtain ⟨r2, q2⟩ := rp2
        rw [hge] at hf
        cases r2 with
        | x c ns ds => cases hf; exact h2 U ⟨e.sl, q1⟩ σ H1 B1 _ _ _ rl1 hge (post.up s1 k1)
        | v as =>
          cases hf
          exact h2 U ⟨e.sl, q1⟩ σ H1 B1 _ _ _ rl1 hge fun ws H2 B2 rl2 s2 k2 rws => post (w :: ws) H2 B2 rl2 (s1.trans s2) (k1.trans k2) (.cons (rw1.same s2) rws)
theorem line_of {n : Nat} (h : n ≤ 1000000) : n ≤ sizeLine := Nat.le_trans h (by decide)
theorem line_lt {n : Nat} (h : n ≤ 1000000) : n < sizeLine := Nat.lt_of_le_of_lt h (by decide)
/-- as many as a list may have here -/
def few (ds : List α) (x : β) : Option β := if ds.length ≤ 1000000 then some x else none
theorem few_eq {ds : List α} {x y : β} (h : few ds x = some y) : ds.length ≤ 1000000 ∧ x = y := by
  unfold few at h
  split at h
  · next z => cases h; exact ⟨z, rfl⟩
  · cases h
def tupG (f : FG (List D)) : FG D := bindG f fun ds => optG (few ds (.tuple ds))
theorem ce_tup {t : TA} {f : FG (List D)} (h : CA G pn E t f) : CE G pn E (tTup t) (tupG f) := by
  refine CG.bind (t := t) h fun vs ds U e σ H B r p' Q rl ra hf post => ?_
  obtain ⟨c, hc, rfl, rfl⟩ := optG_eq hf
  obtain ⟨hl, rfl⟩ := few_eq hc
  refine ⟨line_of (by rw [ra.length]; exact hl), fun p hp => ?_⟩
  exact post _ _ _ (rl.new hp) (same_upd (rl.b.bh.free hp)) (Keep.of (same_upd hp)) (.tup upd_same (ra.same (same_upd (rl.b.bh.free hp))))
/-! ### new lists and dicts: not yet data, or made data at once -/
def PostF (G : Gm) (U : Hp) (pn : Pn) (E : XK) (e : Ev) (σ : L2.St) (H B : Hp) (p' : PenS) (Q : VK) : Rs D → Prop
  | .v d => ∀ p H' B', Fresh G U pn ⟨e.sl, p'⟩ σ H' B' p d → Same B B' → Keep pn H H' → Q (.ref p) H'
  | .x c ns ds => ∀ cls ao H' B', Base U pn p' H' B' → Same B B' → XAt G B' H' cls ao c ns ds → E cls ao H'
def CF (G : Gm) (pn : Pn) (E : XK) (t : TE) (f : FG D) : Prop :=
  ∀ U e σ H B r p' Q, Rl G U pn e σ H B → f e = some (r, p') → PostF G U pn E e σ H B p' Q r → t σ H Q
theorem CF.ce {t : TE} {f : FG D} (h : CF G pn E t f) : CE G pn E t f := by
  intro U e σ H B r p' Q rl hf post
  refine h U e σ H B r p' Q rl hf ?_
  cases r with
  | v d =>
    intro p H' B' fr s k
    obtain ⟨B2, rl2, s2, rz⟩ := fr.data
    exact post _ H' B2 rl2 (s.trans s2) k rz
  | x c ns ds => exact post
theorem CF.b {t : TE} {f : FG D} (h : CF G pn E t f) : CB G pn E t f := (CF.ce h).b
theorem Slots.notin {H B : Hp} {σ : L2.St} {ρ : List Slot} {os : List Addr} {p : Addr} (s : Slots G pn B H σ ρ os) (h : H p = none) : p ∉ os := fun z => by
  obtain ⟨o, ho⟩ := s.there z
  rw [h] at ho
  cases ho
/-- what is laid anew -/
theorem Rl.fresh (r : Rl G U pn e σ H B) {p : Addr} {o : HO} {x : D} (h : H p = none) (ow : OwnAt G B (upd H p o) p x) : Fresh G U pn e σ (upd H p o) B p x := by
  have tb := r.b.tabN (o := o) (o2 := o) h (.inl rfl) (.inl rfl)
  have npn := r.b.npN h
  obtain ⟨⟨bh, uh, bu, pe⟩, os, s, n, f⟩ := r
  have hB : B p = none := bh.free h
  have hU : U p = none := uh.free h
  refine ⟨⟨bh.trans (same_upd h), uh.trans (same_upd h), bu, fun q hq => ?_, tb⟩, ⟨os, s.grow (Same.refl _) (fun q hq => ?_), n, f, s.notin h⟩, ow, hB, hU, npn⟩
  · obtain ⟨h1, h2, h3, h4⟩ := pe q hq
    have nq : q.1 ≠ p := fun z => by rw [← z, h3] at h; cases h
    exact ⟨h1, h2, (upd_ne nq).trans h3, h4⟩
  · exact upd_ne fun z => (s.notin h) (z ▸ hq)
def lstG (f : FG (List D)) : FG D := bindG f fun ds => optG (few ds (.list ds))
theorem bind_inv {f : FG α} {g : α → FG β} {e : Ev} {r : Rs β} {p' : PenS} (h : bindG f g e = some (r, p')) :
    (∃ c ns ds, f e = some (.x c ns ds, p') ∧ r = .x c ns ds) ∨ ∃ a q, f e = some (.v a, q) ∧ g a ⟨e.sl, q⟩ = some (r, p') := by
  unfold bindG at h
  split at h
  · cases h
  · next c ns ds p hx => cases h; exact .inl ⟨_, _, _, hx, rfl⟩
  · next a p hx => exact .inr ⟨_, _, hx, h⟩
theorem CF.bind {t : TG_ W} {k : W → L2.St → Hp → VK → Prop} {f : FG α} {g : α → FG D} (h1 : CG G pn E R t f)
    (h2 : ∀ w a U e σ H B r p' Q, Rl G U pn e σ H B → R B H w a → g a e = some (r, p') → PostF G U pn E e σ H B p' Q r → k w σ H Q) :
    CF G pn E (fun σ H Q => t σ H fun w H1 => k w σ H1 Q) (bindG f g) := by
  intro U e σ H B r p' Q rl hf post
  rcases bind_inv hf with ⟨c, ns, ds, hx, rfl⟩ | ⟨a, q, hx, hg⟩
  · exact h1 U e σ H B _ _ _ rl hx post
  · refine h1 U e σ H B _ _ _ rl hx fun w H1 B1 rl1 s1 k1 rw1 => h2 w a U ⟨e.sl, q⟩ σ H1 B1 r p' Q rl1 rw1 hg ?_
    cases r with
    | v d => exact fun p H' B' fr s k => post p H' B' fr (s1.trans s) (k1.trans k)
    | x c ns ds => exact fun cls ao H' B' b s x => post cls ao H' B' b (s1.trans s) x
theorem cf_lst {t : TA} {f : FG (List D)} (h : CA G pn E t f) : CF G pn E (tLst t) (lstG f) := by
  refine CF.bind (t := t) h fun vs ds U e σ H B r p' Q rl ra hf post => ?_
  obtain ⟨c, hc, rfl, rfl⟩ := optG_eq hf
  obtain ⟨hl, rfl⟩ := few_eq hc
  exact ⟨line_of (by rw [ra.length]; exact hl), fun p hp => post p _ B (rl.fresh hp (.lst upd_same ra)) (Same.refl _) (Keep.of (same_upd hp))⟩
theorem cf_dnewK : CF G pn E tDNewK (retG (.dict [])) := by
  intro U e σ H B r p' Q rl hf post
  cases hf
  exact fun p hp => post p _ B (rl.fresh hp (.dk (ks := []) (ds := []) upd_same .nil)) (Same.refl _) (Keep.of (same_upd hp))
theorem cf_dnewT : CF G pn E tDNewT (retG (.dict [])) := by
  intro U e σ H B r p' Q rl hf post
  cases hf
  exact fun p hp => post p _ B (rl.fresh hp (.dt (ks := []) (ds := []) upd_same .nil)) (Same.refl _) (Keep.of (same_upd hp))
/-! ### calls of built-ins by values -/
def CbB (G : Gm) (pn : Pn) (r : List V → Hp → VK → Prop) (φ : List D → Option D) : Prop := ∀ U e σ H B xs as c (Q : VK), Rl G U pn e σ H B → RzA G B xs as → φ as = some c →
  (∀ v H' B', Rl G U pn e σ H' B' → Same B B' → Keep pn H H' → Rz G B' v c → Q v H') → r xs H Q
def Cb1 (G : Gm) (pn : Pn) (r : List V → Hp → VK → Prop) (φ : D → Option D) : Prop := ∀ U e σ H B x a c (Q : VK), Rl G U pn e σ H B → RzB G pn B H x a → φ a = some c →
  (∀ v H' B', Rl G U pn e σ H' B' → Same B B' → Keep pn H H' → Rz G B' v c → Q v H') → r [x] H Q
def Cf1 (G : Gm) (pn : Pn) (r : List V → Hp → VK → Prop) (φ : D → Option D) : Prop := ∀ U e σ H B x a c (Q : VK), Rl G U pn e σ H B → RzB G pn B H x a → φ a = some c →
  (∀ p H' B', Fresh G U pn e σ H' B' p c → Same B B' → Keep pn H H' → Q (.ref p) H') → r [x] H Q
def cbG (φ : List D → Option D) (f : FG (List D)) : FG D := bindG f fun as => optG (φ as)
theorem ce_cb {r : List V → Hp → VK → Prop} {φ : List D → Option D} {t : TA} {f : FG (List D)} (hr : CbB G pn r φ) (h : CA G pn E t f) : CE G pn E (tCB r t) (cbG φ f) := by
  refine CG.bind (t := t) h fun vs ds U e σ H B r p' Q rl ra hf post => ?_
  obtain ⟨c, hc, rfl, rfl⟩ := optG_eq hf
  exact hr U e σ H B vs ds c Q rl ra hc post
theorem ce_cb1 {r : List V → Hp → VK → Prop} {φ : D → Option D} {t : TE} {f : FG D} (hr : Cb1 G pn r φ) (h : CB G pn E t f) : CE G pn E (tCB r (tCons t tNil)) (op1 φ f) := by
  refine CG.bind (t := t) h fun vs ds U e σ H B r p' Q rl ra hf post => ?_
  obtain ⟨c, hc, rfl, rfl⟩ := optG_eq hf
  exact hr U e σ H B vs ds c Q rl ra hc post
theorem cf_cb1 {r : List V → Hp → VK → Prop} {φ : D → Option D} {t : TE} {f : FG D} (hr : Cf1 G pn r φ) (h : CB G pn E t f) : CF G pn E (tCB r (tCons t tNil)) (op1 φ f) := by
  refine CF.bind (t := t) h fun vs ds U e σ H B r p' Q rl ra hf post => ?_
  obtain ⟨c, hc, rfl, rfl⟩ := optG_eq hf
  exact hr U e σ H B vs ds c Q rl ra hc post
end
end Fw

set_option linter.all false
set_option maxRecDepth 100000
set_option maxHeartbeats 4000000
namespace Fw
open PySem PySem.Spec PyProof.Rows L2
section
variable {X : Cx}
/-! ### operators, all kinds of operands in one rule -/
def uAdd (K : PySem.W.Frag) : R2 := fun x y H Q => (rI0 (fun i j => .int (i + j)) x y H Q ∨ (∃ i j, x = .str i ∧ y = .str j ∧ i.length + j.length ≤ sizeLine ∧ Q (.str (i ++ j)) H)) ∨ (rCat x y H Q ∨ rCatA K x y H Q)
theorem o_add : OpR X (binaryOp .Add) (uAdd X.K) := OpR.or (OpR.or op_add op_add_str) (OpR.or op_cat op_catA)
def uMul : R2 := fun x y H Q => rI CMul (fun i j => .int (i * j)) x y H Q ∨ rRep x y H Q
theorem o_mul : OpR X (binaryOp .Mult) uMul := OpR.or op_mul op_rep
def uSub : R2 := rI0 fun i j => .int (i - j)
theorem o_sub : OpR X (binaryOp .Sub) uSub := op_sub
def uMod : R2 := rI (fun _ j => j ≠ 0) fun i j => .int (i.fmod j)
theorem o_mod : OpR X (binaryOp .Mod) uMod := op_modN
def uDiv : R2 := rI CDivN fun i j => .int (i.fdiv j)
theorem o_div : OpR X (binaryOp .FloorDiv) uDiv := op_fdivN
def uAnd : R2 := rI0 fun i j => .int (Builtin.bitAnd i j)
theorem o_and : OpR X (binaryOp .BitAnd) uAnd := op_and
def uOr : R2 := rI0 fun i j => .int (Builtin.bitOr i j)
theorem o_or : OpR X (binaryOp .BitOr) uOr := op_or
def uXor : R2 := rI0 fun i j => .int (Builtin.bitXor i j)
theorem o_xor : OpR X (binaryOp .BitXor) uXor := op_xor
def uLt : R2 := rI0 fun i j => .bl (decide (i < j))
theorem o_lt : OpR X (compareOp .Lt) uLt := op_lt
def uLe : R2 := rI0 fun i j => .bl (decide (i ≤ j))
theorem o_le : OpR X (compareOp .LtE) uLe := op_le
def uGt : R2 := rI0 fun i j => .bl (decide (j < i))
theorem o_gt : OpR X (compareOp .Gt) uGt := op_gt
def uGe : R2 := rI0 fun i j => .bl (decide (j ≤ i))
theorem o_ge : OpR X (compareOp .GtE) uGe := op_ge
theorem o_eq (hu : X.A.units + 64 < cLine) : OpR X (compareOp .Eq) (rEqD X.K) := op_eqD hu
theorem o_ne (hu : X.A.units + 64 < cLine) : OpR X (compareOp .NotEq) (rNeD X.K) := op_neD hu
def uIsN : R2 := fun x y H Q => y = .non ∧ Q (.bl (decide (x = .non))) H
theorem o_isN : OpR X (compareOp .Is) uIsN := op_isN
def uNotN : R2 := fun x y H Q => y = .non ∧ Q (.bl (!decide (x = .non))) H
theorem o_notN : OpR X (compareOp .IsNot) uNotN := op_notN
/-! x in t, t a tuple -/
def rInTD (K : PySem.W.Frag) : R2 := fun x y H Q => ∃ d ds, Dp K H x d ∧ Dp K H y (.tuple ds) ∧ SeqAt.shaped d = true ∧ SeqAt.shaped (.tuple ds) = true ∧ Q (.bl (ds.any fun z => PyData.eqv z d)) H
def rNotInTD (K : PySem.W.Frag) : R2 := fun x y H Q => ∃ d ds, Dp K H x d ∧ Dp K H y (.tuple ds) ∧ SeqAt.shaped d = true ∧ SeqAt.shaped (.tuple ds) = true ∧ Q (.bl (!ds.any fun z => PyData.eqv z d)) H
theorem op_inTD (hu : X.A.units + 65 < cLine) : OpR X (compareOp .In) (rInTD X.K) := by
  intro pins s σ H x y v u Q I rx ry h
  obtain ⟨d, ds, hd, he, sd, se, q⟩ := h
  obtain ⟨as, r1⟩ := Dp.reads I d x v hd rx
  obtain ⟨bs, r2⟩ := Dp.reads I (.tuple ds) y u he ry
  exact SeqAt.in_tuple_reads r2 r1 (SeqAt.canLay_of_shaped se) (SeqAt.canLay_of_shaped sd) (room_in_shaped sd hu) ⟨.bl _, H, I, rfl, q⟩
theorem op_notInTD (hu : X.A.units + 65 < cLine) : OpR X (compareOp .NotIn) (rNotInTD X.K) := by
  intro pins s σ H x y v u Q I rx ry h
  obtain ⟨d, ds, hd, he, sd, se, q⟩ := h
  obtain ⟨as, r1⟩ := Dp.reads I d x v hd rx
  obtain ⟨bs, r2⟩ := Dp.reads I (.tuple ds) y u he ry
  exact SeqAt.notIn_tuple_reads r2 r1 (SeqAt.canLay_of_shaped se) (SeqAt.canLay_of_shaped sd) (room_in_shaped sd hu) ⟨.bl _, H, I, rfl, q⟩
def uIn (K : PySem.W.Frag) : R2 := fun x y H Q => rInD K x y H Q ∨ rInTD K x y H Q
def uNotIn (K : PySem.W.Frag) : R2 := fun x y H Q => rNotInD K x y H Q ∨ rNotInTD K x y H Q
theorem o_in (hu : X.A.units + 65 < cLine) : OpR X (compareOp .In) (uIn X.K) := OpR.or (op_inD hu) (op_inTD hu)
theorem o_notIn (hu : X.A.units + 65 < cLine) : OpR X (compareOp .NotIn) (uNotIn X.K) := OpR.or (op_notInD hu) (op_notInTD hu)
def uIx (K : PySem.W.Frag) : R2 := fun x y H Q => rIxL K x y H Q ∨ rIxT K x y H Q
theorem o_ix : IxR X (uIx X.K) := IxR.or ix_list ix_tup
def uSl (K : PySem.W.Frag) : V → Option Int → Option Int → Hp → VK → Prop := fun x lo hi H Q => rSlL K x lo hi H Q ∨ rSlA K x lo hi H Q
theorem o_sl : SlR X (uSl X.K) := SlR.or sl_list sl_tupA
def uNeg : V → Hp → VK → Prop := rU fun i => .int (-i)
theorem o_neg : UnR X (unaryOp .USub) uNeg := un_neg
/-! ### calls of built-ins -/
theorem CallR.or {f : Value} {r r' : List V → Hp → VK → Prop} (h : CallR X f r) (h' : CallR X f r') : CallR X f (fun xs H Q => r xs H Q ∨ r' xs H Q) := by
  intro pins s σ H xs us Q I rv q
  rcases q with q | q
  · exact h pins s σ H xs us Q I rv q
  · exact h' pins s σ H xs us Q I rv q
def uLen (K : PySem.W.Frag) : List V → Hp → VK → Prop := fun xs H Q => ∃ x n, xs = [x] ∧ LenV K x H n ∧ Q (.int n) H
theorem c_len : CallR X (.builtin "len") (uLen X.K) := call_len
def uLst (K : PySem.W.Frag) : List V → Hp → VK → Prop := fun xs H Q => ∃ p ys, xs = [V.ref p] ∧ (SqL K H p ys ∨ SqT K H p ys) ∧ ∀ l, H l = none → Q (.ref l) (upd H l (.lst ys))
theorem c_list : CallR X (.type "list") (uLst X.K) := call_list_of
def uTup (K : PySem.W.Frag) : List V → Hp → VK → Prop := fun xs H Q => ∃ p ys, xs = [V.ref p] ∧ ((SqL K H p ys ∧ ∀ l, H l = none → Q (.ref l) (upd H l (.tup ys))) ∨ (SqT K H p ys ∧ Q (.ref p) H))
theorem c_tuple : CallR X (.type "tuple") (uTup X.K) := call_tuple_of
def uInt : List V → Hp → VK → Prop := fun xs H Q => (∃ i, xs = [.int i] ∧ Q (.int i) H) ∨ ∃ k, xs = [.bl k] ∧ Q (.int (if k then 1 else 0)) H
theorem c_int : CallR X (.type "int") uInt := call_int1
def uAbs : List V → Hp → VK → Prop := fun xs H Q => ∃ i, xs = [.int i] ∧ Q (.int (if i < 0 then -i else i)) H
theorem c_abs : CallR X (.builtin "abs") uAbs := call_abs
theorem c_max (hc : X.calm = true) : CallR X (.builtin "max") (rMax X.K) := cr_max hc
theorem c_min (hc : X.calm = true) : CallR X (.builtin "min") (rMin X.K) := cr_min hc
theorem c_all (hc : X.calm = true) : CallR X (.builtin "all") (rAll X.K) := cr_all hc
theorem c_any (hc : X.calm = true) : CallR X (.builtin "any") (rAny X.K) := cr_any hc
end
/-! ### what they tell of data -/
def small (i : Int) : Bool := decide (-(2 ^ 64) < i) && decide (i < 2 ^ 64)
def dAdd : D → D → Option D
  | .int i, .int j => some (.int (i + j))
  | .str a, .str b => if a.length + b.length ≤ 1000000 then some (.str (a ++ b)) else none
  | .list a, .list b => few (a ++ b) (.list (a ++ b))
  | .tuple a, .tuple b => few (a ++ b) (.tuple (a ++ b))
  | _, _ => none
def dMul : D → D → Option D
  | .int i, .int j => if small i || small j then some (.int (i * j)) else none
  | .list a, .int k => if k ≤ 100000 ∧ a.length * k.toNat ≤ 1000000 ∧ -100000 ≤ k then some (.list (List.replicate k.toNat a).flatten) else none
  | _, _ => none
def dI (f : Int → Int → Int) : D → D → Option D
  | .int i, .int j => some (.int (f i j))
  | _, _ => none
def dB (f : Int → Int → Bool) : D → D → Option D
  | .int i, .int j => some (.bool (f i j))
  | _, _ => none
def dMod : D → D → Option D
  | .int i, .int j => if j ≠ 0 then some (.int (i.fmod j)) else none
  | _, _ => none
def dDiv : D → D → Option D
  | .int i, .int j => if j ≠ 0 ∧ j.natAbs < 1073741824 then some (.int (i.fdiv j)) else none
  | _, _ => none
def okD (d : D) : Bool := plain (nrm d) && SeqAt.shaped (nrm d)
def dEq (a b : D) : Option D := if okD a = true ∧ okD b = true then some (.bool (PyData.eqv (nrm a) (nrm b))) else none
def dNe (a b : D) : Option D := if okD a = true ∧ okD b = true then some (.bool (!PyData.eqv (nrm a) (nrm b))) else none
def dIn : D → D → Option D
  | a, .list ds => if okD a = true ∧ okD (.list ds) = true then some (.bool ((nrmA ds).any fun z => PyData.eqv z (nrm a))) else none
  | a, .tuple ds => if okD a = true ∧ okD (.tuple ds) = true then some (.bool ((nrmA ds).any fun z => PyData.eqv z (nrm a))) else none
  | a, .dict [(.bool false, .tuple ds)] => if okD a = true ∧ okD (.tuple ds) = true then some (.bool ((nrmA ds).any fun z => PyData.eqv z (nrm a))) else none
  | _, _ => none
def negD : Option D → Option D
  | some (.bool b) => some (.bool (!b))
  | _ => none
def dNotIn (a b : D) : Option D := negD (dIn a b)
def isNone : D → Bool
  | .none => true
  | _ => false
def dIsN : D → D → Option D
  | a, .none => some (.bool (isNone a))
  | _, _ => none
def dNotN : D → D → Option D
  | a, .none => some (.bool (!isNone a))
  | _, _ => none
def dIx : D → D → Option D
  | .list a, .int i => atI a i
  | .tuple a, .int i => atI a i
  | .dict [(.bool false, .tuple a)], .int i => atI a i
  | _, _ => none
def cutD (xs : List D) (lo hi : Option Int) : List D := (xs.drop (HT.sIx xs.length 0 lo)).take (HT.sIx xs.length xs.length hi - HT.sIx xs.length 0 lo)
def dSl (lo hi : Option Int) : D → Option D
  | .list a => some (.list (cutD a lo hi))
  | .tuple a => some (.tuple (cutD a lo hi))
  | _ => none
def dNeg : D → Option D
  | .int i => some (.int (-i))
  | _ => none
def dLen : D → Option D
  | .list a => some (.int a.length)
  | .tuple a => some (.int a.length)
  | .dict [(.bool false, .tuple a)] => some (.int a.length)
  | .str s => if s.length ≤ 1000000 then some (.int s.length) else none
  | _ => none
def dLst : D → Option D
  | .list a => some (.list a)
  | .tuple a => some (.list a)
  | _ => none
def dTup : D → Option D
  | .list a => some (.tuple a)
  | .tuple a => some (.tuple a)
  | _ => none
def dInt : D → Option D
  | .int i => some (.int i)
  | .bool b => some (.int (if b then 1 else 0))
  | _ => none
def dAbs : D → Option D
  | .int i => some (.int (if i < 0 then -i else i))
  | _ => none
def intsD : List D → Option (List Int)
  | [] => some []
  | .int i :: r => (intsD r).map (i :: ·)
  | _ => none
def boolsD : List D → Option (List Bool)
  | [] => some []
  | .bool i :: r => (boolsD r).map (i :: ·)
  | _ => none
def maxI : List Int → Option Int
  | [] => none
  | i :: r => match maxI r with
    | none => some i
    | some m => some (if i < m then m else i)
def minI : List Int → Option Int
  | [] => none
  | i :: r => match minI r with
    | none => some i
    | some m => some (if m < i then m else i)
def dMax : D → Option D
  | .list a => (intsD a).bind fun is => (maxI is).map .int
  | _ => none
def dMin : D → Option D
  | .list a => (intsD a).bind fun is => (minI is).map .int
  | _ => none
def dAll : D → Option D
  | .list a => (boolsD a).map fun bs => .bool (bs.all id)
  | _ => none
def dAny : D → Option D
  | .list a => (boolsD a).map fun bs => .bool (bs.any id)
  | _ => none
section
variable {G : Gm} {pn : Pn}
theorem RzA.ints_inv {B : Hp} : ∀ {vs : List V} {ds : List D} {is : List Int}, RzA G B vs ds → intsD ds = some is → vs = is.map V.int
  | _, _, _, .nil, h => by cases h; rfl
  | _, _, _, .cons (d := d) hd t, h => by
    cases d with
    | int i =>
      simp only [intsD] at h
      cases hr : intsD _ with
      | none => rw [hr] at h; cases h
      | some is =>
        rw [hr] at h; cases h
        rw [RzA.ints_inv t hr, hd.int_inv]; rfl
    | _ => cases h
theorem RzA.bools_inv {B : Hp} : ∀ {vs : List V} {ds : List D} {is : List Bool}, RzA G B vs ds → boolsD ds = some is → vs = is.map V.bl
  | _, _, _, .nil, h => by cases h; rfl
  | _, _, _, .cons (d := d) hd t, h => by
    cases d with
    | bool i =>
      simp only [boolsD] at h
      cases hr : boolsD _ with
      | none => rw [hr] at h; cases h
      | some is =>
        rw [hr] at h; cases h
        rw [RzA.bools_inv t hr, hd.bl_inv]; rfl
    | _ => cases h
theorem maxI_spec : ∀ {is : List Int} {m x : Int}, maxI is = some m → x ∈ is → (∀ y ∈ is, y ≤ x) → x = m
  | [], _, _, h, _, _ => by cases h
  | i :: r, m, x, h, hx, hy => by
    simp only [maxI] at h
    cases hr : maxI r with
    | none =>
      rw [hr] at h; cases h
      cases r with
      | nil => simpa using hx
      | cons a t => simp only [maxI] at hr; split at hr <;> cases hr
    | some k =>
      rw [hr] at h; cases h
      have e1 := hy i (.head _)
      have hk : k ∈ r ∧ ∀ y ∈ r, y ≤ k := by
        clear hx hy e1
        induction r generalizing k with
        | nil => cases hr
        | cons a t ih =>
          simp only [maxI] at hr
          cases ht : maxI t with
          | none =>
            rw [ht] at hr; cases hr
            cases t with
            | nil => simp
            | cons b u => simp only [maxI] at ht; split at ht <;> cases ht
          | some j =>
            rw [ht] at hr; cases hr
            obtain ⟨h1, h2⟩ := ih j ht
            split
            · refine ⟨.tail _ h1, fun y hy => ?_⟩
              rcases List.mem_cons.mp hy with z | z
              · omega
              · exact h2 y z
            · refine ⟨.head _, fun y hy => ?_⟩
              rcases List.mem_cons.mp hy with z | z
              · omega
              · have := h2 y z; omega
      have e2 := hy k (.tail _ hk.1)
      rcases List.mem_cons.mp hx with z | z
      · split <;> omega
      · have := hk.2 x z
        split <;> omega
theorem minI_spec : ∀ {is : List Int} {m x : Int}, minI is = some m → x ∈ is → (∀ y ∈ is, x ≤ y) → x = m
  | [], _, _, h, _, _ => by cases h
  | i :: r, m, x, h, hx, hy => by
    simp only [minI] at h
    cases hr : minI r with
    | none =>
      rw [hr] at h; cases h
      cases r with
      | nil => simpa using hx
      | cons a t => simp only [minI] at hr; split at hr <;> cases hr
    | some k =>
      rw [hr] at h; cases h
      have e1 := hy i (.head _)
      have hk : k ∈ r ∧ ∀ y ∈ r, k ≤ y := by
        clear hx hy e1
        induction r generalizing k with
        | nil => cases hr
        | cons a t ih =>
          simp only [minI] at hr
          cases ht : minI t with
          | none =>
            rw [ht] at hr; cases hr
            cases t with
            | nil => simp
            | cons b u => simp only [minI] at ht; split at ht <;> cases ht
          | some j =>
            rw [ht] at hr; cases hr
            obtain ⟨h1, h2⟩ := ih j ht
            split
            · refine ⟨.tail _ h1, fun y hy => ?_⟩
              rcases List.mem_cons.mp hy with z | z
              · omega
              · exact h2 y z
            · refine ⟨.head _, fun y hy => ?_⟩
              rcases List.mem_cons.mp hy with z | z
              · omega
              · have := h2 y z; omega
      have e2 := hy k (.tail _ hk.1)
      rcases List.mem_cons.mp hx with z | z
      · split <;> omega
      · have := hk.2 x z
        split <;> omega
theorem maxI_ne {is : List Int} {m : Int} (h : maxI is = some m) : 0 < is.length := by cases is with | nil => cases h | cons => simp
theorem minI_ne {is : List Int} {m : Int} (h : minI is = some m) : 0 < is.length := by cases is with | nil => cases h | cons => simp
theorem RzA.atI {B : Hp} {vs : List V} {ds : List D} {i : Int} {d : D} (h : RzA G B vs ds) (e : atI ds i = some d) : ∃ x, L2.atI vs i = some x ∧ Rz G B x d := by
  unfold L2.atI at e ⊢
  rw [h.length]
  cases hj : ixN ds.length i with
  | none => rw [hj] at e; cases e
  | some j =>
    rw [hj] at e
    exact h.get e
theorem RzA.cut {B : Hp} {vs : List V} {ds : List D} (h : RzA G B vs ds) (lo hi : Option Int) : RzA G B (cutV vs lo hi) (cutD ds lo hi) := by
  unfold cutV cutD
  rw [h.length]
  exact (h.drop _).take _
theorem ob_add : OpB G pn (uAdd G.K) dAdd := by
  intro U e σ H B x y a b c Q rl ra rb h q
  unfold dAdd at h
  split at h
  · cases h
    cases ra.int_inv; cases rb.int_inv
    exact .inl (.inl ⟨_, _, rfl, rfl, q _ H B rl (Same.refl _) Keep.refl (.int _)⟩)
  · split at h
    · next hz =>
      cases h
      cases ra.str_inv; cases rb.str_inv
      exact .inl (.inr ⟨_, _, rfl, rfl, line_of hz, q _ H B rl (Same.refl _) Keep.refl (.str _)⟩)
    · cases h
  · obtain ⟨hl, rfl⟩ := few_eq h
    obtain ⟨a1, xs, rfl, h1, n1, r1⟩ := ra.lst_inv
    obtain ⟨a2, ys, rfl, h2, n2, r2⟩ := rb.lst_inv
    have r := r1.app r2
    refine .inr (.inl ⟨a1, a2, xs, ys, rfl, rfl, h1, h2, ?_, fun p hp => ?_⟩)
    · rw [← List.length_append, r.length]; exact line_of hl
    · have hB := rl.b.bh.free hp
      exact q _ _ _ (rl.new hp) (same_upd hB) (Keep.of (same_upd hp)) (.lst upd_same (r.same (same_upd hB)))
  · obtain ⟨hl, rfl⟩ := few_eq h
    obtain ⟨a1, xs, rfl, h1, r1⟩ := ra.tup_inv
    obtain ⟨a2, ys, rfl, h2, r2⟩ := rb.tup_inv
    have r := r1.app r2
    refine .inr (.inr ⟨a1, a2, xs, ys, rfl, rfl, same_t rl.b.bh h1, same_t rl.b.bh h2, ?_, fun z => ?_, fun _ z => ?_, fun _ _ p hp => ?_⟩)
    · rw [← List.length_append, r.length]; exact line_of hl
    · subst z; cases r1; exact q _ H B rl (Same.refl _) Keep.refl (.tup h2 r2)
    · subst z; cases r2; rw [List.append_nil] at q; exact q _ H B rl (Same.refl _) Keep.refl (.tup h1 r1)
    · have hB := rl.b.bh.free hp
      exact q _ _ _ (rl.new hp) (same_upd hB) (Keep.of (same_upd hp)) (.tup upd_same (r.same (same_upd hB)))
  · cases h
theorem small_mul {i j : Int} (h : (small i || small j) = true) : CMul i j := by
  unfold small at h
  simp only [Bool.or_eq_true, Bool.and_eq_true, decide_eq_true_eq] at h
  exact h.imp id id
theorem ob_mul : OpB G pn uMul dMul := by
  intro U e σ H B x y a b c Q rl ra rb h q
  unfold dMul at h
  split at h
  · split at h
    · next hz =>
      cases h
      cases ra.int_inv; cases rb.int_inv
      exact .inl ⟨_, _, rfl, rfl, small_mul hz, q _ H B rl (Same.refl _) Keep.refl (.int _)⟩
    · cases h
  · split at h
    · next hz =>
      cases h
      obtain ⟨a1, xs, rfl, h1, n1, r1⟩ := ra.lst_inv
      cases rb.int_inv
      refine .inr ⟨a1, _, xs, rfl, rfl, h1, by omega, by omega, by rw [r1.length]; exact line_of hz.2.1, fun p hp => ?_⟩
      have hB := rl.b.bh.free hp
      exact q _ _ _ (rl.new hp) (same_upd hB) (Keep.of (same_upd hp)) (.lst upd_same ((r1.flat _).same (same_upd hB)))
    · cases h
  · cases h
theorem ob_I {f : Int → Int → Int} : OpB G pn (rI0 fun i j => .int (f i j)) (dI f) := by
  intro U e σ H B x y a b c Q rl ra rb h q
  unfold dI at h
  split at h
  · cases h
    cases ra.int_inv; cases rb.int_inv
    exact ⟨_, _, rfl, rfl, q _ H B rl (Same.refl _) Keep.refl (.int _)⟩
  · cases h
theorem ob_B {f : Int → Int → Bool} : OpB G pn (rI0 fun i j => .bl (f i j)) (dB f) := by
  intro U e σ H B x y a b c Q rl ra rb h q
  unfold dB at h
  split at h
  · cases h
    cases ra.int_inv; cases rb.int_inv
    exact ⟨_, _, rfl, rfl, q _ H B rl (Same.refl _) Keep.refl (.bl _)⟩
  · cases h
theorem ob_sub : OpB G pn uSub (dI fun i j => i - j) := ob_I
theorem ob_and : OpB G pn uAnd (dI Builtin.bitAnd) := ob_I
theorem ob_or : OpB G pn uOr (dI Builtin.bitOr) := ob_I
theorem ob_xor : OpB G pn uXor (dI Builtin.bitXor) := ob_I
theorem ob_lt : OpB G pn uLt (dB fun i j => decide (i < j)) := ob_B
theorem ob_le : OpB G pn uLe (dB fun i j => decide (i ≤ j)) := ob_B
theorem ob_gt : OpB G pn uGt (dB fun i j => decide (j < i)) := ob_B
theorem ob_ge : OpB G pn uGe (dB fun i j => decide (j ≤ i)) := ob_B
theorem ob_mod : OpB G pn uMod dMod := by
  intro U e σ H B x y a b c Q rl ra rb h q
  unfold dMod at h
  split at h
  · split at h
    · next hz =>
      cases h
      cases ra.int_inv; cases rb.int_inv
      exact ⟨_, _, rfl, rfl, hz, q _ H B rl (Same.refl _) Keep.refl (.int _)⟩
    · cases h
  · cases h
theorem ob_div : OpB G pn uDiv dDiv := by
  intro U e σ H B x y a b c Q rl ra rb h q
  unfold dDiv at h
  split at h
  · split at h
    · next hz =>
      cases h
      cases ra.int_inv; cases rb.int_inv
      exact ⟨_, _, rfl, rfl, hz, q _ H B rl (Same.refl _) Keep.refl (.int _)⟩
    · cases h
  · cases h
theorem okD_eq {d : D} (h : okD d = true) : plain (nrm d) = true ∧ SeqAt.shaped (nrm d) = true := by
  unfold okD at h
  simpa using h
theorem ob_eq : OpB G pn (rEqD G.K) dEq := by
  intro U e σ H B x y a b c Q rl ra rb h q
  unfold dEq at h
  split at h
  · next hz =>
    cases h
    exact ⟨nrm a, nrm b, ra.dpn rl.b.bh (okD_eq hz.1).1, rb.dpn rl.b.bh (okD_eq hz.2).1, (okD_eq hz.1).2, (okD_eq hz.2).2, q _ H B rl (Same.refl _) Keep.refl (.bl _)⟩
  · cases h
theorem ob_ne : OpB G pn (rNeD G.K) dNe := by
  intro U e σ H B x y a b c Q rl ra rb h q
  unfold dNe at h
  split at h
  · next hz =>
    cases h
    exact ⟨nrm a, nrm b, ra.dpn rl.b.bh (okD_eq hz.1).1, rb.dpn rl.b.bh (okD_eq hz.2).1, (okD_eq hz.1).2, (okD_eq hz.2).2, q _ H B rl (Same.refl _) Keep.refl (.bl _)⟩
  · cases h
theorem ob_in : OpB G pn (uIn G.K) dIn := by
  intro U e σ H B x y a b c Q rl ra rb h q
  unfold dIn at h
  split at h
  · split at h
    · next hz =>
      cases h
      exact .inl ⟨nrm a, _, ra.dpn rl.b.bh (okD_eq hz.1).1, rb.dpn rl.b.bh (okD_eq hz.2).1, (okD_eq hz.1).2, (okD_eq hz.2).2, q _ H B rl (Same.refl _) Keep.refl (.bl _)⟩
    · cases h
  · split at h
    · next hz =>
      cases h
      exact .inr ⟨nrm a, _, ra.dpn rl.b.bh (okD_eq hz.1).1, rb.dpn rl.b.bh (okD_eq hz.2).1, (okD_eq hz.1).2, (okD_eq hz.2).2, q _ H B rl (Same.refl _) Keep.refl (.bl _)⟩
    · cases h
  · split at h
    · next ds hz =>
      cases h
      obtain ⟨a1, xs, rfl, h1, r1⟩ := RzB.kt_inv (ds := ds) rb
      have hp := (okD_eq hz.2).1
      exact .inr ⟨nrm a, _, ra.dpn rl.b.bh (okD_eq hz.1).1, .tup h1.sq (RzA.dpn (by simpa [nrm, plain] using hp) (r1.same rl.b.bh)), (okD_eq hz.1).2, (okD_eq hz.2).2, q _ H B rl (Same.refl _) Keep.refl (.bl _)⟩
    · cases h
  · cases h
theorem ob_notIn : OpB G pn (uNotIn G.K) dNotIn := by
  intro U e σ H B x y a b c Q rl ra rb h q
  unfold dNotIn dIn at h
  split at h
  · split at h
    · next hz =>
      cases h
      exact .inl ⟨nrm a, _, ra.dpn rl.b.bh (okD_eq hz.1).1, rb.dpn rl.b.bh (okD_eq hz.2).1, (okD_eq hz.1).2, (okD_eq hz.2).2, q _ H B rl (Same.refl _) Keep.refl (.bl _)⟩
    · cases h
  · split at h
    · next hz =>
      cases h
      exact .inr ⟨nrm a, _, ra.dpn rl.b.bh (okD_eq hz.1).1, rb.dpn rl.b.bh (okD_eq hz.2).1, (okD_eq hz.1).2, (okD_eq hz.2).2, q _ H B rl (Same.refl _) Keep.refl (.bl _)⟩
    · cases h
  · split at h
    · next ds hz =>
      cases h
      obtain ⟨a1, xs, rfl, h1, r1⟩ := RzB.kt_inv (ds := ds) rb
      have hp := (okD_eq hz.2).1
      exact .inr ⟨nrm a, _, ra.dpn rl.b.bh (okD_eq hz.1).1, .tup h1.sq (RzA.dpn (by simpa [nrm, plain] using hp) (r1.same rl.b.bh)), (okD_eq hz.1).2, (okD_eq hz.2).2, q _ H B rl (Same.refl _) Keep.refl (.bl _)⟩
    · cases h
  · cases h
theorem RzB.isN {B H : Hp} {v : V} {d : D} (h : RzB G pn B H v d) : decide (v = .non) = isNone d := by
  cases h <;> rfl
theorem ob_isN : OpB G pn uIsN dIsN := by
  intro U e σ H B x y a b c Q rl ra rb h q
  unfold dIsN at h
  split at h
  · cases h
    cases rb.non_inv
    exact ⟨rfl, ra.isN ▸ q _ H B rl (Same.refl _) Keep.refl (.bl _)⟩
  · cases h
theorem ob_notN : OpB G pn uNotN dNotN := by
  intro U e σ H B x y a b c Q rl ra rb h q
  unfold dNotN at h
  split at h
  · cases h
    cases rb.non_inv
    exact ⟨rfl, ra.isN ▸ q _ H B rl (Same.refl _) Keep.refl (.bl _)⟩
  · cases h
theorem ob_ix : OpB G pn (uIx G.K) dIx := by
  intro U e σ H B x y a b c Q rl ra rb h q
  unfold dIx at h
  split at h
  · obtain ⟨a1, xs, rfl, h1, n1, r1⟩ := ra.lst_inv
    cases rb.int_inv
    obtain ⟨z, hz, rz⟩ := r1.atI h
    exact .inl ⟨a1, xs, _, z, rfl, rfl, SqL.of h1, hz, q _ H B rl (Same.refl _) Keep.refl rz⟩
  · obtain ⟨a1, xs, rfl, h1, r1⟩ := ra.tup_inv
    cases rb.int_inv
    obtain ⟨z, hz, rz⟩ := r1.atI h
    exact .inr ⟨a1, xs, _, z, rfl, rfl, same_t rl.b.bh h1, hz, q _ H B rl (Same.refl _) Keep.refl rz⟩
  · next as i =>
    obtain ⟨a1, xs, rfl, h1, r1⟩ := RzB.kt_inv (ds := as) ra
    cases rb.int_inv
    obtain ⟨z, hz, rz⟩ := r1.atI h
    exact .inr ⟨a1, xs, _, z, rfl, rfl, h1.sq, hz, q _ H B rl (Same.refl _) Keep.refl rz⟩
  · cases h
theorem ub_neg : UnB G pn uNeg dNeg := by
  intro U e σ H B x a c Q rl ra h q
  unfold dNeg at h
  split at h
  · cases h
    cases ra.int_inv
    exact ⟨_, rfl, q _ H B rl (Same.refl _) Keep.refl (.int _)⟩
  · cases h
theorem b_len : Cb1 G pn (uLen G.K) dLen := by
  intro U e σ H B x a c Q rl ra h q
  unfold dLen at h
  split at h
  · cases h
    obtain ⟨a1, xs, rfl, h1, n1, r1⟩ := ra.lst_inv
    exact ⟨_, xs.length, rfl, .inl ⟨xs, SqL.of h1, rfl⟩, r1.length ▸ q _ H B rl (Same.refl _) Keep.refl (.int _)⟩
  · cases h
    obtain ⟨a1, xs, rfl, h1, r1⟩ := ra.tup_inv
    exact ⟨_, xs.length, rfl, .inr ⟨xs, same_t rl.b.bh h1, rfl⟩, r1.length ▸ q _ H B rl (Same.refl _) Keep.refl (.int _)⟩
  · next as =>
    cases h
    obtain ⟨a1, xs, rfl, h1, r1⟩ := RzB.kt_inv (ds := as) ra
    exact ⟨_, xs.length, rfl, .inr ⟨xs, h1.sq, rfl⟩, r1.length ▸ q _ H B rl (Same.refl _) Keep.refl (.int _)⟩
  · split at h
    · next hz =>
      cases h
      cases ra.str_inv
      exact ⟨_, _, rfl, ⟨line_of hz, rfl⟩, q _ H B rl (Same.refl _) Keep.refl (.int _)⟩
    · cases h
  · cases h
theorem f_list : Cf1 G pn (uLst G.K) dLst := by
  intro U e σ H B x a c Q rl ra h q
  unfold dLst at h
  split at h
  · cases h
    obtain ⟨a1, xs, rfl, h1, n1, r1⟩ := ra.lst_inv
    exact ⟨a1, xs, rfl, .inl (SqL.of h1), fun p hp => q p _ B (rl.fresh hp (.lst upd_same r1)) (Same.refl _) (Keep.of (same_upd hp))⟩
  · cases h
    obtain ⟨a1, xs, rfl, h1, r1⟩ := ra.tup_inv
    exact ⟨a1, xs, rfl, .inr (same_t rl.b.bh h1), fun p hp => q p _ B (rl.fresh hp (.lst upd_same r1)) (Same.refl _) (Keep.of (same_upd hp))⟩
  · cases h
theorem b_tuple : Cb1 G pn (uTup G.K) dTup := by
  intro U e σ H B x a c Q rl ra h q
  unfold dTup at h
  split at h
  · cases h
    obtain ⟨a1, xs, rfl, h1, n1, r1⟩ := ra.lst_inv
    refine ⟨a1, xs, rfl, .inl ⟨SqL.of h1, fun p hp => ?_⟩⟩
    have hB := rl.b.bh.free hp
    exact q _ _ _ (rl.new hp) (same_upd hB) (Keep.of (same_upd hp)) (.tup upd_same (r1.same (same_upd hB)))
  · cases h
    obtain ⟨a1, xs, rfl, h1, r1⟩ := ra.tup_inv
    exact ⟨a1, xs, rfl, .inr ⟨same_t rl.b.bh h1, q _ H B rl (Same.refl _) Keep.refl (.tup h1 r1)⟩⟩
  · cases h
theorem b_int : Cb1 G pn uInt dInt := by
  intro U e σ H B x a c Q rl ra h q
  unfold dInt at h
  split at h
  · cases h
    cases ra.int_inv
    exact .inl ⟨_, rfl, q _ H B rl (Same.refl _) Keep.refl (.int _)⟩
  · cases h
    cases ra.bl_inv
    exact .inr ⟨_, rfl, q _ H B rl (Same.refl _) Keep.refl (.int _)⟩
  · cases h
theorem b_abs : Cb1 G pn uAbs dAbs := by
  intro U e σ H B x a c Q rl ra h q
  unfold dAbs at h
  split at h
  · cases h
    cases ra.int_inv
    exact ⟨_, rfl, q _ H B rl (Same.refl _) Keep.refl (.int _)⟩
  · cases h
theorem b_max : Cb1 G pn (rMax G.K) dMax := by
  intro U e σ H B x a c Q rl ra h q
  unfold dMax at h
  split at h
  · next ds =>
    obtain ⟨is, h1, h2⟩ := Option.bind_eq_some_iff.mp h
    obtain ⟨m, h3, rfl⟩ := Option.map_eq_some_iff.mp h2
    obtain ⟨a1, xs, rfl, hx, n1, r1⟩ := ra.lst_inv
    refine ⟨a1, is, rfl, (r1.ints_inv h1) ▸ SqL.of hx, maxI_ne h3, fun z hz hy => ?_⟩
    rw [maxI_spec h3 hz hy]
    exact q _ H B rl (Same.refl _) Keep.refl (.int _)
  · cases h
theorem b_min : Cb1 G pn (rMin G.K) dMin := by
  intro U e σ H B x a c Q rl ra h q
  unfold dMin at h
  split at h
  · next ds =>
    obtain ⟨is, h1, h2⟩ := Option.bind_eq_some_iff.mp h
    obtain ⟨m, h3, rfl⟩ := Option.map_eq_some_iff.mp h2
    obtain ⟨a1, xs, rfl, hx, n1, r1⟩ := ra.lst_inv
    refine ⟨a1, is, rfl, (r1.ints_inv h1) ▸ SqL.of hx, minI_ne h3, fun z hz hy => ?_⟩
    rw [minI_spec h3 hz hy]
    exact q _ H B rl (Same.refl _) Keep.refl (.int _)
  · cases h
theorem b_all : Cb1 G pn (rAll G.K) dAll := by
  intro U e σ H B x a c Q rl ra h q
  unfold dAll at h
  split at h
  · next ds =>
    obtain ⟨is, h1, rfl⟩ := Option.map_eq_some_iff.mp h
    obtain ⟨a1, xs, rfl, hx, n1, r1⟩ := ra.lst_inv
    exact ⟨a1, is, rfl, (r1.bools_inv h1) ▸ SqL.of hx, q _ H B rl (Same.refl _) Keep.refl (.bl _)⟩
  · cases h
theorem b_any : Cb1 G pn (rAny G.K) dAny := by
  intro U e σ H B x a c Q rl ra h q
  unfold dAny at h
  split at h
  · next ds =>
    obtain ⟨is, h1, rfl⟩ := Option.map_eq_some_iff.mp h
    obtain ⟨a1, xs, rfl, hx, n1, r1⟩ := ra.lst_inv
    exact ⟨a1, is, rfl, (r1.bools_inv h1) ▸ SqL.of hx, q _ H B rl (Same.refl _) Keep.refl (.bl _)⟩
  · cases h
end
end Fw

set_option linter.all false
set_option maxRecDepth 100000
set_option maxHeartbeats 4000000
namespace Fw
open PySem PySem.Spec PyProof.Rows L2
section
variable {α β : Type}
/-! ### statements -/
def PostS (G : Gm) (U : Hp) (pn : Pn) (E : XK) (e' : Ev) (B : Hp) (Dn : Ends) : Fl → Prop
  | .nx => ∀ σ' H' B', Rl G U pn e' σ' H' B' → Same B B' → Dn.nx σ' H'
  | .bk => ∀ σ' H' B', Rl G U pn e' σ' H' B' → Same B B' → Dn.bk σ' H'
  | .ct => ∀ σ' H' B', Rl G U pn e' σ' H' B' → Same B B' → Dn.ct σ' H'
  | .rt d => ∀ v H' B', Base U pn e'.pen H' B' → Same B B' → Rz G B' v d → Dn.rt v H'
  | .x c ns ds => ∀ cls ao H' B', Base U pn e'.pen H' B' → Same B B' → XAt G B' H' cls ao c ns ds → E cls ao H'
def CS (G : Gm) (pn : Pn) (E : XK) (t : TS) (f : FS) : Prop :=
  ∀ U e σ H B r e' Dn, Rl G U pn e σ H B → f e = some (r, e') → PostS G U pn E e' B Dn r → t Dn σ H
variable {G : Gm} {U : Hp} {pn : Pn} {E : XK} {e : Ev} {σ : L2.St} {H B H' B' H1 B1 : Hp}
theorem PostS.up {Dn : Ends} {r : Fl} {e' : Ev} (s : Same B B1) (h : PostS G U pn E e' B Dn r) : PostS G U pn E e' B1 Dn r := by
  cases r with
  | nx => exact fun σ' H' B' r s' => h σ' H' B' r (s.trans s')
  | bk => exact fun σ' H' B' r s' => h σ' H' B' r (s.trans s')
  | ct => exact fun σ' H' B' r s' => h σ' H' B' r (s.trans s')
  | rt d => exact fun v H' B' b s' x => h v H' B' b (s.trans s') x
  | x c ns ds => exact fun cls ao H' B' b s' x => h cls ao H' B' b (s.trans s') x
def nextS : FS := fun e => some (.nx, e)
def breakS : FS := fun e => some (.bk, e)
def contS : FS := fun e => some (.ct, e)
def seqS (f g : FS) : FS := fun e => match f e with
  | some (.nx, e') => g e'
  | r => r
theorem cs_next : CS G pn E tNext nextS := by
  intro U e σ H B r e' Dn rl hf post
  cases hf
  exact post σ H B rl (Same.refl _)
theorem cs_break : CS G pn E tBreak breakS := by
  intro U e σ H B r e' Dn rl hf post
  cases hf
  exact post σ H B rl (Same.refl _)
theorem cs_cont : CS G pn E tCont contS := by
  intro U e σ H B r e' Dn rl hf post
  cases hf
  exact post σ H B rl (Same.refl _)
theorem cs_seq {t u : TS} {f g : FS} (h1 : CS G pn E t f) (h2 : CS G pn E u g) : CS G pn E (tSeq t u) (seqS f g) := by
  intro U e σ H B r e' Dn rl hf post
  unfold seqS at hf
  cases hfe : f e with
  | none => rw [hfe] at hf; cases hf
  | some rp =>
    obtain ⟨r1, e1⟩ := rp
    rw [hfe] at hf
    cases r1 with
    | nx => exact h1 U e σ H B _ _ { Dn with nx := u Dn } rl hfe fun σ1 H1 B1 rl1 s1 => h2 U e1 σ1 H1 B1 r e' Dn rl1 hf (post.up s1)
    | bk => cases hf; exact h1 U e σ H B _ _ { Dn with nx := u Dn } rl hfe post
    | ct => cases hf; exact h1 U e σ H B _ _ { Dn with nx := u Dn } rl hfe post
    | rt d => cases hf; exact h1 U e σ H B _ _ { Dn with nx := u Dn } rl hfe post
    | x c ns ds => cases hf; exact h1 U e σ H B _ _ { Dn with nx := u Dn } rl hfe post
/-- from an expression's outcome on -/
def thenS (f : FG α) (g : α → FS) : FS := fun e => match f e with
  | none => none
  | some (.x c ns ds, p) => some (.x c ns ds, ⟨e.sl, p⟩)
  | some (.v a, p) => g a ⟨e.sl, p⟩
theorem CS.of {W : Type} {R : Hp → Hp → W → α → Prop} {t : TG_ W} {k : W → TS} {f : FG α} {g : α → FS} (h1 : CG G pn E R t f)
    (h2 : ∀ w a U e σ H B r e' Dn, Rl G U pn e σ H B → R B H w a → g a e = some (r, e') → PostS G U pn E e' B Dn r → k w Dn σ H) :
    CS G pn E (fun Dn σ H => t σ H fun w H1 => k w Dn σ H1) (thenS f g) := by
  intro U e σ H B r e' Dn rl hf post
  unfold thenS at hf
  cases hfe : f e with
  | none => rw [hfe] at hf; cases hf
  | some rp =>
    obtain ⟨r1, q1⟩ := rp
    rw [hfe] at hf
    cases r1 with
    | x c ns ds => cases hf; exact h1 U e σ H B _ _ _ rl hfe post
    | v a => exact h1 U e σ H B _ _ _ rl hfe fun w H1 B1 rl1 s1 k1 rw1 => h2 w a U ⟨e.sl, q1⟩ σ H1 B1 r e' Dn rl1 rw1 hf (post.up s1)
def ifS (c : FG Bool) (f g : FS) : FS := thenS c fun b => if b = true then f else g
theorem cs_if {c : TT} {t u : TS} {fc : FG Bool} {f g : FS} (hc : CT G pn E c fc) (h1 : CS G pn E t f) (h2 : CS G pn E u g) : CS G pn E (tIfS c t u) (ifS fc f g) := by
  refine CS.of (t := c) hc fun w a U e σ H B r e' Dn rl ra hf post => ?_
  cases ra
  cases w with
  | true => exact h1 U e σ H B r e' Dn rl hf post
  | false => exact h2 U e σ H B r e' Dn rl hf post
def retS (f : FG D) : FS := thenS f fun d e => some (.rt d, e)
theorem cs_ret {t : TE} {f : FG D} (h : CE G pn E t f) : CS G pn E (tRet t) (retS f) := by
  refine CS.of (t := t) h fun w a U e σ H B r e' Dn rl ra hf post => ?_
  cases hf
  exact post w H B rl.b (Same.refl _) ra
theorem cs_retN : CS G pn E tRetN (retS (retG .none)) := by
  intro U e σ H B r e' Dn rl hf post
  cases hf
  exact post .non H B rl.b (Same.refl _) .non
def dropS (f : FG D) : FS := thenS f fun _ e => some (.nx, e)
theorem cs_drop {t : TE} {f : FG D} (h : CE G pn E t f) : CS G pn E (tDrop t) (dropS f) := by
  refine CS.of (t := t) h fun w a U e σ H B r e' Dn rl ra hf post => ?_
  cases hf
  exact post σ H B rl (Same.refl _)
/-! ### targets -/
abbrev FT := D → List Slot → Option (List Slot)
abbrev FTs := List D → List Slot → Option (List Slot)
def CTg (G : Gm) (pn : Pn) (g : TG) (f : FT) : Prop := ∀ U e σ H B v d sl' (Q : L2.St → Hp → Prop), Rl G U pn e σ H B → Rz G B v d → f d e.sl = some sl' →
  (∀ σ', Rl G U pn ⟨sl', e.pen⟩ σ' H B → Q σ' H) → g v σ H Q
def CTgs (G : Gm) (pn : Pn) (g : TGs) (f : FTs) : Prop := ∀ U e σ H B vs ds sl' (Q : L2.St → Hp → Prop), Rl G U pn e σ H B → RzA G B vs ds → f ds e.sl = some sl' →
  (∀ σ', Rl G U pn ⟨sl', e.pen⟩ σ' H B → Q σ' H) → g vs σ H Q
def nameT (i : Nat) : FT := fun d sl => some (sl.set i (.d d))
def nilT : FTs := fun ds sl => match ds with
  | [] => some sl
  | _ => none
def consT (f : FT) (g : FTs) : FTs := fun ds sl => match ds with
  | [] => none
  | d :: r => (f d sl).bind (g r)
def tupT (n : Nat) (f : FTs) : FT := fun d sl => match d with
  | .tuple ds => if ds.length = n then f ds sl else none
  | .dict [(.bool false, .tuple ds)] => if ds.length = n then f ds sl else none
  | _ => none
theorem tg_name (i : Nat) : CTg G pn (gName i) (nameT i) := by
  intro U e σ H B v d sl' Q rl rz h q
  cases h
  exact q _ (rl.setD rz i)
theorem tg_nil : CTgs G pn gNil nilT := by
  intro U e σ H B vs ds sl' Q rl rz h q
  unfold nilT at h
  split at h
  · cases h; cases rz; exact ⟨rfl, q σ rl⟩
  · cases h
theorem tg_cons {t : TG} {u : TGs} {f : FT} {g : FTs} (h1 : CTg G pn t f) (h2 : CTgs G pn u g) : CTgs G pn (gCons t u) (consT f g) := by
  intro U e σ H B vs ds sl' Q rl rz h q
  unfold consT at h
  cases rz with
  | nil => cases h
  | cons r1 r2 =>
    obtain ⟨sl1, e1, e2⟩ := Option.bind_eq_some_iff.mp h
    exact ⟨_, _, rfl, h1 U e σ H B _ _ sl1 _ rl r1 e1 fun σ' rl' => h2 U ⟨sl1, e.pen⟩ σ' H B _ _ sl' Q rl' r2 e2 q⟩
theorem tg_tup {n : Nat} {t : TGs} {f : FTs} (h1 : CTgs G pn t f) : CTg G pn (gTup G.K n t) (tupT n f) := by
  intro U e σ H B v d sl' Q rl rz h q
  unfold tupT at h
  split at h
  · next ds =>
    split at h
    · next hn =>
      obtain ⟨a, xs, rfl, hx, hr⟩ := rz.tup_inv
      exact ⟨a, xs, rfl, same_t rl.b.bh hx, by rw [hr.length, hn], h1 U e σ H B xs ds sl' Q rl hr h q⟩
    · cases h
  · next ds =>
    split at h
    · next hn =>
      obtain ⟨a, xs, rfl, hx, hr⟩ := Rz.kt_inv rl.b rz
      exact ⟨a, xs, rfl, hx.sq, by rw [hr.length, hn], h1 U e σ H B xs ds sl' Q rl hr h q⟩
    · cases h
  · cases h
def asgS (f : FG D) (t : FT) : FS := thenS f fun d e => (t d e.sl).map fun sl => (.nx, ⟨sl, e.pen⟩)
theorem cs_asg {t : TE} {g : TG} {f : FG D} {ft : FT} (h : CE G pn E t f) (hg : CTg G pn g ft) : CS G pn E (tAsg t g) (asgS f ft) := by
  refine CS.of (t := t) h fun w a U e σ H B r e' Dn rl ra hf post => ?_
  obtain ⟨sl, h1, h2⟩ := Option.map_eq_some_iff.mp hf
  cases h2
  exact hg U e σ H B w a sl _ rl ra h1 fun σ' rl' => post σ' H B rl' (Same.refl _)
/-- a new list or dict that will change -/
def asgO (f : FG D) (i : Nat) : FS := thenS f fun d e => if i < e.sl.length then some (.nx, ⟨e.sl.set i (.o d), e.pen⟩) else none
theorem cs_asgO {t : TE} {f : FG D} {i : Nat} (h : CF G pn E t f) : CS G pn E (tAsg t (gName i)) (asgO f i) := by
  intro U e σ H B r e' Dn rl hf post
  unfold asgO thenS at hf
  cases hfe : f e with
  | none => rw [hfe] at hf; cases hf
  | some rp =>
    obtain ⟨r1, q1⟩ := rp
    rw [hfe] at hf
    cases r1 with
    | x c ns ds => cases hf; exact h U e σ H B _ _ _ rl hfe post
    | v a =>
      dsimp only at hf
      split at hf
      · next hi =>
        cases hf
        exact h U e σ H B _ _ _ rl hfe fun p H1 B1 fr s1 k1 => post _ H1 B1 (fr.setO hi) s1
      · cases hf
/-- a, b = x, y -/
def parS (i j : Nat) (f : FG (List D)) : FS := thenS f fun ds e => match ds with
  | [a, b] => some (.nx, ⟨(e.sl.set i (.d a)).set j (.d b), e.pen⟩)
  | _ => none
theorem cs_par {i j : Nat} {t : TA} {f : FG (List D)} (h : CA G pn E t f) : CS G pn E (tPar i j t) (parS i j f) := by
  refine CS.of (t := t) h fun w a U e σ H B r e' Dn rl ra hf post => ?_
  split at hf
  · cases hf
    cases ra with
    | cons r1 r2 =>
      cases r2 with
      | cons r2 r3 =>
        cases r3
        exact ⟨_, _, rfl, post _ H B ((rl.setD r1 i).setD r2 j) (Same.refl _)⟩
  · cases hf
/-- what one owns becomes data: nothing runs -/
def relS (i : Nat) (f : FS) : FS := fun e => match e.sl[i]? with
  | some (.o x) => f ⟨e.sl.set i (.d x), e.pen⟩
  | some (.d _) => f e
  | _ => none
theorem cs_rel {t : TS} {f : FS} (i : Nat) (h : CS G pn E t f) : CS G pn E t (relS i f) := by
  intro U e σ H B r e' Dn rl hf post
  unfold relS at hf
  split at hf
  · next x hx =>
    obtain ⟨B1, rl1, s1⟩ := rl.rel hx
    exact h U _ σ H B1 r e' Dn rl1 hf (post.up s1)
  · exact h U e σ H B r e' Dn rl hf post
  · cases hf
/-! ### lists that change -/
def ownL (i : Nat) (e : Ev) : Option (List D) := match e.sl[i]? with
  | some (.o (.list ds)) => some ds
  | _ => none
theorem ownL_eq {i : Nat} {ds : List D} (h : ownL i e = some ds) : e.sl[i]? = some (.o (.list ds)) := by
  unfold ownL at h
  split at h
  · next ds' hx => cases h; exact hx
  · cases h
theorem Rl.lst (rl : Rl G U pn e σ H B) {i : Nat} {ds : List D} (h : ownL i e = some ds) : ∃ p xs, σ[i]? = some (some (.ref p)) ∧ H p = some (.lst xs) ∧ RzA G B xs ds := by
  obtain ⟨p, h1, h2, _⟩ := rl.getO (ownL_eq h)
  cases h2 with
  | lst h hs => exact ⟨p, _, h1, h, hs⟩
theorem Rl.lstPut (rl : Rl G U pn e σ H B) {i : Nat} {ds es : List D} {p : Addr} {ys : List V} (h : ownL i e = some ds) (hs : σ[i]? = some (some (.ref p))) (hr : RzA G B ys es) : Rl G U pn ⟨e.sl.set i (.o (.list es)), e.pen⟩ σ (upd H p (.lst ys)) B :=
  rl.mut hs (ownL_eq h) (.lst upd_same hr)
def appS (i : Nat) (f : FG D) : FS := fun e => (ownL i e).bind fun _ => thenS f (fun d e => (ownL i e).bind fun ds => few ds (.nx, ⟨e.sl.set i (.o (.list (ds ++ [d]))), e.pen⟩)) e
theorem cs_app {i : Nat} {t : TE} {f : FG D} (h : CE G pn E t f) : CS G pn E (tDrop (tBM G.K "list" rAppend (tVar i) (tCons t tNil))) (appS i f) := by
  intro U e σ H B r e' Dn rl hf post
  obtain ⟨ds0, h0, hf⟩ := Option.bind_eq_some_iff.mp hf
  obtain ⟨p0, xs0, e0, e2, e3⟩ := rl.lst h0
  refine ⟨_, e0, .inl ⟨rfl, xs0, SqL.of e2⟩, ?_⟩
  unfold thenS at hf
  cases hfe : f e with
  | none => rw [hfe] at hf; cases hf
  | some rp =>
    obtain ⟨r1, q1⟩ := rp
    rw [hfe] at hf
    cases r1 with
    | v a =>
      refine h U e σ H B _ _ _ rl hfe fun v H1 B1 rl1 s1 k1 rz => ?_
      obtain ⟨ds, h1, h2⟩ := Option.bind_eq_some_iff.mp hf
      obtain ⟨hl, h3⟩ := few_eq h2
      cases h3
      obtain ⟨p, xs, e1, e2, e3⟩ := rl1.lst h1
      rw [e0] at e1
      cases e1
      exact ⟨p0, xs, v, rfl, rfl, e2, line_lt (by rw [e3.length]; exact hl), post _ _ B1 (rl1.lstPut h1 e0 (e3.app (.cons rz .nil))) s1⟩
    | x c ns ds => cases hf; exact h U e σ H B _ _ _ rl hfe post
/-- xs[k] = e -/
def setS (i : Nat) (fk f : FG D) : FS := thenS f fun d => thenS fk fun k e => match k with
  | .int k => (ownL i e).bind fun ds => (ixN ds.length k).map fun j => (.nx, ⟨e.sl.set i (.o (.list (ds.set j d))), e.pen⟩)
  | _ => none
theorem thenS_inv {f : FG α} {g : α → FS} {r : Fl} {e' : Ev} (h : thenS f g e = some (r, e')) :
    (∃ c ns ds q, f e = some (.x c ns ds, q) ∧ r = .x c ns ds ∧ e' = ⟨e.sl, q⟩) ∨ ∃ a q, f e = some (.v a, q) ∧ g a ⟨e.sl, q⟩ = some (r, e') := by
  unfold thenS at h
  split at h
  · cases h
  · next c ns ds p hx => cases h; exact .inl ⟨_, _, _, _, hx, rfl, rfl⟩
  · next a p hx => exact .inr ⟨_, _, hx, h⟩
theorem cs_set {i : Nat} {t tk : TE} {f fk : FG D} (hk : CE G pn E tk fk) (h : CE G pn E t f) (hx : ∀ (e : Ev) d q, f e = some (.v d, q) → ∃ k q2, fk ⟨e.sl, q⟩ = some (.v k, q2)) :
    CS G pn E (tAsg t (gSub (tVar i) tk rSetL)) (setS i fk f) := by
  intro U e σ H B r e' Dn rl hf post
  rcases thenS_inv hf with ⟨c, ns, ds, q, h1, rfl, rfl⟩ | ⟨d, q, h1, h2⟩
  · exact h U e σ H B _ _ _ rl h1 post
  · refine h U e σ H B _ _ _ rl h1 fun v H1 B1 rl1 s1 k1 rz => ?_
    obtain ⟨k, q2, h3⟩ := hx e d q h1
    rcases thenS_inv h2 with ⟨c, ns, ds, q3, h4, rfl, rfl⟩ | ⟨k', q3, h4, h5⟩
    · rw [h3] at h4; cases h4
    · rw [h3] at h4
      cases h4
      dsimp only at h5
      split at h5
      · next k =>
        obtain ⟨ds, h6, h7⟩ := Option.bind_eq_some_iff.mp h5
        obtain ⟨j, h8, h9⟩ := Option.map_eq_some_iff.mp h7
        cases h9
        obtain ⟨p, xs, e1, e2, e3⟩ := rl1.lst (i := i) (ds := ds) h6
        refine ⟨_, e1, hk U ⟨e.sl, q⟩ σ H1 B1 _ _ _ rl1 h3 fun w H2 B2 rl2 s2 k2 rw => ?_⟩
        obtain ⟨p', xs', e1', e2', e3'⟩ := rl2.lst (i := i) (ds := ds) h6
        rw [e1] at e1'
        cases e1'
        cases rw.int_inv
        exact ⟨p, xs', k, j, rfl, rfl, e2', by rw [e3'.length]; exact h8, post _ _ B2 (rl2.lstPut h6 e1 (e3'.set (rz.same s2) j)) (s1.trans s2)⟩
      · cases h5
/-- xs.extend(ys), ys a list -/
def extS (i : Nat) (f : FG D) : FS := fun e => (ownL i e).bind fun _ => thenS f (fun d e => match d with
  | .list es => (ownL i e).bind fun ds => few (ds ++ es) (.nx, ⟨e.sl.set i (.o (.list (ds ++ es))), e.pen⟩)
  | .tuple es => (ownL i e).bind fun ds => few (ds ++ es) (.nx, ⟨e.sl.set i (.o (.list (ds ++ es))), e.pen⟩)
  | _ => none) e
def rExtT (K : PySem.W.Frag) : V → List V → Hp → VK → Prop := fun x vs H Q => ∃ l b xs ys, x = .ref l ∧ vs = [.ref b] ∧ H l = some (.lst xs) ∧ SqT K H b ys ∧ xs.length + ys.length ≤ sizeLine ∧ Q .non (upd H l (.lst (xs ++ ys)))
def uExt (K : PySem.W.Frag) : V → List V → Hp → VK → Prop := fun x vs H Q => rExtend x vs H Q ∨ rExtT K x vs H Q
theorem cs_ext {i : Nat} {t : TE} {f : FG D} (h : CE G pn E t f) : CS G pn E (tDrop (tBM G.K "list" (uExt G.K) (tVar i) (tCons t tNil))) (extS i f) := by
  intro U e σ H B r e' Dn rl hf post
  obtain ⟨ds0, h0, hf⟩ := Option.bind_eq_some_iff.mp hf
  obtain ⟨p0, xs0, e0, e2, e3⟩ := rl.lst h0
  refine ⟨_, e0, .inl ⟨rfl, xs0, SqL.of e2⟩, ?_⟩
  unfold thenS at hf
  cases hfe : f e with
  | none => rw [hfe] at hf; cases hf
  | some rp =>
    obtain ⟨r1, q1⟩ := rp
    rw [hfe] at hf
    cases r1 with
    | v a =>
      refine h U e σ H B _ _ _ rl hfe fun v H1 B1 rl1 s1 k1 rz => ?_
      dsimp only at hf
      split at hf
      · obtain ⟨ds, h1, h2⟩ := Option.bind_eq_some_iff.mp hf
        obtain ⟨hl, h3⟩ := few_eq h2
        cases h3
        obtain ⟨p, xs, e1, e2, e3⟩ := rl1.lst h1
        rw [e0] at e1
        cases e1
        obtain ⟨b, ys, rfl, hy, ry⟩ := rz.lst_inv
        refine .inl ⟨p0, b, xs, ys, rfl, rfl, e2, rl1.b.bh _ _ hy, ?_, post _ _ B1 (rl1.lstPut h1 e0 (e3.app ry)) s1⟩
        rw [← List.length_append, (e3.app ry).length]
        exact line_of hl
      · obtain ⟨ds, h1, h2⟩ := Option.bind_eq_some_iff.mp hf
        obtain ⟨hl, h3⟩ := few_eq h2
        cases h3
        obtain ⟨p, xs, e1, e2, e3⟩ := rl1.lst h1
        rw [e0] at e1
        cases e1
        obtain ⟨b, ys, rfl, hy, ry⟩ := rz.tup_inv
        refine .inr ⟨p0, b, xs, ys, rfl, rfl, e2, same_t rl1.b.bh hy, ?_, post _ _ B1 (rl1.lstPut h1 e0 (e3.app ry)) s1⟩
        rw [← List.length_append, (e3.app ry).length]
        exact line_of hl
      · cases hf
    | x c ns ds => cases hf; exact h U e σ H B _ _ _ rl hfe post
end
end Fw

set_option linter.all false
set_option maxRecDepth 100000
set_option maxHeartbeats 4000000
namespace Fw
open PySem PySem.Spec PyProof.Rows L2
section
variable {α β : Type} {G : Gm} {U : Hp} {pn : Pn} {E : XK} {e : Ev} {σ : L2.St} {H B H' B' H1 B1 : Hp}
/-! ### what is walked -/
def Walks (G : Gm) (pn : Pn) (J : It) (ds : List D) (B0 : Hp) : Prop := ∀ (i : Nat) (U H B : Hp) (e : Ev) (σ : L2.St), Same B0 B → Rl G U pn e σ H B →
  (ds.length ≤ i → J.stop i H) ∧ ∀ d, ds[i]? = some d → J.go i H ∧ ∀ x H', J.yld i H x H' → ∃ B', Same B B' ∧ Same H H' ∧ (∀ U e σ, Rl G U pn e σ H B → Rl G U pn e σ H' B') ∧ Rz G B' x d
abbrev CI (G : Gm) (pn : Pn) (E : XK) (t : TI) (f : FG (List D)) : Prop := CG G pn E (fun B _ J ds => Walks G pn J ds B) t f
theorem PI.or {X : Cx} {tg iter : Expr} {w w' : TI} (h : PI X tg iter w) (h' : PI X tg iter w') : PI X tg iter (fun σ H R => w σ H R ∨ w' σ H R) :=
  ⟨fun pins s σ H R I q => q.elim (h.run pins s σ H R I) (h'.run pins s σ H R I)⟩
def iSeq (K : PySem.W.Frag) (te : TE) : TI := fun σ H R => iList K te σ H R ∨ iTup K te σ H R
theorem pi_seq {X : Cx} {tg l : Expr} {te : TE} (h : PE X l te) : PI X tg l (iSeq X.K te) := PI.or (pi_list h) (pi_tup h)
def seqD : D → Option (List D)
  | .list ds => some ds
  | .tuple ds => some ds
  | .dict [(.bool false, .tuple ds)] => some ds
  | _ => none
def seqI (f : FG D) : FG (List D) := bindG f fun d => optG (seqD d)
theorem walks_l {K : PySem.W.Frag} {a : Addr} {xs : List V} {ds : List D} (h : B a = some (.lst xs)) (hr : RzA G B xs ds) : Walks G pn (Itl G.K a) ds B := by
  intro i U H B1 e σ s rl
  have hq : SqL G.K H a xs := SqL.of (rl.b.bh _ _ (s _ _ h))
  refine ⟨fun hi => ⟨xs, hq, by rw [hr.length]; exact hi⟩, fun d hd => ?_⟩
  obtain ⟨x, hx, rz⟩ := hr.get hd
  refine ⟨⟨xs, x, hq, hx⟩, fun y H' ⟨e1, e2⟩ => ?_⟩
  subst e1
  have := e2 xs hq
  rw [hx] at this
  cases this
  exact ⟨B1, Same.refl _, Same.refl _, fun _ _ _ r => r, rz.same s⟩
theorem walks_t {a : Addr} {xs : List V} {ds : List D} (h : SqT G.K B a xs) (hr : RzA G B xs ds) : Walks G pn (Itt G.K a) ds B := by
  intro i U H B1 e σ s rl
  have hq : SqT G.K H a xs := same_tS rl.b.bh (same_tS s h)
  refine ⟨fun hi => ⟨xs, hq, by rw [hr.length]; exact hi⟩, fun d hd => ?_⟩
  obtain ⟨x, hx, rz⟩ := hr.get hd
  refine ⟨⟨xs, x, hq, hx⟩, fun y H' ⟨e1, e2⟩ => ?_⟩
  subst e1
  have := e2 xs hq
  rw [hx] at this
  cases this
  exact ⟨B1, Same.refl _, Same.refl _, fun _ _ _ r => r, rz.same s⟩
theorem ci_seq {t : TE} {f : FG D} (h : CE G pn E t f) : CI G pn E (iSeq G.K t) (seqI f) := by
  intro U e σ H B r p' Q rl hf post
  rcases bind_inv hf with ⟨c, ns, ds, hx, rfl⟩ | ⟨a, q, hx, hg⟩
  · exact .inl (h U e σ H B _ _ _ rl hx post)
  · obtain ⟨ds, hc, rfl, rfl⟩ := optG_eq hg
    unfold seqD at hc
    split at hc
    · cases hc
      refine .inl (h U e σ H B _ _ _ rl hx fun v H1 B1 rl1 s1 k1 rz => ?_)
      obtain ⟨a, xs, rfl, hl, hr⟩ := rz.lst_inv
      exact ⟨a, rfl, ⟨xs, SqL.of (rl1.b.bh _ _ hl)⟩, post _ H1 B1 rl1 s1 k1 (walks_l (K := G.K) hl hr)⟩
    · cases hc
      refine .inr (h U e σ H B _ _ _ rl hx fun v H1 B1 rl1 s1 k1 rz => ?_)
      obtain ⟨a, xs, rfl, hl, hr⟩ := rz.tup_inv
      exact ⟨a, rfl, ⟨xs, same_t rl1.b.bh hl⟩, post _ H1 B1 rl1 s1 k1 (walks_t (SqT.of hl) hr)⟩
    · cases hc
      refine .inr (h U e σ H B _ _ _ rl hx fun v H1 B1 rl1 s1 k1 rz => ?_)
      obtain ⟨a, xs, rfl, hl, hr⟩ := Rz.kt_inv rl1.b rz
      exact ⟨a, rfl, ⟨xs, hl.sq⟩, post _ H1 B1 rl1 s1 k1 (walks_t hl.sq hr)⟩
    · cases hc
def rgD (lo : Int) (n : Nat) : List D := (List.range n).map fun (k : Nat) => PyData.int (lo + (k : Int))
theorem rgD_get {lo : Int} {n i : Nat} : (rgD lo n)[i]? = if i < n then some (.int (lo + (i : Int))) else none := by
  unfold rgD
  rw [List.getElem?_map]
  by_cases h : i < n
  · rw [if_pos h, List.getElem?_range h]; rfl
  · rw [if_neg h, List.getElem?_eq_none (by rw [List.length_range]; omega)]; rfl
theorem walks_r {lo : Int} {n : Nat} : Walks G pn (Itr lo n) (rgD lo n) B := by
  intro i U H B1 e σ s rl
  refine ⟨fun hi => by rw [rgD, List.length_map, List.length_range] at hi; exact hi, fun d hd => ?_⟩
  rw [rgD_get] at hd
  split at hd
  · next hi =>
    cases hd
    exact ⟨hi, fun y H' ⟨e1, e2⟩ => by subst e1; subst e2; exact ⟨B1, Same.refl _, Same.refl _, fun _ _ _ r => r, .int _⟩⟩
  · cases hd
def okR (i : Int) : Bool := decide (-1000000 ≤ i) && decide (i ≤ 1000000)
def rg1D : List D → Option (List D)
  | [.int j] => if okR j then some (rgD 0 j.toNat) else none
  | _ => none
def rg2D : List D → Option (List D)
  | [.int i, .int j] => if okR i && okR j then some (rgD i (j - i).toNat) else none
  | _ => none
theorem okR_eq {i : Int} (h : okR i = true) : -1000000 ≤ i ∧ i ≤ 1000000 := by
  unfold okR at h
  simpa using h
def rgI (φ : List D → Option (List D)) (f : FG (List D)) : FG (List D) := bindG f fun ds => optG (φ ds)
theorem ci_rg1 {t : TA} {f : FG (List D)} (h : CA G pn E t f) : CI G pn E (iRng1 t) (rgI rg1D f) := by
  refine CG.bind (t := t) h fun vs ds U e σ H B r p' Q rl ra hf post => ?_
  obtain ⟨c, hc, rfl, rfl⟩ := optG_eq hf
  unfold rg1D at hc
  split at hc
  · split at hc
    · next j hj =>
      cases hc
      have := okR_eq hj
      cases ra with
      | cons r1 r2 =>
        cases r2
        cases r1.int_inv
        exact ⟨j, rfl, by omega, by omega, post _ H B rl (Same.refl _) Keep.refl walks_r⟩
    · cases hc
  · cases hc
theorem ci_rg2 {t : TA} {f : FG (List D)} (h : CA G pn E t f) : CI G pn E (iRng2 t) (rgI rg2D f) := by
  refine CG.bind (t := t) h fun vs ds U e σ H B r p' Q rl ra hf post => ?_
  obtain ⟨c, hc, rfl, rfl⟩ := optG_eq hf
  unfold rg2D at hc
  split at hc
  · split at hc
    · next i j hj =>
      cases hc
      simp only [Bool.and_eq_true] at hj
      have h1 := okR_eq hj.1
      have h2 := okR_eq hj.2
      cases ra with
      | cons r1 r2 =>
        cases r2 with
        | cons r2 r3 =>
          cases r3
          cases r1.int_inv
          cases r2.int_inv
          exact ⟨i, j, rfl, ⟨by omega, by omega, by omega, by omega⟩, post _ H B rl (Same.refl _) Keep.refl walks_r⟩
    · cases hc
  · cases hc
/-! ### for -/
def forL (ft : FT) (body : FS) : List D → FS
  | [], e => some (.nx, e)
  | d :: ds, e => match ft d e.sl with
    | none => none
    | some sl => match body ⟨sl, e.pen⟩ with
      | none => none
      | some (.nx, e') => forL ft body ds e'
      | some (.ct, e') => forL ft body ds e'
      | some (.bk, e') => some (.nx, e')
      | some (.rt d, e') => some (.rt d, e')
      | some (.x c ns xs, e') => some (.x c ns xs, e')
def forS (fi : FG (List D)) (ft : FT) (body : FS) : FS := thenS fi fun ds => forL ft body ds
theorem drop_cons {ds : List D} {i : Nat} {d : D} {r : List D} (h : ds.drop i = d :: r) : ds[i]? = some d ∧ ds.drop (i + 1) = r ∧ i < ds.length := by
  have h1 : i < ds.length := by
    rcases Nat.lt_or_ge i ds.length with z | z
    · exact z
    · rw [List.drop_eq_nil_of_le z] at h; cases h
  rw [List.drop_eq_getElem_cons h1] at h
  cases h
  exact ⟨List.getElem?_eq_getElem h1, rfl, h1⟩
theorem cs_for {ti : TI} {g : TG} {tb : TS} {fi : FG (List D)} {ft : FT} {body : FS} (hi : CI G pn E ti fi) (hg : CTg G pn g ft) (hb : CS G pn E tb body) : CS G pn E (tFor ti g tb) (forS fi ft body) := by
  refine CS.of (t := ti) hi fun J ds U e σ H B r e' Dn rl wk hf post => ?_
  refine ⟨fun i m σ' H' => m = ds.length - i ∧ ∃ e1 B1, Rl G U pn e1 σ' H' B1 ∧ Same B B1 ∧ forL ft body (ds.drop i) e1 = some (r, e'), ⟨_, rfl, e, B, rl, Same.refl _, hf⟩, ?_⟩
  rintro i m σ1 H1 ⟨rfl, e1, B1, rl1, s1, h1⟩
  obtain ⟨w1, w2⟩ := wk i U H1 B1 e1 σ1 s1 rl1
  cases hd : ds.drop i with
  | nil =>
    rw [hd] at h1
    cases h1
    have hle : ds.length ≤ i := by
      rcases Nat.lt_or_ge i ds.length with z | z
      · rw [List.drop_eq_getElem_cons z] at hd; cases hd
      · exact z
    exact .inl ⟨w1 hle, post σ1 H1 B1 rl1 s1⟩
  | cons d rest =>
    rw [hd] at h1
    obtain ⟨g1, g2, g3⟩ := drop_cons hd
    obtain ⟨w3, w4⟩ := w2 d g1
    refine .inr ⟨w3, fun σ2 H2 => ∃ e2 B2, Rl G U pn e2 σ2 H2 B2 ∧ Same B B2 ∧ forL ft body (ds.drop (i + 1)) e2 = some (r, e'), fun σ2 H2 q => ⟨ds.length - (i + 1), by omega, rfl, q⟩, fun x H2 hy => ?_⟩
    obtain ⟨B2, s2, _, mv, rz⟩ := w4 x H2 hy
    rw [g2]
    unfold forL at h1
    cases ht : ft d e1.sl with
    | none => rw [ht] at h1; cases h1
    | some sl =>
      rw [ht] at h1
      dsimp only at h1
      have rl2 := mv U e1 σ1 rl1
      refine hg U e1 σ1 H2 B2 x d sl _ rl2 rz ht fun σ3 rl3 => ?_
      cases hbo : body ⟨sl, e1.pen⟩ with
      | none => rw [hbo] at h1; cases h1
      | some rp =>
        obtain ⟨rb, e3⟩ := rp
        rw [hbo] at h1
        have sB := s1.trans s2
        cases rb with
        | nx => exact hb U _ σ3 H2 B2 _ _ _ rl3 hbo fun σ4 H4 B4 rl4 s4 => ⟨e3, B4, rl4, sB.trans s4, h1⟩
        | ct => exact hb U _ σ3 H2 B2 _ _ _ rl3 hbo fun σ4 H4 B4 rl4 s4 => ⟨e3, B4, rl4, sB.trans s4, h1⟩
        | bk => cases h1; exact hb U _ σ3 H2 B2 _ _ _ rl3 hbo (post.up sB)
        | rt v => cases h1; exact hb U _ σ3 H2 B2 _ _ _ rl3 hbo (post.up sB)
        | x c ns xs => cases h1; exact hb U _ σ3 H2 B2 _ _ _ rl3 hbo (post.up sB)
/-! ### while: so many turns at most -/
def whileL (c : FG Bool) (body : FS) : Nat → FS
  | 0, _ => none
  | n + 1, e => match c e with
    | none => none
    | some (.x k ns ds, p) => some (.x k ns ds, ⟨e.sl, p⟩)
    | some (.v false, p) => some (.nx, ⟨e.sl, p⟩)
    | some (.v true, p) => match body ⟨e.sl, p⟩ with
      | none => none
      | some (.nx, e') => whileL c body n e'
      | some (.ct, e') => whileL c body n e'
      | some (.bk, e') => some (.nx, e')
      | some (.rt d, e') => some (.rt d, e')
      | some (.x c ns xs, e') => some (.x c ns xs, e')
theorem cs_while {c : TT} {tb : TS} {fc : FG Bool} {body : FS} (n : Nat) (hc : CT G pn E c fc) (hb : CS G pn E tb body) : CS G pn E (tWhile c tb) (whileL fc body n) := by
  intro U e σ H B r e' Dn rl hf post
  refine ⟨fun m σ' H' => ∃ e1 B1, Rl G U pn e1 σ' H' B1 ∧ Same B B1 ∧ whileL fc body m e1 = some (r, e'), ⟨n, e, B, rl, Same.refl _, hf⟩, ?_⟩
  rintro m σ1 H1 ⟨e1, B1, rl1, s1, h1⟩
  cases m with
  | zero => cases h1
  | succ m =>
    unfold whileL at h1
    cases hce : fc e1 with
    | none => rw [hce] at h1; cases h1
    | some rp =>
      obtain ⟨rc, p⟩ := rp
      rw [hce] at h1
      cases rc with
      | x k ns ds => cases h1; exact hc U e1 σ1 H1 B1 _ _ _ rl1 hce (post.up s1)
      | v b =>
        refine hc U e1 σ1 H1 B1 _ _ _ rl1 hce fun w H2 B2 rl2 s2 _ hw => ?_
        subst hw
        cases w with
        | false =>
          cases h1
          rw [if_neg (by simp)]
          exact post σ1 H2 B2 rl2 (s1.trans s2)
        | true =>
          rw [if_pos rfl]
          refine ⟨fun σ3 H3 => ∃ e3 B3, Rl G U pn e3 σ3 H3 B3 ∧ Same B B3 ∧ whileL fc body m e3 = some (r, e'), fun σ3 H3 q => ⟨m, Nat.lt_succ_self _, q⟩, ?_⟩
          dsimp only at h1
          have sB := s1.trans s2
          cases hbo : body ⟨e1.sl, p⟩ with
          | none => rw [hbo] at h1; cases h1
          | some rp =>
            obtain ⟨rb, e3⟩ := rp
            rw [hbo] at h1
            cases rb with
            | nx => exact hb U _ σ1 H2 B2 _ _ _ rl2 hbo fun σ4 H4 B4 rl4 s4 => ⟨e3, B4, rl4, sB.trans s4, h1⟩
            | ct => exact hb U _ σ1 H2 B2 _ _ _ rl2 hbo fun σ4 H4 B4 rl4 s4 => ⟨e3, B4, rl4, sB.trans s4, h1⟩
            | bk => cases h1; exact hb U _ σ1 H2 B2 _ _ _ rl2 hbo (post.up sB)
            | rt v => cases h1; exact hb U _ σ1 H2 B2 _ _ _ rl2 hbo (post.up sB)
            | x c ns xs => cases h1; exact hb U _ σ1 H2 B2 _ _ _ rl2 hbo (post.up sB)
/-! ### list comprehensions -/
def wipeS (sl : List Slot) : List Nat → List Slot
  | [] => sl
  | v :: vs => (wipeS sl vs).set v .u
theorem Rl.wipe (r : Rl G U pn e σ H B) : ∀ vs : List Nat, Rl G U pn ⟨wipeS e.sl vs, e.pen⟩ (wipe σ vs) H B
  | [] => r
  | v :: vs => (r.wipe vs).setU (w := none) v
/-- a target whose names are the comprehension's own -/
def CTw (G : Gm) (pn : Pn) (vs : List Nat) (g : TG) (f : FT) : Prop := ∀ U e σ0 σ H B v d sl' (Q : L2.St → Hp → Prop), Rl G U pn e σ H B → Rz G B v d → f d e.sl = some sl' → L2.wipe σ vs = L2.wipe σ0 vs →
  (∀ σ', L2.wipe σ' vs = L2.wipe σ0 vs → Rl G U pn ⟨sl', e.pen⟩ σ' H B → Q σ' H) → g v σ H Q
def CTws (G : Gm) (pn : Pn) (vs : List Nat) (g : TGs) (f : FTs) : Prop := ∀ U e σ0 σ H B ws ds sl' (Q : L2.St → Hp → Prop), Rl G U pn e σ H B → RzA G B ws ds → f ds e.sl = some sl' → L2.wipe σ vs = L2.wipe σ0 vs →
  (∀ σ', L2.wipe σ' vs = L2.wipe σ0 vs → Rl G U pn ⟨sl', e.pen⟩ σ' H B → Q σ' H) → g ws σ H Q
theorem wipe_set {σ : L2.St} {x : Option V} {i : Nat} : ∀ {vs : List Nat}, i ∈ vs → wipe (σ.set i x) vs = wipe σ vs
  | v :: vs, h => by
    unfold wipe
    by_cases z : i ∈ vs
    · rw [wipe_set z]
    · have e : v = i := ((List.mem_cons.mp h).resolve_right z).symm
      subst e
      clear h
      have : ∀ {ws : List Nat}, v ∉ ws → wipe (σ.set v x) ws = (wipe σ ws).set v x := by
        intro ws hw
        induction ws with
        | nil => rfl
        | cons w ws ih =>
          unfold wipe
          rw [ih fun q => hw (.tail _ q), List.set_comm _ _ (fun e => hw (by first | (rw [e]; exact .head _) | (rw [← e]; exact .head _)))]
      rw [this z, List.set_set]
theorem wipe_wipe {σ : L2.St} : ∀ (vs : List Nat), wipe (wipe σ vs) vs = wipe σ vs := fun vs => by
  have h : ∀ (us : List Nat), (∀ u ∈ us, u ∈ vs) → wipe (wipe σ us) vs = wipe σ vs := by
    intro us
    induction us with
    | nil => intro _; rfl
    | cons u us ih =>
      intro hs
      show wipe ((wipe σ us).set u none) vs = _
      rw [wipe_set (hs u (.head _))]
      exact ih fun w hw => hs w (.tail _ hw)
  exact h vs fun _ q => q
theorem wipeS_set {σ : List Slot} {x : Slot} {i : Nat} : ∀ {vs : List Nat}, i ∈ vs → wipeS (σ.set i x) vs = wipeS σ vs
  | v :: vs, h => by
    unfold wipeS
    by_cases z : i ∈ vs
    · rw [wipeS_set z]
    · have e : v = i := ((List.mem_cons.mp h).resolve_right z).symm
      subst e
      clear h
      have : ∀ {ws : List Nat}, v ∉ ws → wipeS (σ.set v x) ws = (wipeS σ ws).set v x := by
        intro ws hw
        induction ws with
        | nil => rfl
        | cons w ws ih =>
          unfold wipeS
          rw [ih fun q => hw (.tail _ q), List.set_comm _ _ (fun e => hw (by first | (rw [e]; exact .head _) | (rw [← e]; exact .head _)))]
      rw [this z, List.set_set]
theorem wipeS_wipe {σ : List Slot} : ∀ (vs : List Nat), wipeS (wipeS σ vs) vs = wipeS σ vs := fun vs => by
  have h : ∀ (us : List Nat), (∀ u ∈ us, u ∈ vs) → wipeS (wipeS σ us) vs = wipeS σ vs := by
    intro us
    induction us with
    | nil => intro _; rfl
    | cons u us ih =>
      intro hs
      show wipeS ((wipeS σ us).set u .u) vs = _
      rw [wipeS_set (hs u (.head _))]
      exact ih fun w hw => hs w (.tail _ hw)
  exact h vs fun _ q => q
/-- a target that stores to own names alone -/
def FTw (vs : List Nat) (f : FT) : Prop := ∀ d sl sl', f d sl = some sl' → wipeS sl' vs = wipeS sl vs
def FTws (vs : List Nat) (f : FTs) : Prop := ∀ d sl sl', f d sl = some sl' → wipeS sl' vs = wipeS sl vs
theorem fw_name {vs : List Nat} (i : Nat) (h : i ∈ vs) : FTw vs (nameT i) := by
  intro d sl sl' e
  cases e
  exact wipeS_set h
theorem fw_nil {vs : List Nat} : FTws vs nilT := by
  intro d sl sl' e
  unfold nilT at e
  split at e
  · cases e; rfl
  · cases e
theorem fw_cons {vs : List Nat} {f : FT} {g : FTs} (h1 : FTw vs f) (h2 : FTws vs g) : FTws vs (consT f g) := by
  intro d sl sl' e
  unfold consT at e
  split at e
  · cases e
  · obtain ⟨sl1, e1, e2⟩ := Option.bind_eq_some_iff.mp e
    exact (h2 _ _ _ e2).trans (h1 _ _ _ e1)
theorem fw_tup {vs : List Nat} {n : Nat} {f : FTs} (h1 : FTws vs f) : FTw vs (tupT n f) := by
  intro d sl sl' e
  unfold tupT at e
  split at e
  · split at e
    · exact h1 _ _ _ e
    · cases e
  · split at e
    · exact h1 _ _ _ e
    · cases e
  · cases e
theorem tw_name {vs : List Nat} (i : Nat) (h : i ∈ vs) : CTw G pn vs (gName i) (nameT i) := by
  intro U e σ0 σ H B v d sl' Q rl rz hf hw q
  cases hf
  exact q _ ((wipe_set h).trans hw) (rl.setD rz i)
theorem tw_nil {vs : List Nat} : CTws G pn vs gNil nilT := by
  intro U e σ0 σ H B ws ds sl' Q rl rz hf hw q
  unfold nilT at hf
  split at hf
  · cases hf; cases rz; exact ⟨rfl, q σ hw rl⟩
  · cases hf
theorem tw_cons {vs : List Nat} {t : TG} {u : TGs} {f : FT} {g : FTs} (h1 : CTw G pn vs t f) (h2 : CTws G pn vs u g) : CTws G pn vs (gCons t u) (consT f g) := by
  intro U e σ0 σ H B ws ds sl' Q rl rz hf hw q
  unfold consT at hf
  cases rz with
  | nil => cases hf
  | cons r1 r2 =>
    obtain ⟨sl1, e1, e2⟩ := Option.bind_eq_some_iff.mp hf
    exact ⟨_, _, rfl, h1 U e σ0 σ H B _ _ sl1 _ rl r1 e1 hw fun σ' hw' rl' => h2 U ⟨sl1, e.pen⟩ σ0 σ' H B _ _ sl' Q rl' r2 e2 hw' q⟩
theorem tw_tup {vs : List Nat} {n : Nat} {t : TGs} {f : FTs} (h1 : CTws G pn vs t f) : CTw G pn vs (gTup G.K n t) (tupT n f) := by
  intro U e σ0 σ H B v d sl' Q rl rz hf hw q
  unfold tupT at hf
  split at hf
  · next ds =>
    split at hf
    · next hn =>
      obtain ⟨a, xs, rfl, hx, hr⟩ := rz.tup_inv
      exact ⟨a, xs, rfl, same_t rl.b.bh hx, by rw [hr.length, hn], h1 U e σ0 σ H B xs ds sl' Q rl hr hf hw q⟩
    · cases hf
  · next ds =>
    split at hf
    · next hn =>
      obtain ⟨a, xs, rfl, hx, hr⟩ := Rz.kt_inv rl.b rz
      exact ⟨a, xs, rfl, hx.sq, by rw [hr.length, hn], h1 U e σ0 σ H B xs ds sl' Q rl hr hf hw q⟩
    · cases hf
  · cases hf
def lcL (slw : List Slot) (ft : FT) (test : FG Bool) (elt : FG D) : List D → PenS → Option (List D × PenS)
  | [], p => some ([], p)
  | d :: ds, p => match ft d slw with
    | none => none
    | some sl => match test ⟨sl, p⟩ with
      | some (.v true, p1) => match elt ⟨sl, p1⟩ with
        | some (.v x, p2) => (lcL slw ft test elt ds p2).map fun r => (x :: r.1, r.2)
        | _ => none
      | some (.v false, p1) => lcL slw ft test elt ds p1
      | _ => none
theorem Rl.addU (r : Rl G U pn e σ H B) {p : Addr} {o : HO} (h : H p = none) : Rl G (upd U p o) pn e σ (upd H p o) B := by
  have tb := r.b.tabN (o := o) (o2 := o) h (.inl rfl) (.inr rfl)
  obtain ⟨⟨bh, uh, bu, pe⟩, os, s, n, f⟩ := r
  have hB : B p = none := bh.free h
  refine ⟨⟨bh.trans (same_upd h), fun a x hx => ?_, fun a x hx => ?_, fun q hq => ?_, tb⟩, os, s.grow (Same.refl _) (fun q hq => ?_), n, fun q hq => ?_⟩
  · by_cases z : a = p
    · rw [z, upd_same] at hx ⊢; exact hx
    · rw [upd_ne z] at hx ⊢; exact uh a x hx
  · rw [upd_ne (ne_of_none hx hB)]; exact bu a x hx
  · obtain ⟨h1, h2, h3, h4⟩ := pe q hq
    have nq : q.1 ≠ p := fun z => by rw [← z, h3] at h; cases h
    exact ⟨h1, (upd_ne nq).trans h2, (upd_ne nq).trans h3, h4⟩
  · exact upd_ne fun z => (s.notin h) (z ▸ hq)
  · obtain ⟨h1, h2, h3⟩ := f q hq
    have nq : q ≠ p := fun z => (s.notin h) (z ▸ hq)
    exact ⟨h1, (upd_ne nq).trans h2, h3⟩
theorem Rl.swapU {p : Addr} {o o' : HO} (hno : NoC o) (r : Rl G (upd U p o) pn e σ H B) : Rl G (upd U p o') pn e σ (upd H p o') B ∧ H p = some o ∧ B p = none ∧ NP pn p := by
  have np : NP pn p := r.b.npU upd_same
  have tb := r.b.tab
  obtain ⟨⟨bh, uh, bu, pe⟩, os, s, n, f⟩ := r
  have hp : H p = some o := uh p o upd_same
  have hB : B p = none := by
    cases h : B p with
    | none => rfl
    | some x => have := bu p x h; rw [upd_same] at this; cases this
  have no : p ∉ os := fun z => by
    have := (f p z).2.1
    rw [upd_same] at this
    cases this
  refine ⟨⟨⟨fun a x hx => ?_, fun a x hx => ?_, fun a x hx => ?_, fun q hq => ?_, fun q hq => ?_⟩, os, s.grow (Same.refl _) (fun q hq => ?_), n, fun q hq => ?_⟩, hp, hB, np⟩
  · rw [upd_ne (ne_of_none hx hB)]; exact bh a x hx
  · by_cases z : a = p
    · rw [z, upd_same] at hx ⊢; exact hx
    · rw [upd_ne z] at hx ⊢
      have := uh a x
      rw [upd_ne z] at this
      exact this hx
  · have := bu a x hx
    rw [upd_ne (ne_of_none hx hB)] at this ⊢
    exact this
  · obtain ⟨h1, h2, h3, h4⟩ := pe q hq
    have nq : q.1 ≠ p := fun z => (np q hq).1 z.symm
    rw [upd_ne nq] at h2
    exact ⟨h1, (upd_ne nq).trans h2, (upd_ne nq).trans h3, h4⟩
  · obtain ⟨h1, h2, h3, h3'⟩ := tb q hq
    refine ⟨fun t ht => ⟨(h1 t ht).1, ?_⟩, tabs_mut h2 hp hno, h3.mut hp hno, h3'⟩
    · have := (h1 t ht).2
      have nt : t.1 ≠ p := fun z => (np q hq).2 t ht z.symm
      rw [upd_ne nt] at this ⊢
      exact this
  · exact upd_ne fun z => no (z ▸ hq)
  · obtain ⟨h1, h2, h3⟩ := f q hq
    have nq : q ≠ p := fun z => no (z ▸ hq)
    rw [upd_ne nq] at h2
    exact ⟨h1, (upd_ne nq).trans h2, h3⟩
theorem Base.unU {q : PenS} {p : Addr} {o : HO} (b : Base (upd U p o) pn q H B) (hU : U p = none) (no : NoC o) : Base U pn q H B := by
  have np := b.npU (a := p) upd_same
  refine ⟨b.bh, fun a x h => b.uh a x ((upd_ne (ne_of_none h hU)).trans h), fun a x h => ?_, fun q hq => ?_, fun q hq => ?_⟩
  · have := b.bu a x h
    by_cases z : a = p
    · rw [z]; exact hU
    · rw [upd_ne z] at this; exact this
  · obtain ⟨h1, h2, h3, h4⟩ := b.pen q hq
    rw [upd_ne (fun z => (np q hq).1 z.symm)] at h2
    exact ⟨h1, h2, h3, h4⟩
  · obtain ⟨h1, h2, h3⟩ := b.tab q hq
    refine ⟨fun t ht => ⟨(h1 t ht).1, ?_⟩, h2, h3⟩
    have := (h1 t ht).2
    rw [upd_ne (fun z => (np q hq).2 t ht z.symm)] at this
    exact this
/-- which objects one owns -/
def isO : Option Slot → Bool
  | some (.o _) => true
  | _ => false
def ownA1 (x : Option V) (y : Slot) (r : List Addr) : List Addr := match x, y with
  | some (.ref p), .o _ => p :: r
  | _, _ => r
def ownA : L2.St → List Slot → List Addr
  | [], _ => []
  | _ :: _, [] => []
  | x :: σ, y :: ρ => ownA1 x y (ownA σ ρ)
theorem ownA_nil : ∀ (σ : L2.St), ownA σ [] = []
  | [] => rfl
  | _ :: _ => rfl
theorem ownA1_no {x : Option V} {y : Slot} {r : List Addr} (h : isO (some y) = false) : ownA1 x y r = r := by
  cases y with
  | o d => cases h
  | u => cases x with | none => rfl | some v => cases v <;> rfl
  | d d => cases x with | none => rfl | some v => cases v <;> rfl
  | p => cases x with | none => rfl | some v => cases v <;> rfl
  | f => cases x with | none => rfl | some v => cases v <;> rfl
  | me a => cases x with | none => rfl | some v => cases v <;> rfl
theorem Slots.own : ∀ {σ : L2.St} {ρ : List Slot} {os : List Addr}, Slots G pn B H σ ρ os → os = ownA σ ρ
  | _, _, _, .nil => rfl
  | _, _, _, .u t => t.own.trans (ownA1_no rfl).symm
  | _, _, _, .d _ t => t.own.trans (ownA1_no rfl).symm
  | _, _, _, .o _ t => congrArg _ t.own
  | _, _, _, .p _ t => t.own.trans (ownA1_no rfl).symm
  | _, _, _, .fo _ t => t.own.trans (ownA1_no rfl).symm
  | _, _, _, .me t => t.own.trans (ownA1_no rfl).symm
theorem ownA_set : ∀ (σ : L2.St) (ρ : List Slot) (i : Nat), isO ρ[i]? = false → ownA (σ.set i none) (ρ.set i .u) = ownA σ ρ
  | [], _, _, _ => by rfl
  | x :: σ, [], i, _ => by rw [List.set_nil, ownA_nil, ownA_nil]
  | x :: σ, y :: ρ, 0, h => (ownA1_no (x := none) (y := .u) (r := ownA σ ρ) rfl).trans (ownA1_no (x := x) (r := ownA σ ρ) h).symm
  | x :: σ, y :: ρ, i + 1, h => congrArg (ownA1 x y) (ownA_set σ ρ i (by simpa using h))
theorem wipeS_get {sl : List Slot} {i : Nat} : ∀ (vs : List Nat), isO sl[i]? = false → isO (wipeS sl vs)[i]? = false
  | [], h => h
  | v :: vs, h => by
    unfold wipeS
    by_cases z : v = i
    · subst z
      by_cases l : v < (wipeS sl vs).length
      · rw [List.getElem?_set_self l]; rfl
      · rw [List.getElem?_eq_none (by rw [List.length_set]; omega)]; rfl
    · rw [List.getElem?_set_ne z]
      exact wipeS_get vs h
theorem ownA_wipe {σ : L2.St} {sl : List Slot} : ∀ {vs : List Nat}, (∀ v ∈ vs, isO sl[v]? = false) → ownA (wipe σ vs) (wipeS sl vs) = ownA σ sl
  | [], _ => rfl
  | v :: vs, h => by
    show ownA ((wipe σ vs).set v none) ((wipeS sl vs).set v .u) = _
    rw [ownA_set _ _ _ (wipeS_get vs (h v (.head _))), ownA_wipe fun w hw => h w (.tail _ hw)]
/-- back in the def's own slots -/
theorem Rl.back {q1 : PenS} {p : Addr} {xs : List V} {ds : List D} {vs : List Nat} (r0 : Rl G U pn e σ H B) (h0 : H p = none) (hv : ∀ v ∈ vs, isO e.sl[v]? = false) (r1 : Rl G (upd U p (.lst xs)) pn ⟨wipeS e.sl vs, q1⟩ (L2.wipe σ vs) H1 B1) (s : Same B B1) (k : Keep pn H H1) (hr : RzA G B1 xs ds) :
    Fresh G U pn ⟨e.sl, q1⟩ σ H1 B1 p (.list ds) := by
  obtain ⟨_, hp, hB, np⟩ := r1.swapU (o' := .lst xs) noC_lst
  have tb1 := r1.b.tab
  obtain ⟨⟨bh, uh, bu, pe⟩, os1, s1, _, f1⟩ := r1
  obtain ⟨b0, os, s0, n, f⟩ := r0
  have hU : U p = none := b0.uh.free h0
  have eo : os1 = os := by rw [s1.own, ownA_wipe hv, s0.own]
  subst eo
  refine ⟨⟨bh, fun a x hx => ?_, fun a x hx => ?_, fun q hq => ?_, fun q hq => ?_⟩, ⟨os1, s0.grow s (fun q hq => ?_), n, fun q hq => ?_, s0.notin h0⟩, .lst hp hr, hB, hU, np⟩
  · exact uh a x ((upd_ne (ne_of_none hx hU)).trans hx)
  · have := bu a x hx
    by_cases z : a = p
    · rw [z]; exact hU
    · rw [upd_ne z] at this; exact this
  · obtain ⟨h1, h2, h3, h4⟩ := pe q hq
    have nq : q.1 ≠ p := fun z => (np q hq).1 z.symm
    rw [upd_ne nq] at h2
    exact ⟨h1, h2, h3, h4⟩
  · obtain ⟨h1, h2, h3⟩ := tb1 q hq
    refine ⟨fun t ht => ⟨(h1 t ht).1, ?_⟩, h2, h3⟩
    have := (h1 t ht).2
    rw [upd_ne (fun z => (np q hq).2 t ht z.symm)] at this
    exact this
  · obtain ⟨o, ho⟩ := s0.there hq
    rw [ho]
    exact k q o ho (f q hq).2.2
  · exact ⟨(f1 q hq).1, (f q hq).2⟩
def lcG (vs : List Nat) (fi : FG (List D)) (ft : FT) (test : FG Bool) (elt : FG D) : FG D := bindG fi fun ds e =>
  if vs.any (fun v => isO e.sl[v]?) = true then none else
  match lcL (wipeS e.sl vs) ft test elt ds e.pen with
  | none => none
  | some (xs, p) => if xs.length ≤ 1000000 then some (.v (.list xs), p) else none
theorem lcL_inv {slw : List Slot} {ft : FT} {test : FG Bool} {elt : FG D} {d : D} {ds xs : List D} {p q : PenS} (h : lcL slw ft test elt (d :: ds) p = some (xs, q)) :
    ∃ sl, ft d slw = some sl ∧ ((∃ p1 x p2 ys, test ⟨sl, p⟩ = some (.v true, p1) ∧ elt ⟨sl, p1⟩ = some (.v x, p2) ∧ lcL slw ft test elt ds p2 = some (ys, q) ∧ xs = x :: ys) ∨
      ∃ p1, test ⟨sl, p⟩ = some (.v false, p1) ∧ lcL slw ft test elt ds p1 = some (xs, q)) := by
  unfold lcL at h
  split at h
  · cases h
  · next sl hs =>
    refine ⟨sl, hs, ?_⟩
    split at h
    · next p1 ht =>
      split at h
      · next x p2 hx =>
        obtain ⟨⟨ys, q'⟩, h1, h2⟩ := Option.map_eq_some_iff.mp h
        cases h2
        exact .inl ⟨p1, x, p2, ys, ht, hx, h1, rfl⟩
      · cases h
    · next p1 ht => exact .inr ⟨p1, ht, h⟩
    · cases h
theorem cf_lc {vs : List Nat} {ti : TI} {g : TG} {tt : TT} {te : TE} {fi : FG (List D)} {ft : FT} {test : FG Bool} {elt : FG D} (hi : CI G pn E ti fi) (hg : CTw G pn vs g ft) (hf' : FTw vs ft) (ht : CT G pn E tt test) (he : CE G pn E te elt) :
    CF G pn E (tLc ti g tt te vs) (lcG vs fi ft test elt) := by
  refine CF.bind (t := ti) hi fun J ds U e σ H B r p' Q rl wk hf post => ?_
  intro D hD
  split at hf
  · cases hf
  next hv =>
  simp only [Bool.not_eq_true, Bool.not_eq_false', List.any_eq_false] at hv
  split at hf
  · cases hf
  next xs p hx =>
  split at hf
  · next hl =>
    cases hf
    have hv' : ∀ v ∈ vs, isO e.sl[v]? = false := fun v m => by simpa using hv v m
    have rl0 := (rl.addU (o := .lst []) hD).wipe vs
    refine ⟨fun i m H' => m = ds.length - i ∧ ∃ q1 B1 acc ws rest, Rl G (upd U D (.lst ws)) pn ⟨wipeS e.sl vs, q1⟩ (wipe σ vs) H' B1 ∧ Same B B1 ∧ Keep pn H H' ∧ RzA G B1 ws acc ∧ lcL (wipeS e.sl vs) ft test elt (ds.drop i) q1 = some (rest, p') ∧ acc ++ rest = xs,
      ⟨_, rfl, e.pen, B, [], [], xs, rl0, Same.refl _, Keep.of (same_upd hD), .nil, hx, rfl⟩, ?_⟩
    rintro i m H1 ⟨rfl, q1, B1, acc, ws, rest, rl1, s1, k1, rz1, h1, hxs⟩
    obtain ⟨w1, w2⟩ := wk i _ H1 B1 _ _ s1 rl1
    cases hd : ds.drop i with
    | nil =>
      rw [hd] at h1
      cases h1
      have hle : ds.length ≤ i := by
        rcases Nat.lt_or_ge i ds.length with z | z
        · rw [List.drop_eq_getElem_cons z] at hd; cases hd
        · exact z
      rw [List.append_nil] at hxs
      subst hxs
      exact .inl ⟨w1 hle, post D H1 B1 (rl.back hD hv' rl1 s1 k1 rz1) s1 k1⟩
    | cons d more =>
      rw [hd] at h1
      obtain ⟨g1, g2, g3⟩ := drop_cons hd
      obtain ⟨w3, w4⟩ := w2 d g1
      refine .inr ⟨w3, fun H' => ∃ q1 B1 acc ws rest, Rl G (upd U D (.lst ws)) pn ⟨wipeS e.sl vs, q1⟩ (wipe σ vs) H' B1 ∧ Same B B1 ∧ Keep pn H H' ∧ RzA G B1 ws acc ∧ lcL (wipeS e.sl vs) ft test elt (ds.drop (i + 1)) q1 = some (rest, p') ∧ acc ++ rest = xs,
        fun H' q => ⟨ds.length - (i + 1), by omega, rfl, q⟩, fun x H2 hy => ?_⟩
      obtain ⟨B2, s2, sh, mv, rz⟩ := w4 x H2 hy
      rw [g2]
      obtain ⟨sl, hs, hcase⟩ := lcL_inv h1
      have rl2 := mv _ _ _ rl1
      have k2 : Keep pn H H2 := k1.trans (.of sh)
      have s12 := s1.trans s2
      refine hg _ _ σ (wipe σ vs) H2 B2 x d sl _ rl2 rz hs (wipe_wipe vs) fun σ3 hw rl3 => ⟨hw, ?_⟩
      have hw' : wipe σ3 vs = wipe σ vs := hw
      rcases hcase with ⟨p1, y, p2, ys, h2, h3, h4, rfl⟩ | ⟨p1, h2, h4⟩
      · refine ht _ _ σ3 H2 B2 _ _ _ rl3 h2 fun b H3 B3 rl4 s3 k3 hb => ?_
        subst hb
        rw [if_pos rfl]
        refine he _ _ σ3 H3 B3 _ _ _ rl4 h3 fun v H4 B4 rl5 s4 k4 rv => ?_
        obtain ⟨rl6, hp, hB4, np⟩ := rl5.swapU (o' := .lst (ws ++ [v])) noC_lst
        have sall := s12.trans (s3.trans s4)
        have r4 : RzA G B4 (ws ++ [v]) (acc ++ [y]) := (rz1.same (s2.trans (s3.trans s4))).app (.cons rv .nil)
        have hlen : ws.length < sizeLine := by
          rw [rz1.length]
          have : acc.length ≤ xs.length := by rw [← hxs, List.length_append]; omega
          exact line_lt (by omega)
        refine ⟨ws, hp, hlen, p2, B4, acc ++ [y], ws ++ [v], ys, ?_, sall, ?_, r4, h4, by rw [← hxs]; simp⟩
        · have z := rl6.wipe vs
          rw [hw'] at z
          have e2 : wipeS sl vs = wipeS e.sl vs := (hf' _ _ _ hs).trans (wipeS_wipe vs)
          simp only [e2] at z
          exact z
        · intro a o ha hn
          have hne : a ≠ D := fun z => by rw [z, hD] at ha; cases ha
          rw [upd_ne hne]
          exact (k2.trans (k3.trans k4)) a o ha hn
      · refine ht _ _ σ3 H2 B2 _ _ _ rl3 h2 fun b H3 B3 rl4 s3 k3 hb => ?_
        subst hb
        rw [if_neg (by simp)]
        refine ⟨p1, B3, acc, ws, rest, ?_, s12.trans s3, k2.trans k3, rz1.same (s2.trans s3), h4, hxs⟩
        have z := rl4.wipe vs
        rw [hw'] at z
        have e2 : wipeS sl vs = wipeS e.sl vs := (hf' _ _ _ hs).trans (wipeS_wipe vs)
        simp only [e2] at z
        exact z
  · cases hf
end
end Fw

set_option linter.all false
set_option maxRecDepth 100000
set_option maxHeartbeats 4000000
namespace Fw
open PySem PySem.Spec PyProof.Rows L2
/-! ### defs that are called where nothing is being shown, so that they may ask for repr -/
structure RoomG (n : Nat) (A : Around) : Prop where
  r : L2.Room n A
  g : A.guards = some []
theorem RoomG.mono {m n : Nat} {A : Around} (h : RoomG n A) (le : m ≤ n) : RoomG m A := ⟨h.r.mono le, h.g⟩
theorem RoomG.deeper {n : Nat} {A : Around} (h : RoomG (n + 1) A) (en : Env) : RoomG n (A.deeper en) := ⟨h.r.deeper en, h.g⟩
theorem guards_make {A : Around} {C : Addr} {us : List Value} {kw : List (Str × Value)} (h : A.guards = some []) : (A.under (.builtin "type.__call__" ⟨.ref C :: us, kw⟩)).guards = some [] := by
  have e : (A.under (.builtin "type.__call__" ⟨.ref C :: us, kw⟩)).guards = A.guards := by
    first | rfl | simp [Around.under, Code.guards, Code.isGuard, guardIds, pushGuards]
  rw [e, h]
theorem RoomG.make {n : Nat} {A : Around} (h : RoomG (n + 1) A) (C : Addr) (us : List Value) (kw : List (Str × Value)) : RoomG n (A.under (.builtin "type.__call__" ⟨.ref C :: us, kw⟩)) := ⟨h.r.make C us kw, guards_make h.g⟩
structure FnG (Pr : Program) (wo : World) (K : PySem.W.Frag) (mg : Str → Option Value) (base : Heap) (cx : CXT) (n : Nat) (f : Addr) (fd : FuncData) (ps : List Str) (sp : Sp) : Prop where
  len : ∀ ws H Q E, sp ws H Q E → ws.length = ps.length
  run : ∀ (A : Around) (fr : List Env) (s : Shared) (H : Hp) (as : Args) (us : List Value) (ws : List V) (Q : VK) (E : XK), RoomG n A → Env0 Pr wo K mg base A fr s H → BindsTo s fd as (ps.zip us) → Vals ws us → sp ws H Q E → codeAny (model Pr wo) A (.call (.ref f) as) (CR cx fr Pr wo H s Q E) s
section
variable {Pr : Program} {wo : World} {K : PySem.W.Frag} {mg : Str → Option Value} {base : Heap} {cx : CXT} {n m : Nat} {f : Addr} {fd : FuncData} {ps N : List Str} {sp : Sp}
theorem FnG.mono (F : FnG Pr wo K mg base cx m f fd ps sp) (le : m ≤ n) : FnG Pr wo K mg base cx n f fd ps sp := ⟨F.len, fun A fr s H as us ws Q E hr => F.run A fr s H as us ws Q E (hr.mono le)⟩
theorem fnG_of {x qual : Str} {st : Stmt} (F : Fun K x qual st f fd) (S : FnScope N ps (defScope st)) (len : ∀ ws H Q E, sp ws H Q E → ws.length = ps.length)
    (bd : ∀ (cdv : Value) (A : Around) (fr : List Env) (s : Shared) (H : Hp) (ws : List V) (Q : VK) (E : XK), RoomG n (A.deeper (envOfC qual (defScope st) s.heap.objs.size f cdv)) → sp ws H Q E →
      ∃ t, PSs (cxOf cx Pr wo K mg base N qual (defScope st) f cdv A fr s H E) (defBody st) t ∧ t { nx := fun _ H' => Q .non H', rt := Q } (L2.start N ws) H) : FnG Pr wo K mg base cx (n + 1) f fd ps sp := by
  obtain ⟨_, _, _, _, _, _, cdv, _, _, rfl, look, code⟩ := F.ex
  constructor
  · exact len
  intro A fr s H as us ws Q E room e0 bi rv pre
  have same := len _ _ _ _ pre
  have inK : K.In s.heap := e0.mod.kin.keeps fun b o e => And.left (e0.bs b o e)
  have kinds : ∀ z ∈ ps.zip us, (defScope st).names.lookup z.1 = some .local ∨ ((defScope st).names.lookup z.1 = some .cell ∧ ((cellsFrom (s.heap.objs.size + 1) (defScope st).names []).lookup z.1).isSome = true) := by
    rintro ⟨y, v⟩ hz
    exact (S.par y (List.of_mem_zip hz).1).imp id fun c => ⟨c, PySem.W.cellsFrom_some _ _ _ (Or.inl c)⟩
  refine codeAny_call_function room.r.depth (inK _ _ look) rfl S.co S.gen rfl (PySem.W.codeRec_of inK code) (bi _ _ _ _ (wpAny_newFunctionEnv_cells S.kind kinds ?_))
  rintro env rfl s1 born
  refine ⟨(e0.mod.nolimit.keeps fun b o e => And.left (e0.bs b o e)).keeps born.toInCall.keep, codeAny_func ?_⟩
  obtain ⟨t, runs, post⟩ := bd cdv A fr s H ws Q E (room.deeper _) pre
  have I := inv_start (CX := cx) (E := E) S room.r.hd e0 same rv born
  have out : ∀ (z : V) (y : Value) (σ : L2.St) (H' : Hp) (s' : Shared), Inv (cxOf cx Pr wo K mg base N qual (defScope st) f cdv A fr s H E) [] σ H' s' → RelV z y → Q z H' → L2.CE fr Pr wo H s Q y s' := fun z y σ H' s' J r q => ⟨z, H', J.os, J.bare, J.base, J.hok, r, q⟩
  refine wpAny_mono (runs.run [] s1 (L2.start N ws) H _ I post) (fun fl s' e => ?_) fun _ _ e => e
  match fl, e with
  | .ret y, ⟨z, σ, H', J, r, q⟩ => exact out z y σ H' s' J r q
  | .next, ⟨σ, H', J, q⟩ => exact out .non .none σ H' s' J rfl q
  | .brk, ⟨_, _, _, q⟩ => exact q.elim
  | .cont, ⟨_, _, _, q⟩ => exact q.elim
end
section
variable {X : Cx} {cx : CXT} {n : Nat} {f C : Addr} {fd : FuncData} {ps : List Str} {sp : Sp} {dvs : List V} {ds : List Value} {E : XK} {x : Str} {p pos : Pos} {e : Expr} {es : List Expr} {t : TA} {pins : List (Addr × Obj)} {σ : L2.St} {H : Hp} {s : Shared} {Q : VK} {us : List Value} {ws : List V}
theorem runG (F : FnG X.prog X.w X.K X.mg X.base cx n f fd ps sp) (room : RoomG n X.A) (bi : Binds X.K fd ps ds) (dv : Vals dvs ds) (out : Passes cx X E) (I : Inv X pins σ H s) (rv : Vals ws us) (pre : sp (ws ++ dvs) H Q E) : wpAny (model X.prog X.w) X.A (call (.ref f) us) (EP X pins σ Q) X.xe s := by
  have all : Vals (ws ++ dvs) (us ++ ds) := rv.append dv
  have same : (us ++ ds).length = ps.length := all.length.symm.trans (F.len _ _ _ _ pre)
  refine wpAny_call (codeAny_mono (F.run X.A X.stack s H ⟨us, []⟩ (us ++ ds) (ws ++ dvs) Q E room I.env0 (bi s us I.kIn same) all pre) ?_)
  intro r s' h
  match r, h with
  | .error y, h => exact out pins σ H s y s' I h
  | .ok (.ret y), h => exact I.after h
  | .ok .next, h => exact h.elim
  | .ok .brk, h => exact h.elim
  | .ok .cont, h => exact h.elim
theorem pe_call (F : FnG X.prog X.w X.K X.mg X.base cx n f fd ps sp) (room : RoomG n X.A) (gl : Gl X x) (at_ : X.mg x = some (.ref f)) (kp : PySem.W.keepIn X.K (.ref f) = true) (bi : Binds X.K fd ps ds) (dv : Vals dvs ds) (out : Passes cx X E) (as : PA X (e :: es) t)
    (nd : (x == ("__debug__" : Str)) = false := by decide) (h1 : starEach (e :: es) X.env = (false, eval e X.env) :: starEach es X.env := by rfl) (h2 : (backTo pos (starEach es X.env)).any (·.1) = false := by rfl) : PE X (.Call (.Name x p) (e :: es) [] pos) (tCall sp dvs E t) := by
  constructor
  intro pins s σ H Q I pre
  exact wpAny_Call_Name_kw (ld_glob I gl at_ (PySem.W.callWith_K (h₀ := X.base) I.ok.mod.kin kp (thn (as.run pos pins s σ H _ I pre) fun us s1 z => match z with
    | ⟨ws, H1, I1, r, q⟩ => ⟨I1.kIn, runG F room bi dv out I1 r q⟩) h1 h2) nd)
theorem pe_call0 (F : FnG X.prog X.w X.K X.mg X.base cx n f fd ps sp) (room : RoomG n X.A) (gl : Gl X x) (at_ : X.mg x = some (.ref f)) (kp : PySem.W.keepIn X.K (.ref f) = true) (bi : Binds X.K fd ps ds) (dv : Vals dvs ds) (out : Passes cx X E)
    (nd : (x == ("__debug__" : Str)) = false := by decide) : PE X (.Call (.Name x p) [] [] pos) (tCall sp dvs E tNil) := by
  constructor
  intro pins s σ H Q I pre
  exact wpAny_Call_Name_kw (ld_glob I gl at_ (PySem.W.callWith_K0 I.kIn kp (runG (us := []) F room bi dv out I .nil pre)) nd)
theorem makeG (M : Mk X.K C f) (F : FnG X.prog X.w X.K X.mg X.base cx n f fd ps sp) (room : RoomG (n + 1) X.A) (bi : Binds X.K fd ps ds) (dv : Vals dvs ds) (out : Passes cx X E) (I : Inv X pins σ H s) (rv : Vals ws us)
    (pre : ∀ x dx, H x = none → H dx = none → dx ≠ x → sp (.ref x :: (ws ++ dvs)) (upd (upd H dx (.own x)) x (.ins C dx [])) (fun v H2 => v = .non ∧ Q (.ref x) H2) E) : wpAny (model X.prog X.w) X.A (call (.ref C) us) (EP X pins σ Q) X.xe s := by
  have q0 := pre (s.heap.objs.size + 1) s.heap.objs.size (I.hok.fresh (Nat.le_succ _)) (I.hok.fresh (Nat.le_refl _)) (Nat.ne_of_lt (Nat.lt_succ_self _))
  have J := Inv.made (C := C) I
  have all : Vals (V.ref (s.heap.objs.size + 1) :: (ws ++ dvs)) (Value.ref (s.heap.objs.size + 1) :: (us ++ ds)) := .cons rfl (rv.append dv)
  have same : (Value.ref (s.heap.objs.size + 1) :: us ++ ds).length = ps.length := by
    rw [← F.len _ _ _ _ q0]
    exact all.length.symm
  refine wpAny_call (make_map (f := f) I.kIn M.makes M.init (beq_iff_eq.mp M.fn) (codeAny_mono (F.run _ X.stack _ _ ⟨Value.ref (s.heap.objs.size + 1) :: us, []⟩ (Value.ref (s.heap.objs.size + 1) :: (us ++ ds)) _ _ E (room.make C us []) (J.env0.make C us []) (bi _ (Value.ref (s.heap.objs.size + 1) :: us) J.kIn same) all q0) ?_))
  intro r s' h
  match r, h with
  | .error y, h => exact out pins σ _ _ y s' J h
  | .ok (.ret y), h =>
    obtain ⟨z, H', J2, rz, ez, q2⟩ := J.after h
    subst ez
    exact ⟨rz, ⟨V.ref (s.heap.objs.size + 1), H', J2, rfl, q2⟩⟩
  | .ok .next, h => exact h.elim
  | .ok .brk, h => exact h.elim
  | .ok .cont, h => exact h.elim
theorem pe_make (M : Mk X.K C f) (F : FnG X.prog X.w X.K X.mg X.base cx n f fd ps sp) (room : RoomG (n + 1) X.A) (gl : Gl X x) (at_ : X.mg x = some (.ref C)) (bi : Binds X.K fd ps ds) (dv : Vals dvs ds) (out : Passes cx X E) (as : PA X (e :: es) t)
    (nd : (x == ("__debug__" : Str)) = false := by decide) (h1 : starEach (e :: es) X.env = (false, eval e X.env) :: starEach es X.env := by rfl) (h2 : (backTo pos (starEach es X.env)).any (·.1) = false := by rfl) : PE X (.Call (.Name x p) (e :: es) [] pos) (tMake C sp dvs E t) := by
  constructor
  intro pins s σ H Q I pre
  exact wpAny_Call_Name_kw (ld_glob I gl at_ (PySem.W.callWith_K (h₀ := X.base) I.ok.mod.kin M.kp (thn (as.run pos pins s σ H _ I pre) fun us s1 z => match z with
    | ⟨ws, H1, I1, r, q⟩ => ⟨I1.kIn, makeG M F room bi dv out I1 r q⟩) h1 h2) nd)
theorem op_ownG (hs : PySem.W.findIn X.K (.ref C) "__eq__" = some (some (.ref f))) (hf : PySem.W.isFn X.K (.ref f) = true) (F : FnG X.prog X.w X.K X.mg X.base cx n f fd ps sp) (bi : Binds X.K fd ps []) (room : RoomG n X.A) (out : Passes cx X E) : OpR X (compareOp .Eq) (Sb.rOwnE X.K C sp E) := by
  intro pins s σ H x y v u Q I rx ry h
  obtain ⟨a, dx, fs, t, rfl, ha, ty, hn, q⟩ := h
  cases (show v = Value.ref a from rx)
  obtain ⟨mA, J, _⟩ := ins_get I.hok ha
  obtain ⟨od, J, _⟩ := J.look
  obtain ⟨m, hF⟩ := I.fr
  obtain ⟨P, kx, hP, _⟩ := kit_of I ry ty
  show wpAny (model X.prog X.w) X.A (richCompare .Eq (.ref a) u) (EP X pins σ Q) X.xe s
  refine PySem.W.cmp_K (op := .Eq) (tb := t) room.r.units0 hF I.ok.mod.kin J (kx.ty _ _ I.kIn hP) hn hs hf ?_
  refine wpAny_mono (runG (us := [.ref a, u]) (ws := [.ref a, y]) (ds := []) (dvs := []) F room bi .nil out I (.cons rfl (.cons ry .nil)) q) (fun w s' z => ?_) fun _ _ x => x
  obtain ⟨z', H', I', rz, qz⟩ := z
  exact SlX.cmpback rz ⟨z', H', I', rz, qz⟩
end
end Fw

set_option linter.all false
set_option maxRecDepth 100000
set_option maxHeartbeats 4000000
namespace Fw
open PySem PySem.Spec PyProof.Rows L2
/-! ### defs: what they tell of data -/
abbrev FF := List D → PenS → Option (Rs D × PenS)
def pen0 : PenS := ⟨[], 0, 0, 0, 0⟩
def penV : Pn → List V
  | none => []
  | some q => [.ref q.1]
def isPen (pn : Pn) (a : Addr) : Bool := match pn with
  | none => false
  | some q => a == q.1 || q.T.any fun t => a == t.1
theorem isPen_no {pn : Pn} {a : Addr} (h : NP pn a) : isPen pn a = false := by
  cases pn with
  | none => rfl
  | some q =>
    show (a == q.1 || q.T.any fun t => a == t.1) = false
    rw [Bool.or_eq_false_iff]
    refine ⟨beq_eq_false_iff_ne.mpr (h q rfl).1, ?_⟩
    rw [List.any_eq_false]
    exact fun t ht => by simpa using (h q rfl).2 t ht
theorem isPen_of {pn : Pn} {a : Addr} (h : isPen pn a = false) : NP pn a := fun q hq => by
  subst hq
  have h' : (a == q.1 || q.T.any fun t => a == t.1) = false := h
  rw [Bool.or_eq_false_iff, List.any_eq_false] at h'
  exact ⟨beq_eq_false_iff_ne.mp h'.1, fun t ht => by simpa using h'.2 t ht⟩
/-- all else, for a callee -/
def outU (pn : Pn) (B H : Hp) : Hp := fun a => match B a with
  | some _ => none
  | none => if isPen pn a = true then none else H a
theorem outU_of {pn : Pn} {B H : Hp} {a : Addr} {o : HO} (h : H a = some o) (hb : B a = none) (hn : NP pn a) : outU pn B H a = some o := by
  unfold outU
  rw [hb]
  show (if isPen pn a = true then none else H a) = _
  rw [isPen_no hn, if_neg (by simp), h]
theorem outU_in {pn : Pn} {B H : Hp} {a : Addr} {o : HO} (h : outU pn B H a = some o) : B a = none ∧ NP pn a ∧ H a = some o := by
  unfold outU at h
  split at h
  · cases h
  · next hb =>
    split at h
    · cases h
    · next hp => exact ⟨hb, isPen_of (by simpa using hp), h⟩
def PostR (G : Gm) (U : Hp) (pn : Pn) (B : Hp) (p' : PenS) (Q : VK) (E : XK) : Rs D → Prop
  | .v d => ∀ v H' B', Base U pn p' H' B' → Same B B' → Rz G B' v d → Q v H'
  | .x c ns ds => ∀ cls ao H' B', Base U pn p' H' B' → Same B B' → XAt G B' H' cls ao c ns ds → E cls ao H'
/-- a def that raises nothing -/
def spN (G : Gm) (pen : Bool) (n : Nat) (F : FF) : Sp := fun vs H Q _ => ∃ (pn : Pn) (U B : Hp) (ws : List V) (ds : List D) (p p' : PenS) (d : D),
  vs = penV pn ++ ws ∧ pn.isSome = pen ∧ ds.length = n ∧ Base U pn p H B ∧ RzA G B ws ds ∧ F ds p = some (.v d, p') ∧ ∀ v H' B', Base U pn p' H' B' → Same B B' → Rz G B' v d → Q v H'
/-- a def that may raise -/
def spX (G : Gm) (pen : Bool) (n : Nat) (F : FF) : Sp := fun vs H Q E => ∃ (pn : Pn) (U B : Hp) (ws : List V) (ds : List D) (p p' : PenS) (r : Rs D),
  vs = penV pn ++ ws ∧ pn.isSome = pen ∧ ds.length = n ∧ Base U pn p H B ∧ RzA G B ws ds ∧ F ds p = some (r, p') ∧ PostR G U pn B p' Q E r
section
variable {α β : Type} {G : Gm} {U : Hp} {pn : Pn} {E : XK} {e : Ev} {σ : L2.St} {H B H' B' H1 B1 : Hp}
theorem Rl.there (r : Rl G U pn e σ H B) {os : List Addr} (s : Slots G pn B H σ e.sl os) {q : Addr} (h : q ∈ os) : ∃ o, H q = some o := s.there h
/-- ahead of a call -/
theorem Rl.call0 (r : Rl G U pn e σ H B) : Base (outU none B H) none pen0 H B :=
  ⟨r.b.bh, fun a o h => (outU_in h).2.2, fun a o h => by unfold outU; rw [h], (fun q hq => by cases hq), (fun q hq => by cases hq)⟩
theorem Base.call1 {p : PenS} (b : Base U pn p H B) : Base (outU pn B H) pn p H B := by
  refine ⟨b.bh, fun a o h => (outU_in h).2.2, fun a o h => by unfold outU; rw [h], fun q hq => ?_, fun q hq => ?_⟩
  · obtain ⟨h1, h2, h3, h4⟩ := b.pen q hq
    refine ⟨h1, ?_, h3, h4⟩
    cases h : outU pn B H q.1 with
    | none => rfl
    | some o => exact absurd rfl ((outU_in h).2.1 q hq).1
  · obtain ⟨h1, h2, h3⟩ := b.tab q hq
    refine ⟨fun t ht => ⟨(h1 t ht).1, ?_⟩, h2, h3⟩
    cases h : outU pn B H t.1 with
    | none => rfl
    | some o => exact absurd rfl (((outU_in h).2.1 q hq).2 t ht)
theorem Rl.call1 (r : Rl G U pn e σ H B) : Base (outU pn B H) pn e.pen H B := r.b.call1
theorem Rl.uh1 (r : Rl G U pn e σ H B) {a : Addr} {o : HO} (h : U a = some o) : B a = none ∧ NP pn a ∧ H a = some o := by
  refine ⟨?_, r.b.npU h, r.b.uh a o h⟩
  · cases hb : B a with
    | none => rfl
    | some x => have := r.b.bu a x hb; rw [h] at this; cases this
/-- behind a call -/
theorem Rl.after0 (r : Rl G U pn e σ H B) {q : PenS} (b : Base (outU none B H) none q H' B') (s : Same B B') : Rl G U pn e σ H' B' ∧ Keep pn H H' := by
  have r' := r
  obtain ⟨⟨bh, uh, bu, pe⟩, os, ss, n, f⟩ := r
  have np : ∀ a, NP none a := fun a q hq => by cases hq
  have out : ∀ {a : Addr} {o : HO}, H a = some o → B a = none → H' a = some o ∧ B' a = none := fun {a o} h hb => by
    have hu := outU_of h hb (np a)
    refine ⟨b.uh a o hu, ?_⟩
    cases hb' : B' a with
    | none => rfl
    | some x => have := b.bu a x hb'; rw [hu] at this; cases this
  refine ⟨⟨⟨b.bh, fun a o h => ?_, fun a o h => ?_, fun q hq => ?_, fun q hq => ?_⟩, os, ss.grow s (fun q hq => ?_), n, fun q hq => ?_⟩, fun a o h hn => ?_⟩
  · obtain ⟨h1, h2, h3⟩ := r'.uh1 h
    exact (out h3 h1).1
  · cases hu : U a with
    | none => rfl
    | some x =>
      obtain ⟨h1, h2, h3⟩ := r'.uh1 hu
      have := (out h3 h1).2
      rw [h] at this
      cases this
  · obtain ⟨h1, h2, h3, h4⟩ := pe q hq
    exact ⟨(out h3 h1).2, h2, (out h3 h1).1, s _ _ h4⟩
  · obtain ⟨h1, h2, h3, h4⟩ := r'.b.tab q hq
    have kp : Same H H' := fun c o hc => by
      cases hb : B c with
      | none => exact (out hc hb).1
      | some x => exact b.bh _ _ (s _ _ (by rw [hb]; exact (bh c x hb).symm.trans hc))
    refine ⟨fun t ht => ⟨?_, (h1 t ht).2⟩, h2.ext kp, h3.up kp, h4.trans s⟩
    obtain ⟨ps, hp, _⟩ := h2 t ht
    exact (out hp (h1 t ht).1).2
  · obtain ⟨o, ho⟩ := ss.there hq
    rw [ho]
    exact (out ho (f q hq).1).1
  · obtain ⟨o, ho⟩ := ss.there hq
    exact ⟨(out ho (f q hq).1).2, (f q hq).2⟩
  · cases hb : B a with
    | none => exact (out h hb).1
    | some x =>
      have := bh a x hb
      rw [h] at this
      cases this
      exact b.bh a o (s a o hb)
theorem Rl.after1 (r : Rl G U pn e σ H B) {q : PenS} (b : Base (outU pn B H) pn q H' B') (s : Same B B') : Rl G U pn ⟨e.sl, q⟩ σ H' B' ∧ Keep pn H H' := by
  have r' := r
  obtain ⟨⟨bh, uh, bu, pe⟩, os, ss, n, f⟩ := r
  have out : ∀ {a : Addr} {o : HO}, H a = some o → B a = none → NP pn a → H' a = some o ∧ B' a = none := fun {a o} h hb np => by
    have hu := outU_of h hb np
    refine ⟨b.uh a o hu, ?_⟩
    cases hb' : B' a with
    | none => rfl
    | some x => have := b.bu a x hb'; rw [hu] at this; cases this
  refine ⟨⟨⟨b.bh, fun a o h => ?_, fun a o h => ?_, fun q hq => ?_, fun q hq => ?_⟩, os, ss.grow s (fun q hq => ?_), n, fun q hq => ?_⟩, fun a o h hn => ?_⟩
  · obtain ⟨h1, h2, h3⟩ := r'.uh1 h
    exact (out h3 h1 h2).1
  · cases hu : U a with
    | none => rfl
    | some x =>
      obtain ⟨h1, h2, h3⟩ := r'.uh1 hu
      have := (out h3 h1 h2).2
      rw [h] at this
      cases this
  · obtain ⟨h1, h2, h3, h4⟩ := b.pen q hq
    exact ⟨h1, (pe q hq).2.1, h3, h4⟩
  · obtain ⟨h1, h2, h3⟩ := r'.b.tab q hq
    obtain ⟨g1, g2, g3⟩ := b.tab q hq
    exact ⟨fun t ht => ⟨(g1 t ht).1, (h1 t ht).2⟩, g2, g3⟩
  · obtain ⟨o, ho⟩ := ss.there hq
    rw [ho]
    exact (out ho (f q hq).1 (f q hq).2.2).1
  · obtain ⟨o, ho⟩ := ss.there hq
    exact ⟨(out ho (f q hq).1 (f q hq).2.2).2, (f q hq).2⟩
  · cases hb : B a with
    | none => exact (out h hb hn).1
    | some x =>
      have := bh a x hb
      rw [h] at this
      cases this
      exact b.bh a o (s a o hb)
/-- f(..), f raises nothing -/
def callN (n : Nat) (F : FF) (f : FG (List D)) : FG D := bindG f fun ds e => if ds.length = n then (match F ds pen0 with
  | some (.v d, _) => some (.v d, e.pen)
  | _ => none) else none
theorem ce_callN {n : Nat} {F : FF} {f : FG (List D)} {t : TA} {E' : XK} (h : CA G pn E t f) : CE G pn E (tCall (spN G false n F) [] E' t) (callN n F f) := by
  refine CG.bind (t := t) h fun ws ds U e σ H B r p' Q rl ra hf post => ?_
  split at hf
  · next hn =>
    split at hf
    · next d q hF =>
      cases hf
      refine ⟨none, outU none B H, B, ws, ds, pen0, q, d, by rw [List.append_nil]; rfl, rfl, hn, rl.call0, ra, hF, fun v H' B' b s rz => ?_⟩
      obtain ⟨rl', k⟩ := rl.after0 b s
      exact post v H' B' rl' s k rz
    · cases hf
  · cases hf
def isP (e : Ev) (i : Nat) : Bool := match e.sl[i]? with
  | some .p => true
  | _ => false
theorem isP_eq {i : Nat} (h : isP e i = true) : e.sl[i]? = some .p := by
  unfold isP at h
  split at h
  · next h' => exact h'
  · cases h
/-- f(pen, ..) -/
def callP (n i : Nat) (F : FF) (f : FG (List D)) : FG D := fun e => if isP e i = true then bindG f (fun ds e => if ds.length = n then (match F ds e.pen with
  | some (.v d, p) => some (.v d, p)
  | _ => none) else none) e else none
theorem ce_callP {n i : Nat} {F : FF} {f : FG (List D)} {t : TA} {E' : XK} (h : CA G pn E t f) : CE G pn E (tCall (spN G true n F) [] E' (tCons (tVar i) t)) (callP n i F f) := by
  intro U e σ H B r p' Q rl hf post
  unfold callP at hf
  split at hf
  · next hi =>
    obtain ⟨os, ss, _, _⟩ := rl.s
    obtain ⟨qi, hs, hp⟩ := ss.getP (isP_eq hi)
    refine ⟨_, hs, ?_⟩
    rcases bind_inv hf with ⟨c', ns, ds, hx, rfl⟩ | ⟨ds, q, hx, hg⟩
    · exact h U e σ H B _ _ _ rl hx post
    · refine h U e σ H B _ _ _ rl hx fun ws H1 B1 rl1 s1 k1 ra => ?_
      split at hg
      · next hn =>
        split at hg
        · next d q' hF =>
          cases hg
          refine ⟨pn, outU pn B1 H1, B1, ws, ds, q, _, d, by rw [List.append_nil, hp]; rfl, by rw [hp]; rfl, hn, rl1.call1, ra, hF, fun v H' B' b s rz => ?_⟩
          obtain ⟨rl', k⟩ := rl1.after1 b s
          exact post v H' B' rl' (s1.trans s) (k1.trans k) rz
        · cases hg
      · cases hg
  · cases hf
/-- a call that may raise -/
def callX (n : Nat) (F : FF) (f : FG (List D)) : FG D := bindG f fun ds e => if ds.length = n then (match F ds pen0 with
  | some (r, _) => some (r, e.pen)
  | none => none) else none
theorem Rl.base' (r : Rl G U pn e σ H B) : Base U pn e.pen H B := r.b
theorem ce_callX {n : Nat} {F : FF} {f : FG (List D)} {t : TA} (h : CA G pn E t f) : CE G pn E (tCall (spX G false n F) [] E t) (callX n F f) := by
  refine CG.bind (t := t) h fun ws ds U e σ H B r p' Q rl ra hf post => ?_
  split at hf
  · next hn =>
    split at hf
    · next r q hF =>
      cases hf
      refine ⟨none, outU none B H, B, ws, ds, pen0, q, r, by rw [List.append_nil]; rfl, rfl, hn, rl.call0, ra, hF, ?_⟩
      cases r with
      | v d =>
        intro v H' B' b s rz
        obtain ⟨rl', k⟩ := rl.after0 b s
        exact post v H' B' rl' s k rz
      | x c ns es =>
        intro cls ao H' B' b s x
        obtain ⟨rl', k⟩ := rl.after0 b s
        exact post cls ao H' B' rl'.b s x
    · cases hf
  · cases hf
/-! ### from a body to its def -/
def ofFl : Option (Fl × Ev) → Option (Rs D × PenS)
  | some (.rt d, e) => some (.v d, e.pen)
  | some (.nx, e) => some (.v .none, e.pen)
  | some (.x c ns ds, e) => some (.x c ns ds, e.pen)
  | _ => none
def slots0 (pen : Bool) (N : Nat) (ds : List D) : List Slot := (if pen = true then [Slot.p] else []) ++ (ds.map Slot.d ++ List.replicate (N - ((if pen = true then 1 else 0) + ds.length)) .u)
def defF (pen : Bool) (N : Nat) (f : FS) : FF := fun ds p => ofFl (f ⟨slots0 pen N ds, p⟩)
theorem Slots.us : ∀ (n : Nat), Slots G pn B H (List.replicate n none) (List.replicate n .u) []
  | 0 => .nil
  | n + 1 => .u (Slots.us n)
theorem Slots.ds {σ : L2.St} {ρ : List Slot} {os : List Addr} (t : Slots G pn B H σ ρ os) : ∀ {vs : List V} {ds : List D}, RzA G B vs ds → Slots G pn B H (vs.map some ++ σ) (ds.map Slot.d ++ ρ) os
  | _, _, .nil => t
  | _, _, .cons h r => .d h (t.ds r)
theorem start_rl {N : List Str} {ws : List V} {ds : List D} {p : PenS} {pen : Bool} (b : Base U pn p H B) (hp : pn.isSome = pen) (ra : RzA G B ws ds) : Rl G U pn ⟨slots0 pen N.length ds, p⟩ (L2.start N (penV pn ++ ws)) H B := by
  refine ⟨b, [], ?_, .nil, fun q hq => by cases hq⟩
  unfold L2.start slots0
  cases pn with
  | none =>
    cases hp
    show Slots _ _ _ _ (ws.map some ++ List.replicate (N.length - ws.length) none) (ds.map Slot.d ++ List.replicate (N.length - (0 + ds.length)) .u) _
    rw [Nat.zero_add, ra.length]
    exact (Slots.us _).ds ra
  | some q =>
    cases hp
    show Slots _ _ _ _ (some (.ref q.1) :: (ws.map some ++ List.replicate (N.length - (ws.length + 1)) none)) (.p :: (ds.map Slot.d ++ List.replicate (N.length - (1 + ds.length)) .u)) _
    rw [Nat.add_comm 1, ra.length]
    exact .p rfl ((Slots.us _).ds ra)
theorem run_n {pen : Bool} {n : Nat} {N : List Str} {f : FS} {ts : TS} {vs : List V} {Q : VK} {E' : XK} (hcs : ∀ pn, CS G pn E0 ts f) (h : spN G pen n (defF pen N.length f) vs H Q E') : ts { nx := fun _ H' => Q .non H', rt := Q } (L2.start N vs) H := by
  obtain ⟨pn, U, B, ws, ds, p, p', d, rfl, hp, hn, b, ra, hF, post⟩ := h
  unfold defF ofFl at hF
  have rl := start_rl (N := N) b hp ra
  split at hF
  · next d' e' he => cases hF; exact hcs pn U _ _ H B _ _ _ rl he fun v H' B' b s rz => post v H' B' b s rz
  · next e' he => cases hF; exact hcs pn U _ _ H B _ _ _ rl he fun σ' H' B' r s => post .non H' B' r.b s .non
  · cases hF
  · cases hF
theorem run_x {pen : Bool} {n : Nat} {N : List Str} {f : FS} {ts : TS} {vs : List V} {Q : VK} (hcs : ∀ pn, CS G pn E ts f) (h : spX G pen n (defF pen N.length f) vs H Q E) : ts { nx := fun _ H' => Q .non H', rt := Q } (L2.start N vs) H := by
  obtain ⟨pn, U, B, ws, ds, p, p', d, rfl, hp, hn, b, ra, hF, post⟩ := h
  unfold defF ofFl at hF
  have rl := start_rl (N := N) b hp ra
  split at hF
  · next d' e' he => cases hF; exact hcs pn U _ _ H B _ _ _ rl he fun v H' B' b s rz => post v H' B' b s rz
  · next e' he => cases hF; exact hcs pn U _ _ H B _ _ _ rl he fun σ' H' B' r s => post .non H' B' r.b s .non
  · next c ns es e' he => cases hF; exact hcs pn U _ _ H B _ _ _ rl he fun cls ao H' B' b s x => post cls ao H' B' b s x
  · cases hF
theorem spN_len {pen : Bool} {n : Nat} {F : FF} {vs : List V} {Q : VK} {E' : XK} (h : spN G pen n F vs H Q E') : vs.length = (if pen = true then 1 else 0) + n := by
  obtain ⟨pn, U, B, ws, ds, p, p', d, rfl, hp, hn, b, ra, hF, post⟩ := h
  rw [List.length_append, ra.length, hn]
  cases pn with
  | none => cases hp; rfl
  | some q => cases hp; rfl
theorem spX_len {pen : Bool} {n : Nat} {F : FF} {vs : List V} {Q : VK} {E' : XK} (h : spX G pen n F vs H Q E') : vs.length = (if pen = true then 1 else 0) + n := by
  obtain ⟨pn, U, B, ws, ds, p, p', d, rfl, hp, hn, b, ra, hF, post⟩ := h
  rw [List.length_append, ra.length, hn]
  cases pn with
  | none => cases hp; rfl
  | some q => cases hp; rfl
end
section
variable {P : Program} {w : World} {K : PySem.W.Frag} {mg : Str → Option Value} {base : Heap} {G : Gm}
/-- a def's facts -/
structure FnD (K : PySem.W.Frag) (mg : Str → Option Value) (P : Program) (w : World) (base : Heap) (CX : CXT) (x : Str) (lv : Nat) (ps : List Str) (sp : Sp) : Prop where
  ex : ∃ (f : Addr) (fd : FuncData), mg x = some (.ref f) ∧ PySem.W.keepIn K (.ref f) = true ∧ Binds K fd ps [] ∧ FnG P w K mg base CX lv f fd ps sp
theorem fn_n {x qual : Str} {st : Stmt} {f : Addr} {fd : FuncData} {N ps : List Str} {k n : Nat} {pen : Bool} {F : FS} (Fn : Fun K x qual st f fd) (S : FnScope N ps (defScope st)) (hl : ps.length = (if pen = true then 1 else 0) + n)
    (hbody : ∀ (cdv : Value) (A : Around) (outer : List Env) (s : Shared) (H : Hp) (E : XK), RoomG k (A.deeper (envOfC qual (defScope st) s.heap.objs.size f cdv)) →
      ∃ t, PSs (cxOf CX0 P w K mg base N qual (defScope st) f cdv A outer s H E).nox (defBody st) t ∧ ∀ pn, CS G pn E0 t F) : FnG P w K mg base CX0 (k + 1) f fd ps (spN G pen n (defF pen N.length F)) := by
  refine fnG_of Fn S (fun vs H Q E h => by rw [spN_len h, hl]) (fun cdv A outer s H vs Q E hr h => ?_)
  obtain ⟨t, h1, h2⟩ := hbody cdv A outer s H E hr
  exact ⟨t, h1.nox, run_n h2 h⟩
end
end Fw

set_option linter.all false
set_option maxRecDepth 100000
set_option maxHeartbeats 4000000
namespace Fw
open PySem PySem.Spec PyProof.Rows L2
abbrev dSub := dI fun i j => i - j
abbrev dAnd := dI Builtin.bitAnd
abbrev dOr := dI Builtin.bitOr
abbrev dXor := dI Builtin.bitXor
abbrev dLt := dB fun i j => decide (i < j)
abbrev dLe := dB fun i j => decide (i ≤ j)
abbrev dGt := dB fun i j => decide (j < i)
abbrev dGe := dB fun i j => decide (j ≤ i)
theorem hu65 {k : Nat} {A : Around} (r : Room k A) : A.units + 65 < cLine := by have := r.un; omega
/-- a def that stands in the text, with what it tells -/
structure Fn (K : PySem.W.Frag) (mg : Str → Option Value) (P : Program) (w : World) (base : Heap) (CX : CXT) (x : Str) (lv : Nat) (f : Addr) (fd : FuncData) (ps : List Str) (sp : Sp) : Prop where
  g : mg x = some (.ref f)
  k : PySem.W.keepIn K (.ref f) = true
  b : Binds K fd ps []
  G : FnG P w K mg base CX lv f fd ps sp
/-- the built-ins that the text has not renamed -/
structure Bv (mg : Str → Option Value) : Prop where
  isinstance : mg "isinstance" = none
  int : mg "int" = none
  bool : mg "bool" = none
  str : mg "str" = none
  tuple : mg "tuple" = none
  list : mg "list" = none
  dict : mg "dict" = none
  set : mg "set" = none
  len : mg "len" = none
  all : mg "all" = none
  any : mg "any" = none
  enumerate : mg "enumerate" = none
  zip : mg "zip" = none
  range : mg "range" = none
  sorted : mg "sorted" = none
  max : mg "max" = none
  min : mg "min" = none
  abs : mg "abs" = none
  repr : mg "repr" = none
  reversed : mg "reversed" = none
section
variable {α β : Type} {G : Gm} {U : Hp} {pn : Pn} {E : XK} {e : Ev} {σ : L2.St} {H B H' B' H1 B1 : Hp}
/-! ### slices -/
theorem co_none : CO G pn E tNoPart (retG none) := by
  intro U e σ H B r p' Q rl hf post
  cases hf
  exact post none H B rl (Same.refl _) Keep.refl rfl
def partD : D → Option (Option Int)
  | .int i => some (some i)
  | _ => none
def partG (f : FG D) : FG (Option Int) := bindG f fun d => optG (partD d)
theorem co_some {t : TE} {f : FG D} (h : CE G pn E t f) : CO G pn E (tPart t) (partG f) := by
  refine CG.bind (t := t) h fun v a U e σ H B r p' Q rl ra hf post => ?_
  obtain ⟨c, hc, rfl, rfl⟩ := optG_eq hf
  unfold partD at hc
  split at hc
  · next i => cases hc; exact ⟨i, ra.int_inv, post _ H B rl (Same.refl _) Keep.refl rfl⟩
  · cases hc
def slG (f : FG D) (lo hi : FG (Option Int)) : FG D := bindG f fun a => bindG lo fun l => bindG hi fun h => optG (dSl l h a)
theorem ce_sl {t : TE} {tl th : TO} {f : FG D} {lo hi : FG (Option Int)} (h : CB G pn E t f) (h1 : CO G pn E tl lo) (h2 : CO G pn E th hi) : CE G pn E (tSl (uSl G.K) t tl th) (slG f lo hi) := by
  refine CB.bind2 (t := t) (u := tl) (k := fun v w σ H Q => th σ H fun u H3 => uSl G.K v w u H3 Q) (h := fun a l => bindG hi fun h => optG (dSl l h a)) h h1 fun v w a b U e σ H B r p' Q rl ra rb hf post => ?_
  subst rb
  rcases bind_inv hf with ⟨c, ns, ds, hx, rfl⟩ | ⟨u, q, hx, hg⟩
  · exact h2 U e σ H B _ _ _ rl hx post
  · refine h2 U e σ H B _ _ _ rl hx fun u' H1 B1 rl1 s1 k1 hu => ?_
    subst hu
    obtain ⟨c, hc, rfl, rfl⟩ := optG_eq hg
    have ra := ra.keep k1 s1
    unfold dSl at hc
    split at hc
    · cases hc
      obtain ⟨a1, xs, rfl, hl, n1, r1⟩ := ra.lst_inv
      refine .inl ⟨a1, xs, rfl, SqL.of hl, fun p hp => ?_⟩
      have hB := rl1.b.bh.free hp
      exact post _ _ _ (rl1.new hp) (s1.trans (same_upd hB)) (k1.trans (Keep.of (same_upd hp))) (.lst upd_same ((r1.cut _ _).same (same_upd hB)))
    · cases hc
      obtain ⟨a1, xs, rfl, hl, r1⟩ := ra.tup_inv
      refine .inr ⟨a1, xs, rfl, same_t rl1.b.bh hl, fun z => ?_, fun _ p hp => ?_⟩
      · have e1 : cutD ‹_› w u' = ‹List D› := by
          unfold cutD
          rw [r1.length] at z
          rw [z.1, z.2, List.drop_zero, Nat.sub_zero, List.take_length]
        rw [e1] at post
        exact post _ H1 B1 rl1 s1 k1 (.tup hl r1)
      · have hB := rl1.b.bh.free hp
        exact post _ _ _ (rl1.new hp) (s1.trans (same_upd hB)) (k1.trans (Keep.of (same_upd hp))) (.tup upd_same ((r1.cut _ _).same (same_upd hB)))
    · cases hc
/-! ### list(range(..)) -/
def rgV3 (i c : Int) (n : Nat) : List V := (List.range n).map fun (k : Nat) => V.int (i + (k : Int) * c)
def rgD3 (i c : Int) (n : Nat) : List D := (List.range n).map fun (k : Nat) => PyData.int (i + (k : Int) * c)
def tLr3 (ta : TA) : TE := fun σ H Q => ta σ H fun vs H1 => ∃ (i j c : Int) (n : Nat), vs = [.int i, .int j, .int c] ∧ RgC i j c n ∧ n ≤ 1000000 ∧ ∀ p, H1 p = none → Q (.ref p) (upd H1 p (.lst (rgV3 i c n)))
theorem pe_lr3 {X : Cx} {a b c : Expr} {ta : TA} {p p2 pos pos2 : Pos} (hc : X.calm = true) (hg : Gl X "range") (hm : X.mg "range" = none) (hg2 : Gl X "list") (hm2 : X.mg "list" = none) (ha : PA X [a, b, c] ta)
    (hs : starEach [a, b, c] X.env = (false, eval a X.env) :: starEach [b, c] X.env := by rfl) (hpl : (backTo pos (starEach [b, c] X.env)).any (·.1) = false := by rfl)
    (hs2 : starEach [.Call (.Name "range" p) [a, b, c] [] pos] X.env = (false, eval (.Call (.Name "range" p) [a, b, c] [] pos) X.env) :: starEach [] X.env := by rfl) :
    PE X (.Call (.Name "list" p2) [.Call (.Name "range" p) [a, b, c] [] pos] [] pos2) (tLr3 ta) := by
  refine ⟨fun pins s σ H Q I h => ?_⟩
  refine Call_ (ld_blt I hg2 hm2 boot_list (PyProof.Rows.callWith_type1 (args_cons ?_ hs2) hs2))
  refine Call_ (ld_blt I hg hm boot_range (PyProof.Rows.callWith_type1 (thn (ha.run pos pins s σ H _ I h) fun us s1 ⟨vs, H1, I1, r1, q1⟩ => ?_) hs hpl))
  obtain ⟨i, j, k, n, e, ⟨c0, c1, c2, c3⟩, hn, q⟩ := q1
  subst e
  cases r1 with
  | cons r rr =>
    cases rr with
    | cons r' rr =>
      cases rr with
      | cons r'' rr =>
        cases rr
        obtain ⟨t, rfl⟩ := r
        obtain ⟨t', rfl⟩ := r'
        obtain ⟨t'', rfl⟩ := r''
        refine call_range_3 c0 (args_nil ?_) (.inl (PyProof.noPylong_small c1))
        have I2 : Inv X pins σ H1 { s1 with heap := s1.heap.push { cls := .type "range", data := .fields #[.int i t, .int j t', .int k t''] } } := I1.kept (t' := s1.toks) fun b o e => Heap.get?_push_of_some _ e
        refine call_list_range (n := n) (I2.ok.hd hc) (IsRange.new ..) c2 c3 (Nat.le_trans hn (by decide)) fun h' tk acc c' hk e' hi => ?_
        have hlen : acc.toList.length = n := by rw [Array.length_toList]; exact hi.1
        have hv : Vals (rgV3 i k n) acc.toList := by
          unfold rgV3
          rw [← hlen]
          refine vals_of_get acc.toList _ fun j u hj => ?_
          obtain ⟨t, rfl⟩ := hi.2 j u (by rw [← hj, Array.getElem?_toList])
          exact ⟨t, rfl⟩
        refine ⟨.ref _, upd H1 _ (.lst (rgV3 i k n)), I2.laid hk (Nat.le_refl _) (show ObjOk X.prog X.w _ _ _ (.lst (rgV3 i k n)) from ⟨?_, acc.toList, c', hv, ?_⟩), rfl, q _ (I2.hok.fresh (Nat.le_refl _))⟩
        · rw [rgV3, List.length_map, List.length_range]; exact line_of hn
        · rw [Array.toArray_toList]; exact e'
theorem rzA_rg3 {i c : Int} {n : Nat} : RzA G B (rgV3 i c n) (rgD3 i c n) := by
  unfold rgV3 rgD3
  generalize List.range n = l
  induction l with
  | nil => exact .nil
  | cons k t ih => exact .cons (.int _) ih
/-- how many turns a range has -/
def rgN (i j c : Int) : Nat := (Builtin.Range.rangeSize i j c).toNat
def lr3D : List D → Option D
  | [.int i, .int j, .int c] => if okR i && okR j && (c == 1 || c == -1 || c == 2) then some (.list (rgD3 i c (rgN i j c))) else none
  | _ => none
theorem rgC_of {i j c : Int} (h : (okR i && okR j && (c == 1 || c == -1 || c == 2)) = true) : RgC i j c (rgN i j c) ∧ rgN i j c ≤ 3000000 := by
  simp only [Bool.and_eq_true, Bool.or_eq_true, beq_iff_eq] at h
  obtain ⟨⟨h1, h2⟩, h3⟩ := h
  have a1 := okR_eq h1
  have a2 := okR_eq h2
  rcases h3 with (rfl | rfl) | rfl
  · refine ⟨⟨by decide, by decide, small_one (by omega) (by omega) (by omega) (by omega), ?_⟩, ?_⟩
    · unfold rgN; rw [rangeSize_one]; split <;> omega
    · unfold rgN; rw [rangeSize_one]; split <;> omega
  · refine ⟨⟨by decide, by decide, PySem.W.small_down (by omega) (by omega) (by omega) (by omega), ?_⟩, ?_⟩
    · unfold rgN; rw [PySem.W.rangeSize_downNat]; rfl
    · unfold rgN; rw [PySem.W.rangeSize_downNat]; omega
  · have e : Builtin.Range.rangeSize i j 2 = if i < j then (j - i - 1) / 2 + 1 else 0 := by
      unfold Builtin.Range.rangeSize
      simp only [show (2 : Int) > 0 by decide, if_true]
    have sm : Builtin.Range.small i j 2 = true := by
      unfold Builtin.Range.small
      rw [e]
      simp only [Builtin.Range.rangeFitsLong, Bool.and_eq_true, Bool.or_eq_true, decide_eq_true_eq, beq_iff_eq, show (2 : Int) > 0 by decide, if_true]
      split <;> omega
    refine ⟨⟨by decide, by decide, sm, ?_⟩, ?_⟩
    · unfold rgN; rw [e]; split <;> omega
    · unfold rgN; rw [e]; split <;> omega
def lrG (f : FG (List D)) : FG D := bindG f fun ds => optG ((lr3D ds).bind fun d => match d with
  | .list xs => few xs (.list xs)
  | _ => none)
theorem cf_lr3 {t : TA} {f : FG (List D)} (h : CA G pn E t f) : CF G pn E (tLr3 t) (lrG f) := by
  refine CF.bind (t := t) h fun vs ds U e σ H B r p' Q rl ra hf post => ?_
  obtain ⟨c, hc, rfl, rfl⟩ := optG_eq hf
  obtain ⟨c', hc', h2⟩ := Option.bind_eq_some_iff.mp hc
  unfold lr3D at hc'
  split at hc'
  · split at hc'
    · next i j k hk =>
      cases hc'
      obtain ⟨hl, rfl⟩ := few_eq h2
      obtain ⟨g1, g2⟩ := rgC_of hk
      cases ra with
      | cons r1 r2 =>
        cases r2 with
        | cons r2 r3 =>
          cases r3 with
          | cons r3 r4 =>
            cases r4
            cases r1.int_inv
            cases r2.int_inv
            cases r3.int_inv
            refine ⟨i, j, k, _, rfl, g1, ?_, fun p hp => post p _ B (rl.fresh hp (.lst upd_same rzA_rg3)) (Same.refl _) (Keep.of (same_upd hp))⟩
            rw [rgD3, List.length_map, List.length_range] at hl
            exact hl
    · cases hc'
  · cases hc'
def tLr2 (ta : TE) (tb : TE) : TE := tLstRg (tRg2 ta tb)
def lr2G (f g : FG D) : FG D := bindG f fun a => bindG g fun b => optG ((lr3D [a, b, .int 1]).bind fun d => match d with
  | .list xs => few xs (.list xs)
  | _ => none)
theorem rgV_eq {i j : Int} : rgV i j = rgV3 i 1 (j - i).toNat := by
  unfold rgV rgV3
  congr 1
  funext k
  rw [Int.mul_one]
theorem cf_lr2 {t u : TE} {f g : FG D} (h1 : CE G pn E t f) (h2 : CE G pn E u g) : CF G pn E (tLstRg (tRg2 t u)) (lr2G f g) := by
  refine CF.bind (t := t) h1 fun v a U e σ H B r p' Q rl ra hf post => ?_
  rcases bind_inv hf with ⟨c, ns, ds, hx, rfl⟩ | ⟨b, q, hx, hg⟩
  · exact h2 U e σ H B _ _ _ rl hx post
  · refine h2 U e σ H B _ _ _ rl hx fun w H1 B1 rl1 s1 k1 rb => ?_
    obtain ⟨c, hc, rfl, rfl⟩ := optG_eq hg
    obtain ⟨c', hc', h3⟩ := Option.bind_eq_some_iff.mp hc
    unfold lr3D at hc'
    split at hc'
    · next i j k he =>
      cases he
      split at hc'
      · next hk =>
        cases hc'
        obtain ⟨hl, rfl⟩ := few_eq h3
        obtain ⟨g1, g2⟩ := rgC_of hk
        simp only [Bool.and_eq_true] at hk
        have a1 := okR_eq hk.1.1
        have a2 := okR_eq hk.1.2
        cases ra.int_inv
        cases rb.int_inv
        refine ⟨i, j, rfl, rfl, ⟨by omega, by omega, by omega, by omega, by omega⟩, fun p hp => ?_⟩
        have hn : rgN i j 1 = (j - i).toNat := by unfold rgN; rw [rangeSize_one]; split <;> omega
        rw [rgV_eq, ← hn]
        exact post p _ B1 (rl1.fresh hp (.lst upd_same rzA_rg3)) s1 (k1.trans (Keep.of (same_upd hp)))
      · cases hc'
    · cases hc'
/-! ### isinstance -/
def tyN : D → String
  | .none => "NoneType"
  | .bool _ => "bool"
  | .int _ => "int"
  | .str _ => "str"
  | .list _ => "list"
  | .tuple _ => "tuple"
  | .dict _ => "dict"
def isInsD : D → Bool
  | .dict ((.none, _) :: _) => true
  | .dict ((.bool _, _) :: _) => true
  | _ => false
theorem tyS {K : PySem.W.Frag} {a : Addr} {xs : List V} (h : SqT K H a xs) : TyX K H (.ref a) (.type "tuple") := by
  rcases h with (h | ⟨o, h⟩) | ⟨o, its, n, h1, h2, _⟩
  · exact .base (.tup h)
  · exact .fTuple h
  · exact .kTuple h1 h2
theorem RzB.ty {v : V} {d : D} (hb : Same B H) (h : RzB G pn B H v d) (hi : isInsD d = false) : TyX G.K H v (.type (tyN d)) := by
  cases h with
  | non => exact .base .non
  | bl b => exact .base (.bl b)
  | int i => exact .base (.int i)
  | str x => exact .base (.str x)
  | lst h _ _ => exact .base (.lst h)
  | tup h _ => exact tyS (same_t hb h)
  | kt h hs => simp [kD, isInsD] at hi
  | dk h _ _ => exact .base (.dK h)
  | dt h _ _ => exact .base (.dT h)
  | ins h h2 h3 hs => simp [insD, isInsD] at hi
  | fn h => simp [fnD, isInsD] at hi
inductive Ty where
  | int | bool | str | tuple | list | dict
def Ty.nm : Ty → String
  | .int => "int"
  | .bool => "bool"
  | .str => "str"
  | .tuple => "tuple"
  | .list => "list"
  | .dict => "dict"
def isTy : Ty → D → Bool
  | .int, .int _ => true
  | .int, .bool _ => true
  | .bool, .bool _ => true
  | .str, .str _ => true
  | .tuple, .tuple _ => true
  | .list, .list _ => true
  | .dict, .dict _ => true
  | _, _ => false
theorem kit_is (t : Ty) (d : D) : kitB (tyN d) t.nm = some (isTy t d) := by
  cases t <;> cases d <;> kernel_rfl
def dIsi (T : Ty) (d : D) : Option D := if isInsD d = true then none else some (.bool (isTy T d))
def isiG (T : Ty) (f : FG D) : FG D := op1 (dIsi T) f
theorem ce_isi (T : Ty) {t : TE} {f : FG D} (h : CB G pn E t f) : CE G pn E (tCB (rIsi G.K) (tCons t (tCons (tC (.ty T.nm)) tNil))) (isiG T f) := by
  refine CG.bind (t := t) h fun v a U e σ H B r p' Q rl ra hf post => ?_
  obtain ⟨c, hc, rfl, rfl⟩ := optG_eq hf
  unfold dIsi at hc
  split at hc
  · cases hc
  · next hi =>
    cases hc
    exact ⟨v, .ty T.nm, _, _, isTy T a, rfl, .ty T.nm, ra.ty rl.b.bh (by simpa using hi), kit_ty (kit_is T a), post _ H B rl (Same.refl _) Keep.refl (.bl _)⟩
/-- isinstance(x, (S, T)) -/
def dIsi2 (S T : Ty) (d : D) : Option D := if isInsD d = true then none else some (.bool (isTy S d || isTy T d))
def isi2G (S T : Ty) (f : FG D) : FG D := op1 (dIsi2 S T) f
theorem ce_isi2 (S T : Ty) {t : TE} {f : FG D} (h : CE G pn E t f) : CE G pn E (tCB (rIsiT G.K) (tCons t (tCons (tTup (tCons (tC (.ty S.nm)) (tCons (tC (.ty T.nm)) tNil))) tNil))) (isi2G S T f) := by
  refine CG.bind (t := t) h fun v d U e σ H B r p' Q rl ra hf post => ?_
  obtain ⟨c, hc, rfl, rfl⟩ := optG_eq hf
  unfold dIsi2 at hc
  split at hc
  · cases hc
  · next hi =>
    cases hc
    have ha := kit_is S d
    have hb := kit_is T d
    generalize isTy S d = a at ha post ⊢
    generalize isTy T d = b at hb post ⊢
    refine ⟨by show 2 ≤ sizeLine; decide, fun p hp => ?_⟩
    have hB := rl.b.bh.free hp
    have rl2 := rl.new (o := .tup [.ty S.nm, .ty T.nm]) hp
    refine ⟨v, p, [.ty S.nm, .ty T.nm], _, [.type S.nm, .type T.nm], a || b, rfl, upd_same, .cons (.ty S.nm) (.cons (.ty T.nm) .nil), (Rz.b rl2.b (ra.same (same_upd hB))).ty rl2.b.bh (by simpa using hi), ?_, ?_⟩
    · exact kitAny_cons (kit_ty ha) (fun z => kitAny_cons (kit_ty hb) (fun z2 => by rw [z, z2]; rfl) (fun z2 => by rw [z, z2]; rfl)) (fun z => by rw [z, Bool.true_or])
    · exact post _ _ _ rl2 (same_upd hB) (Keep.of (same_upd hp)) (.bl _)
/-! ### stores of any form -/
abbrev FV := D → Ev → Option Ev
abbrev FVs := List D → Ev → Option Ev
def CV (G : Gm) (pn : Pn) (g : TG) (f : FV) : Prop := ∀ U e σ H B v d e' (Q : L2.St → Hp → Prop), Rl G U pn e σ H B → Rz G B v d → f d e = some e' →
  (∀ σ' H' B', Rl G U pn e' σ' H' B' → Same B B' → Q σ' H') → g v σ H Q
def CVs (G : Gm) (pn : Pn) (g : TGs) (f : FVs) : Prop := ∀ U e σ H B vs ds e' (Q : L2.St → Hp → Prop), Rl G U pn e σ H B → RzA G B vs ds → f ds e = some e' →
  (∀ σ' H' B', Rl G U pn e' σ' H' B' → Same B B' → Q σ' H') → g vs σ H Q
def nameV (i : Nat) : FV := fun d e => some ⟨e.sl.set i (.d d), e.pen⟩
def nilV : FVs := fun ds e => match ds with
  | [] => some e
  | _ => none
def consV (f : FV) (g : FVs) : FVs := fun ds e => match ds with
  | [] => none
  | d :: r => (f d e).bind (g r)
def tupV (n : Nat) (f : FVs) : FV := fun d e => match d with
  | .tuple ds => if ds.length = n then f ds e else none
  | .dict [(.bool false, .tuple ds)] => if ds.length = n then f ds e else none
  | _ => none
/-- xs[k] = .. -/
def subV (i : Nat) (fk : FG D) : FV := fun d e => (ownL i e).bind fun _ => match fk e with
  | some (.v (.int k), p) => (ownL i ⟨e.sl, p⟩).bind fun ds => (ixN ds.length k).map fun j => ⟨e.sl.set i (.o (.list (ds.set j d))), p⟩
  | _ => none
theorem v_name (i : Nat) : CV G pn (gName i) (nameV i) := by
  intro U e σ H B v d e' Q rl rz h q
  cases h
  exact q _ H B (rl.setD rz i) (Same.refl _)
theorem v_nil : CVs G pn gNil nilV := by
  intro U e σ H B vs ds e' Q rl rz h q
  unfold nilV at h
  split at h
  · cases h; cases rz; exact ⟨rfl, q σ H B rl (Same.refl _)⟩
  · cases h
theorem v_cons {t : TG} {u : TGs} {f : FV} {g : FVs} (h1 : CV G pn t f) (h2 : CVs G pn u g) : CVs G pn (gCons t u) (consV f g) := by
  intro U e σ H B vs ds e' Q rl rz h q
  unfold consV at h
  cases rz with
  | nil => cases h
  | cons r1 r2 =>
    obtain ⟨e1, h3, h4⟩ := Option.bind_eq_some_iff.mp h
    exact ⟨_, _, rfl, h1 U e σ H B _ _ e1 _ rl r1 h3 fun σ' H1 B1 rl' s1 => h2 U e1 σ' H1 B1 _ _ e' Q rl' (r2.same s1) h4 fun σ2 H2 B2 rl2 s2 => q σ2 H2 B2 rl2 (s1.trans s2)⟩
theorem v_tup {n : Nat} {t : TGs} {f : FVs} (h1 : CVs G pn t f) : CV G pn (gTup G.K n t) (tupV n f) := by
  intro U e σ H B v d e' Q rl rz h q
  unfold tupV at h
  split at h
  · next ds =>
    split at h
    · next hn =>
      obtain ⟨a, xs, rfl, hx, hr⟩ := rz.tup_inv
      exact ⟨a, xs, rfl, same_t rl.b.bh hx, by rw [hr.length, hn], h1 U e σ H B xs ds e' Q rl hr h q⟩
    · cases h
  · next ds =>
    split at h
    · next hn =>
      obtain ⟨a, xs, rfl, hx, hr⟩ := Rz.kt_inv rl.b rz
      exact ⟨a, xs, rfl, hx.sq, by rw [hr.length, hn], h1 U e σ H B xs ds e' Q rl hr h q⟩
    · cases h
  · cases h
theorem v_sub {i : Nat} {tk : TE} {fk : FG D} (hk : CE G pn E tk fk) : CV G pn (gSub (tVar i) tk rSetL) (subV i fk) := by
  intro U e σ H B v d e' Q rl rz h q
  obtain ⟨ds0, h0, h⟩ := Option.bind_eq_some_iff.mp h
  obtain ⟨p0, xs0, e0, e2, e3⟩ := rl.lst h0
  refine ⟨_, e0, ?_⟩
  split at h
  · next k p hk' =>
    obtain ⟨ds, h6, h7⟩ := Option.bind_eq_some_iff.mp h
    obtain ⟨j, h8, h9⟩ := Option.map_eq_some_iff.mp h7
    cases h9
    refine hk U e σ H B _ _ _ rl hk' fun w H1 B1 rl1 s1 k1 rw => ?_
    obtain ⟨p', xs', e1', e2', e3'⟩ := rl1.lst (i := i) (ds := ds) h6
    rw [e0] at e1'
    cases e1'
    cases rw.int_inv
    exact ⟨p0, xs', k, j, rfl, rfl, e2', by rw [e3'.length]; exact h8, q σ _ B1 (rl1.lstPut h6 e0 (e3'.set (rz.same s1) j)) s1⟩
  · cases h
def asgV (f : FG D) (t : FV) : FS := thenS f fun d e => (t d e).map fun e' => (.nx, e')
theorem cs_asgV {t : TE} {g : TG} {f : FG D} {ft : FV} (h : CE G pn E t f) (hg : CV G pn g ft) : CS G pn E (tAsg t g) (asgV f ft) := by
  refine CS.of (t := t) h fun w a U e σ H B r e' Dn rl ra hf post => ?_
  obtain ⟨e1, h1, h2⟩ := Option.map_eq_some_iff.mp hf
  cases h2
  exact hg U e σ H B w a _ _ rl ra h1 fun σ' H' B' rl' s' => post σ' H' B' rl' s'
/-- a, b, c = x, y, z -/
def par3S (i j l : Nat) (f : FG (List D)) : FS := thenS f fun ds e => match ds with
  | [a, b, c] => some (.nx, ⟨((e.sl.set i (.d a)).set j (.d b)).set l (.d c), e.pen⟩)
  | _ => none
theorem cs_par3 {i j l : Nat} {t : TA} {f : FG (List D)} (h : CA G pn E t f) : CS G pn E (tPar3 i j l t) (par3S i j l f) := by
  refine CS.of (t := t) h fun w a U e σ H B r e' Dn rl ra hf post => ?_
  split at hf
  · cases hf
    cases ra with
    | cons r1 r2 =>
      cases r2 with
      | cons r2 r3 =>
        cases r3 with
        | cons r3 r4 =>
          cases r4
          exact ⟨_, _, _, rfl, post _ H B (((rl.setD r1 i).setD r2 j).setD r3 l) (Same.refl _)⟩
  · cases hf
end
end Fw

set_option linter.all false
set_option maxRecDepth 100000
set_option maxHeartbeats 4000000
namespace Fw
open PySem PySem.Spec PyProof.Rows L2
/-! ### keys -/
def kEq1 : D → D → Bool
  | .int i, .int j => decide (i = j)
  | .str a, .str b => decide (a = b)
  | _, _ => false
def kEqL : List D → List D → Bool
  | [], [] => true
  | x :: xs, y :: ys => kEq1 x y && kEqL xs ys
  | _, _ => false
def kEq : D → D → Bool
  | .tuple xs, .tuple ys => kEqL xs ys
  | a, b => kEq1 a b
theorem kEq1_key (a b : Key) : kEq1 (keyD a) (keyD b) = decide (a = b) := by
  cases a <;> cases b <;> simp [kEq1, keyD]
theorem kEq_key (a b : Key) : kEq (keyD a) (keyD b) = decide (a = b) := by
  rw [← kEq1_key]
  cases a <;> cases b <;> rfl
theorem kEqL_key : ∀ (a b : List Key), kEqL (a.map keyD) (b.map keyD) = decide (a = b)
  | [], [] => rfl
  | [], _ :: _ => rfl
  | _ :: _, [] => rfl
  | x :: xs, y :: ys => by
    show (kEq1 (keyD x) (keyD y) && kEqL (xs.map keyD) (ys.map keyD)) = _
    rw [kEq1_key, kEqL_key xs ys]
    simp [Bool.decide_and]
theorem kEq_tup (a b : List Key) : kEq (keyT a) (keyT b) = decide (a = b) := kEqL_key a b
def getD' (kvs : List (D × D)) (k : D) : Option D := (kvs.find? fun p => kEq p.1 k).map (·.2)
def putD (kvs : List (D × D)) (k v : D) : List (D × D) := if (kvs.any fun p => kEq p.1 k) = true then kvs.map (fun p => if kEq p.1 k = true then (p.1, v) else p) else kvs ++ [(k, v)]
section
variable {κ : Type} [DecidableEq κ] {enc : κ → D} {G : Gm} {B : Hp}
theorem get_some (he : ∀ a b, kEq (enc a) (enc b) = decide (a = b)) {k : κ} {d : D} : ∀ {ks : List (κ × V)} {ds : List D}, RzA G B (ks.map (·.2)) ds → getD' ((ks.map fun p => enc p.1).zip ds) (enc k) = some d → ∃ v, valV ks k = some v ∧ Rz G B v d
  | [], _, .nil, h => by cases h
  | p :: ks, _, .cons r1 r2, h => by
    unfold getD' at h
    rw [List.map_cons, List.zip_cons_cons, List.find?_cons] at h
    dsimp only at h
    rw [he] at h
    by_cases z : p.1 = k
    · rw [decide_eq_true z] at h
      cases h
      exact ⟨p.2, valV_pos z, r1⟩
    · rw [decide_eq_false z] at h
      obtain ⟨v, h1, h2⟩ := get_some he r2 h
      exact ⟨v, (valV_neg z).trans h1, h2⟩
theorem get_none (he : ∀ a b, kEq (enc a) (enc b) = decide (a = b)) {k : κ} : ∀ {ks : List (κ × V)} {ds : List D}, RzA G B (ks.map (·.2)) ds → getD' ((ks.map fun p => enc p.1).zip ds) (enc k) = none → valV ks k = none
  | [], _, .nil, h => rfl
  | p :: ks, _, .cons r1 r2, h => by
    unfold getD' at h
    rw [List.map_cons, List.zip_cons_cons, List.find?_cons] at h
    dsimp only at h
    rw [he] at h
    by_cases z : p.1 = k
    · rw [decide_eq_true z] at h; cases h
    · rw [decide_eq_false z] at h
      exact (valV_neg z).trans (get_none he r2 h)
theorem any_key (he : ∀ a b, kEq (enc a) (enc b) = decide (a = b)) {k : κ} : ∀ {ks : List (κ × V)} {ds : List D}, RzA G B (ks.map (·.2)) ds → (((ks.map fun p => enc p.1).zip ds).any fun p => kEq p.1 (enc k)) = ks.any fun p => decide (p.1 = k)
  | [], _, .nil => rfl
  | p :: ks, _, .cons r1 r2 => by
    rw [List.map_cons, List.zip_cons_cons, List.any_cons, List.any_cons, any_key he r2]
    dsimp only
    rw [he]
theorem put_rz (he : ∀ a b, kEq (enc a) (enc b) = decide (a = b)) {k : κ} {v : V} {d : D} (rv : Rz G B v d) {ks : List (κ × V)} {ds : List D} (r : RzA G B (ks.map (·.2)) ds) :
    ∃ ds', RzA G B ((putK ks k v).map (·.2)) ds' ∧ putD ((ks.map fun p => enc p.1).zip ds) (enc k) d = ((putK ks k v).map fun p => enc p.1).zip ds' := by
  unfold putK putD
  rw [any_key he r]
  by_cases z : (ks.any fun p => decide (p.1 = k)) = true
  · rw [if_pos z, if_pos z]
    clear z
    have gen : ∀ {ks : List (κ × V)} {ds : List D}, RzA G B (ks.map (·.2)) ds → ∃ ds', RzA G B ((ks.map fun p => if p.1 = k then (p.1, v) else p).map (·.2)) ds' ∧
        ((ks.map fun p => enc p.1).zip ds).map (fun p => if kEq p.1 (enc k) = true then (p.1, d) else p) = ((ks.map fun p => if p.1 = k then (p.1, v) else p).map fun p => enc p.1).zip ds' := by
      intro ks
      induction ks with
      | nil => intro ds r; cases r; exact ⟨[], .nil, rfl⟩
      | cons p ks ih =>
        intro ds r
        cases r with
        | @cons _ _ d0 _ r1 r2 =>
          obtain ⟨ds', h1, h2⟩ := ih r2
          by_cases y : p.1 = k
          · refine ⟨d :: ds', ?_, ?_⟩
            · rw [List.map_cons, List.map_cons, if_pos y]; exact .cons rv h1
            · have e1 : kEq (enc p.1) (enc k) = true := by rw [he, decide_eq_true y]
              show (if kEq (enc p.1) (enc k) = true then (enc p.1, d) else (enc p.1, _)) :: _ = (enc (if p.1 = k then (p.1, v) else p).1, d) :: _
              rw [if_pos e1, if_pos y]
              exact congrArg _ h2
          · refine ⟨d0 :: ds', ?_, ?_⟩
            · rw [List.map_cons, List.map_cons, if_neg y]; exact .cons r1 h1
            · have e1 : ¬ kEq (enc p.1) (enc k) = true := by rw [he, decide_eq_false y]; simp
              show (if kEq (enc p.1) (enc k) = true then (enc p.1, d) else (enc p.1, _)) :: _ = (enc (if p.1 = k then (p.1, v) else p).1, _) :: _
              rw [if_neg e1, if_neg y]
              exact congrArg _ h2
    exact gen r
  · rw [if_neg z, if_neg z]
    refine ⟨ds ++ [d], ?_, ?_⟩
    · rw [List.map_append]; exact r.app (.cons rv .nil)
    · rw [List.map_append, List.zip_append (by rw [List.length_map, ← r.length, List.length_map])]
      rfl
end
def keyOf : D → Option Key
  | .int i => some (.inl i)
  | .str s => some (.inr s)
  | _ => none
theorem keyOf_eq {d : D} {k : Key} (h : keyOf d = some k) : d = keyD k := by
  cases d <;> cases h <;> rfl
section
variable {α β : Type} {G : Gm} {U : Hp} {pn : Pn} {E : XK} {e : Ev} {σ : L2.St} {H B H' B' H1 B1 : Hp}
theorem RzB.keyV {v : V} {k : Key} (h : RzB G pn B H v (keyD k)) : v = kV k := by
  cases k with
  | inl i => exact h.int_inv
  | inr s => exact h.str_inv
/-- a dict with int and text keys, or an empty one -/
def dGetK (d k : D) : Option D := (keyOf k).bind fun _ => match d with
  | .dict kvs => if (kvs.all fun p => (keyOf p.1).isSome) = true ∧ kvs ≠ [] then getD' kvs k else none
  | _ => none
theorem dict_k {a : V} {kvs : List (D × D)} (h : RzB G pn B H a (.dict kvs)) (hk : (kvs.all fun p => (keyOf p.1).isSome) = true) (h0 : kvs ≠ []) : ∃ p ks ds, a = .ref p ∧ H p = some (.dK ks) ∧ NP pn p ∧ RzA G B (ks.map (·.2)) ds ∧ kvs = (ks.map fun k => keyD k.1).zip ds := by
  generalize hd : PyData.dict kvs = d at h
  cases h with
  | dk h n hs => cases hd; exact ⟨_, _, _, rfl, h, n, hs, rfl⟩
  | @dt a ks ds h n hs =>
    cases hd
    exfalso
    cases ks with
    | nil => cases hs; exact h0 rfl
    | cons k ks =>
      cases hs with
      | cons _ _ => rw [List.map_cons, List.zip_cons_cons, List.all_cons] at hk; simp [keyT, keyOf] at hk
  | ins h h2 h3 hs =>
    cases hd
    simp [insD, keyOf] at hk
  | fn h =>
    cases hd
    simp [keyOf] at hk
  | kt h hs =>
    cases hd
    simp [keyOf] at hk
  | _ => cases hd
theorem ce_dget {t u : TE} {f g : FG D} (h1 : CB G pn E t f) (h2 : CB G pn E u g) : CE G pn E (tDGet t u) (op2 dGetK f g) := by
  refine CB.bind2 (t := t) (u := u) (k := fun x y σ H2 Q => ∃ a v, x = .ref a ∧ DGet H2 a y (some v) ∧ Q v H2) (h := fun a b => optG (dGetK a b)) h1 h2 fun v w a b U e σ H B r p' Q rl ra rb hf post => ?_
  obtain ⟨c, hc, rfl, rfl⟩ := optG_eq hf
  unfold dGetK at hc
  obtain ⟨k, hk, hc⟩ := Option.bind_eq_some_iff.mp hc
  cases keyOf_eq hk
  split at hc
  · next kvs =>
    split at hc
    · next hz =>
      obtain ⟨p, ks, ds, rfl, hp, n, hr, rfl⟩ := dict_k ra hz.1 hz.2
      obtain ⟨x, hx, rx⟩ := get_some kEq_key hr hc
      cases rb.keyV
      exact ⟨p, x, rfl, hx ▸ DGet.k hp, post _ H B rl (Same.refl _) Keep.refl rx⟩
    · cases hc
  · cases hc
/-! ### written dicts -/
def pairsG : List (Key × FG D) → FG (List D)
  | [] => retG []
  | (_, f) :: r => bindG f fun a => bindG (pairsG r) fun as => retG (a :: as)
inductive CPs (G : Gm) (pn : Pn) (E : XK) : List (TE × TE) → List (Key × FG D) → Prop
  | nil : CPs G pn E [] []
  | cons {k : Key} {t : TE} {f : FG D} {ts : List (TE × TE)} {fs : List (Key × FG D)} : CE G pn E t f → CPs G pn E ts fs → CPs G pn E ((tC (kV k), t) :: ts) ((k, f) :: fs)
def dispD (ks : List Key) (ds : List D) : List (D × D) := (ks.zip ds).foldl (fun acc p => putD acc (keyD p.1) p.2) []
def dispG (fs : List (Key × FG D)) : FG D := bindG (pairsG fs) fun ds => if fs.length ≤ 15 then retG (.dict (dispD (fs.map (·.1)) ds)) else fun _ => none
theorem CPs.run {ts : List (TE × TE)} {fs : List (Key × FG D)} (h : CPs G pn E ts fs) : CG G pn E (fun B _ (ps : List (V × V)) ds => ∃ vs, RzA G B vs ds ∧ ps = ((fs.map (·.1)).zip vs).map fun p => (kV p.1, p.2)) (tPairs ts) (pairsG fs) := by
  induction h with
  | nil =>
    intro U e σ H B r p' Q rl hf post
    cases hf
    exact post [] H B rl (Same.refl _) Keep.refl ⟨[], .nil, rfl⟩
  | @cons k t f ts fs h1 hr ih =>
    intro U e σ H B r p' Q rl hf post
    rcases bind_inv hf with ⟨c, ns, ds, hx, rfl⟩ | ⟨a, q, hx, hg⟩
    · exact h1 U e σ H B _ _ _ rl hx post
    · refine h1 U e σ H B _ _ _ rl hx fun v H1 B1 rl1 s1 k1 rv => ?_
      rcases bind_inv hg with ⟨c, ns, ds, hx2, rfl⟩ | ⟨as, q2, hx2, hg2⟩
      · exact ih U _ σ H1 B1 _ _ _ rl1 hx2 (post.up s1 k1)
      · cases hg2
        refine ih U _ σ H1 B1 _ _ _ rl1 hx2 fun ps H2 B2 rl2 s2 k2 ⟨vs, rvs, ep⟩ => ?_
        exact post _ H2 B2 rl2 (s1.trans s2) (k1.trans k2) ⟨v :: vs, .cons (rv.same s2) rvs, by rw [ep]; rfl⟩
theorem merge_rz : ∀ (more : List (Key × V)) (es : List D) (ks : List (Key × V)) (ds : List D), RzA G B (more.map (·.2)) es → RzA G B (ks.map (·.2)) ds →
    ∃ ds', RzA G B ((mergeK ks more).map (·.2)) ds' ∧ ((more.map (·.1)).zip es).foldl (fun acc p => putD acc (keyD p.1) p.2) ((ks.map fun k => keyD k.1).zip ds) = ((mergeK ks more).map fun k => keyD k.1).zip ds'
  | [], _, ks, ds, .nil, r => ⟨ds, r, rfl⟩
  | m :: more, e :: es, ks, ds, .cons r1 r2, r => by
    obtain ⟨ds1, h1, h2⟩ := put_rz (k := m.1) kEq_key r1 r
    obtain ⟨ds2, h3, h4⟩ := merge_rz more es (putK ks m.1 m.2) ds1 r2 h1
    refine ⟨ds2, h3, ?_⟩
    rw [List.map_cons, List.zip_cons_cons, List.foldl_cons, h2]
    exact h4
theorem cf_disp {ts : List (TE × TE)} {fs : List (Key × FG D)} (h : CPs G pn E ts fs) : CF G pn E (tDisp ts) (dispG fs) := by
  intro U e σ H B r p' Q rl hf post p hp
  have rl0 := rl.addU (o := .dK []) hp
  rcases bind_inv hf with ⟨c, ns, ds, hx, rfl⟩ | ⟨as, q, hx, hg⟩
  · refine h.run _ e σ _ B _ _ _ rl0 hx fun cls ao H' B' b s x => ?_
    exact post cls ao H' B' (b.unU (rl.b.uh.free hp) noC_dK) s x
  · refine h.run _ e σ _ B _ _ _ rl0 hx fun ps H2 B2 rl2 s2 k2 ⟨vs, rvs, ep⟩ => ?_
    split at hg
    · next hl =>
      cases hg
      have hpn := (rl2.swapU (o' := .dK []) noC_dK).2.1
      obtain ⟨rl3, _, hB, np⟩ := rl2.swapU (o' := .dK (mergeK [] ((fs.map (·.1)).zip vs))) noC_dK
      have hpl : (fs.map (·.1)).length = vs.length := by
        have key : ∀ {fs : List (Key × FG D)} {e : Ev} {as : List D} {q : PenS}, pairsG fs e = some (.v as, q) → as.length = fs.length := by
          intro fs
          induction fs with
          | nil => intro e as q hq; cases hq; rfl
          | cons f fs ih =>
            intro e as q hq
            rcases bind_inv (show bindG f.2 _ e = _ from hq) with ⟨_, _, _, _, z⟩ | ⟨a, q1, _, hg1⟩
            · cases z
            · rcases bind_inv hg1 with ⟨_, _, _, _, z⟩ | ⟨as', q2, hx2, hg2⟩
              · cases z
              · cases hg2; rw [List.length_cons, List.length_cons, ih hx2]
        rw [List.length_map, rvs.length, key hx]
      have e1 : ((fs.map (·.1)).zip vs).map (·.2) = vs := List.map_snd_zip (by omega)
      have e2 : ((fs.map (·.1)).zip vs).map (·.1) = fs.map (·.1) := List.map_fst_zip (by omega)
      refine ⟨hpn, (fs.map (·.1)).zip vs, ep, by rw [List.length_zip, List.length_map]; omega, ?_⟩
      obtain ⟨ds', h1, h2⟩ := merge_rz (G := G) (B := B2) ((fs.map (·.1)).zip vs) as [] [] (by rw [e1]; exact rvs) .nil
      have hd : dispD (fs.map (·.1)) as = ((mergeK [] ((fs.map (·.1)).zip vs)).map fun k => keyD k.1).zip ds' := by
        rw [← h2, e2]; rfl
      have hU : U p = none := rl.b.uh.free hp
      have b3 := rl3.b.unU hU noC_dK
      obtain ⟨_, os, ss, n, f⟩ := rl3
      have no : p ∉ os := fun z => by have := (f p z).2.1; rw [upd_same] at this; cases this
      refine post p _ B2 ⟨b3, ⟨os, ss, n, fun q hq => ?_, no⟩, ?_, hB, hU, np⟩ s2 ?_
      · obtain ⟨h1, h2, h3⟩ := f q hq
        have nq : q ≠ p := fun z => no (z ▸ hq)
        rw [upd_ne nq] at h2
        exact ⟨h1, h2, h3⟩
      · rw [hd]
        exact .dk upd_same h1
      · intro a o ha hn
        have ne := ne_of_none ha hp
        rw [upd_ne ne]
        exact k2 a o ((upd_ne ne).trans ha) hn
    · cases hg
end
end Fw

set_option linter.all false
set_option maxRecDepth 100000
set_option maxHeartbeats 4000000
namespace Fw
open PySem PySem.Spec PyProof.Rows L2
theorem mt_ext {X : Cx} : MtR X "list.extend" (uExt X.K) := by
  intro pins s σ H x xs v us Q I rx rv h
  rcases h with h | h
  · exact mt_extend pins s σ H x xs v us Q I rx rv h
  · exact Sb.mt_extT pins s σ H x xs v us Q I rx rv h
section
variable {α β : Type} {G : Gm} {U : Hp} {pn : Pn} {E : XK} {e : Ev} {σ : L2.St} {H B H' B' H1 B1 : Hp}
/-! ### range with a step -/
theorem rgD3_get {lo c : Int} {n i : Nat} : (rgD3 lo c n)[i]? = if i < n then some (.int (lo + (i : Int) * c)) else none := by
  unfold rgD3
  rw [List.getElem?_map]
  by_cases h : i < n
  · rw [if_pos h, List.getElem?_range h]; rfl
  · rw [if_neg h, List.getElem?_eq_none (by rw [List.length_range]; omega)]; rfl
theorem walks_c {lo c : Int} {n : Nat} : Walks G pn (Itc lo c n) (rgD3 lo c n) B := by
  intro i U H B1 e σ s rl
  refine ⟨fun hi => by rw [rgD3, List.length_map, List.length_range] at hi; exact hi, fun d hd => ?_⟩
  rw [rgD3_get] at hd
  split at hd
  · next hi =>
    cases hd
    exact ⟨hi, fun y H' ⟨e1, e2⟩ => by subst e1; subst e2; exact ⟨B1, Same.refl _, Same.refl _, fun _ _ _ r => r, .int _⟩⟩
  · cases hd
def rg3D (ds : List D) : Option (List D) := (lr3D ds).bind fun d => match d with
  | .list xs => some xs
  | _ => none
theorem ci_rg3 {t : TA} {f : FG (List D)} (h : CA G pn E t f) : CI G pn E (iRng3 t) (rgI rg3D f) := by
  refine CG.bind (t := t) h fun vs ds U e σ H B r p' Q rl ra hf post => ?_
  obtain ⟨c, hc, rfl, rfl⟩ := optG_eq hf
  obtain ⟨d, hd, h2⟩ := Option.bind_eq_some_iff.mp hc
  unfold lr3D at hd
  split at hd
  · split at hd
    · next i j k hk =>
      cases hd
      cases h2
      obtain ⟨g1, g2⟩ := rgC_of hk
      cases ra with
      | cons r1 r2 =>
        cases r2 with
        | cons r2 r3 =>
          cases r3 with
          | cons r3 r4 =>
            cases r4
            cases r1.int_inv
            cases r2.int_inv
            cases r3.int_inv
            exact ⟨i, j, k, _, rfl, g1, post _ H B rl (Same.refl _) Keep.refl walks_c⟩
    · cases hd
  · cases hd
/-! ### a, b = [], [] -/
def parOO (i j : Nat) (f g : FG D) : FS := thenS f fun a => thenS g fun b e => if i < e.sl.length ∧ j < e.sl.length ∧ i ≠ j then some (.nx, ⟨(e.sl.set i (.o a)).set j (.o b), e.pen⟩) else none
/-- two new objects at once -/
theorem cs_parOO {i j : Nat} {t u : TE} {f g : FG D} (h1 : CF G pn E t f) (h2 : CF G pn E u g) : CS G pn E (tPar i j (tCons t (tCons u tNil))) (parOO i j f g) := by
  intro U e σ H B r e' Dn rl hf post
  rcases thenS_inv hf with ⟨c, ns, ds, q, hx, rfl, rfl⟩ | ⟨a, q, hx, hg⟩
  · exact h1 U e σ H B _ _ _ rl hx post
  · refine h1 U e σ H B _ _ _ rl hx fun p H1 B1 fr s1 k1 => ?_
    -- the first one stands by, as what is not touched
    obtain ⟨o, ho, hno⟩ := fr.o.atC
    obtain ⟨os, ss, nn, ff, np⟩ := fr.s
    obtain ⟨n1, n2, n3⟩ := fr.n
    have rlU : Rl G (upd U p o) pn ⟨e.sl, q⟩ σ H1 B1 := by
      refine ⟨⟨fr.b.bh, fun a x hx => ?_, fun a x hx => ?_, fun z hz => ?_, fun z hz => ?_⟩, os, ss, nn, fun z hz => ?_⟩
      · by_cases y : a = p
        · rw [y, upd_same] at hx; rw [y, ho]; exact hx
        · rw [upd_ne y] at hx; exact fr.b.uh a x hx
      · rw [upd_ne (ne_of_none hx n1)]; exact fr.b.bu a x hx
      · obtain ⟨a1, a2, a3, a4⟩ := fr.b.pen z hz
        exact ⟨a1, (upd_ne (fun y => (n3 z hz).1 y.symm)).trans a2, a3, a4⟩
      · obtain ⟨a1, a2, a3⟩ := fr.b.tab z hz
        exact ⟨fun t ht => ⟨(a1 t ht).1, (upd_ne (fun y => (n3 z hz).2 t ht y.symm)).trans (a1 t ht).2⟩, a2, a3⟩
      · obtain ⟨a1, a2, a3⟩ := ff z hz
        exact ⟨a1, (upd_ne (fun y => np (by rw [← y]; exact hz))).trans a2, a3⟩
    rcases thenS_inv hg with ⟨c, ns, ds, q2, hx2, rfl, rfl⟩ | ⟨b, q2, hx2, hg2⟩
    · refine h2 _ _ σ H1 B1 _ _ _ rlU hx2 fun cls ao H' B' b s x => ?_
      exact post cls ao H' B' (b.unU n2 hno) (s1.trans s) x
    · refine h2 _ _ σ H1 B1 _ _ _ rlU hx2 fun p2 H2 B2 fr2 s2 k2 => ?_
      dsimp only at hg2
      split at hg2
      · next hij =>
        cases hg2
        refine ⟨_, _, rfl, ?_⟩
        obtain ⟨os2, ss2, nn2, ff2, np2⟩ := fr2.s
        obtain ⟨m1, m2, m3⟩ := fr2.n
        have hp2 : H2 p = some o := fr2.b.uh p o upd_same
        have hBp : B2 p = none := by
          cases h : B2 p with
          | none => rfl
          | some x => have := fr2.b.bu p x h; rw [upd_same] at this; cases this
        have ne : p2 ≠ p := fun z => by rw [z, upd_same] at m2; cases m2
        have hpo : p ∉ os2 := fun z => by have := (ff2 p z).2.1; rw [upd_same] at this; cases this
        have hU2 : U p2 = none := by rw [upd_ne ne] at m2; exact m2
        have ow : OwnAt G B2 H2 p a := (fr.o.keep (by rw [hp2, ho]) s2)
        have base : Base U pn q2 H2 B2 := fr2.b.unU n2 hno
        have fr3 : Fresh G U pn ⟨e.sl, q2⟩ σ H2 B2 p a := ⟨base, ⟨os2, ss2, nn2, fun z hz => by
          obtain ⟨a1, a2, a3⟩ := ff2 z hz
          rw [upd_ne (fun y => hpo (by rw [← y]; exact hz))] at a2
          exact ⟨a1, a2, a3⟩, hpo⟩, ow, hBp, n2, n3⟩
        have rl3 := fr3.setO (i := i) hij.1
        obtain ⟨b3, os3, ss3, nn3, ff3⟩ := rl3
        have hp3 : p2 ∉ os3 := fun z => by
          obtain ⟨os4, s4, sb4, _⟩ := Slots.setO ow i hij.1 ss2
          have e3 := ss3.own
          have e4 := s4.own
          rw [← e4] at e3
          subst e3
          rcases sb4 p2 z with y | y
          · exact ne y
          · exact np2 y
        have fr4 : Fresh G U pn ⟨e.sl.set i (.o a), q2⟩ (σ.set i (some (.ref p))) H2 B2 p2 b := ⟨b3, ⟨os3, ss3, nn3, ff3, hp3⟩, fr2.o, m1, hU2, m3⟩
        exact post _ H2 B2 (fr4.setO (i := j) (by rw [List.length_set]; exact hij.2.1)) (s1.trans s2)
      · cases hg2
end
end Fw

set_option linter.all false
set_option maxRecDepth 100000
set_option maxHeartbeats 4000000
namespace Fw
open PySem PySem.Spec PyProof.Rows L2
section
variable {α β : Type} {G : Gm} {U : Hp} {pn : Pn} {E : XK} {e : Ev} {σ : L2.St} {H B H' B' H1 B1 : Hp}
/-! ### operations that lay a new list -/
def OpF (G : Gm) (pn : Pn) (r : R2) (φ : D → D → Option D) : Prop := ∀ U e σ H B x y a b c (Q : VK), Rl G U pn e σ H B → RzB G pn B H x a → RzB G pn B H y b → φ a b = some c →
  (∀ p H' B', Fresh G U pn e σ H' B' p c → Same B B' → Keep pn H H' → Q (.ref p) H') → r x y H Q
theorem cf_op {r : R2} {φ : D → D → Option D} {ta tb : TE} {f g : FG D} (hr : OpF G pn r φ) (h1 : CB G pn E ta f) (h2 : CB G pn E tb g) : CF G pn E (tOp r ta tb) (op2 φ f g) := by
  refine CF.bind (t := ta) h1 fun v a U e σ H B r p' Q rl ra hf post => ?_
  rcases bind_inv hf with ⟨c, ns, ds, hx, rfl⟩ | ⟨b, q, hx, hg⟩
  · exact h2 U e σ H B _ _ _ rl hx post
  · refine h2 U e σ H B _ _ _ rl hx fun w H1 B1 rl1 s1 k1 rb => ?_
    obtain ⟨c, hc, rfl, rfl⟩ := optG_eq hg
    exact hr U _ σ H1 B1 v w a b c Q rl1 (ra.keep k1 s1) rb hc fun p H' B' fr s k => post p H' B' fr (s1.trans s) (k1.trans k)
def dRep : D → D → Option D
  | .list a, .int k => if k ≤ 100000 ∧ a.length * k.toNat ≤ 1000000 ∧ -100000 ≤ k then some (.list (List.replicate k.toNat a).flatten) else none
  | _, _ => none
theorem of_rep : OpF G pn uMul dRep := by
  intro U e σ H B x y a b c Q rl ra rb h q
  unfold dRep at h
  split at h
  · split at h
    · next hz =>
      cases h
      obtain ⟨a1, xs, rfl, h1, n1, r1⟩ := ra.lst_inv
      cases rb.int_inv
      exact .inr ⟨a1, _, xs, rfl, rfl, h1, by omega, by omega, by rw [r1.length]; exact line_of hz.2.1, fun p hp => q p _ B (rl.fresh hp (.lst upd_same (r1.flat _))) (Same.refl _) (Keep.of (same_upd hp))⟩
    · cases h
  · cases h
def dCat : D → D → Option D
  | .list a, .list b => few (a ++ b) (.list (a ++ b))
  | _, _ => none
theorem of_cat : OpF G pn (uAdd G.K) dCat := by
  intro U e σ H B x y a b c Q rl ra rb h q
  unfold dCat at h
  split at h
  · obtain ⟨hl, rfl⟩ := few_eq h
    obtain ⟨a1, xs, rfl, h1, n1, r1⟩ := ra.lst_inv
    obtain ⟨a2, ys, rfl, h2, n2, r2⟩ := rb.lst_inv
    have r := r1.app r2
    refine .inr (.inl ⟨a1, a2, xs, ys, rfl, rfl, h1, h2, ?_, fun p hp => q p _ B (rl.fresh hp (.lst upd_same r)) (Same.refl _) (Keep.of (same_upd hp))⟩)
    rw [← List.length_append, r.length]; exact line_of hl
  · cases h
/-! ### the pen -/
def okP (p : PenS) : Bool := decide (p.ns.length ≤ 63) && decide (0 ≤ p.a) && decide (0 ≤ p.d) && decide (0 ≤ p.n) && decide (p.n < 1000000000) && decide (0 ≤ p.f) && decide (p.f < 2147483587)
def penStep (p : PenS) : PenS :=
  if p.d = 0 ∧ p.a < p.ns.length then
    if 10 ^ 18 ≤ p.ns.getD p.a.toNat 0 then ⟨p.ns, p.a + 1, p.ns.getD p.a.toNat 0 - 10 ^ 18, p.n + 1, p.f⟩
    else ⟨p.ns, p.a + 1, p.d, p.n + 1, (p.f * 69069 + p.ns.getD p.a.toNat 0).fmod 2147483587⟩
  else ⟨p.ns, p.a, p.d, p.n + 1, p.f⟩
def penDraw (p : PenS) (m : Int) : Int × PenS :=
  let q := penStep p
  if 0 < q.d then (q.d.fmod m, ⟨q.ns, q.a, q.d.fdiv m, q.n, q.f⟩)
  else ((((q.f + q.n * 8111 + 57) ^ 17).fmod 2305843009213693951).fdiv 128 |>.fmod m, q)
def drawF : FF := fun ds p => match ds with
  | [.int m] => if okP p = true ∧ 0 < m ∧ m < 1000000 then some (.v (.int (penDraw p m).1), (penDraw p m).2) else none
  | _ => none
theorem okP_eq {p : PenS} (h : okP p = true) : p.ns.length ≤ 63 ∧ 0 ≤ p.a ∧ 0 ≤ p.d ∧ 0 ≤ p.n ∧ p.n < 1000000000 ∧ 0 ≤ p.f ∧ p.f < 2147483587 := by
  unfold okP at h
  simpa [and_assoc] using h
/-- what stands ahead of the k-th draw at the latest -/
structure GoodP (k : Int) (p : PenS) : Prop where
  ok : okP p = true
  le : p.n ≤ k
theorem fmod_lo (a : Int) {m : Int} (h : 0 < m) : 0 ≤ a.fmod m := Int.fmod_nonneg_of_pos _ h
theorem fmod_hi (a : Int) {m : Int} (h : 0 < m) : a.fmod m < m := Int.fmod_lt_of_pos _ h
theorem penStep_ok {k : Int} {p : PenS} (h : GoodP k p) (hk : k < 999999999) : GoodP (k + 1) (penStep p) := by
  obtain ⟨h1, h2, h3, h4, h5, h6, h7⟩ := okP_eq h.ok
  have hle := h.le
  unfold penStep
  split
  · split
    · next z1 z2 =>
      have hp : (10 : Int) ^ 18 = 1000000000000000000 := by decide
      refine ⟨?_, by show p.n + 1 ≤ _; omega⟩
      unfold okP
      simp only [Bool.and_eq_true, decide_eq_true_eq]
      refine ⟨⟨⟨⟨⟨⟨h1, by omega⟩, by omega⟩, by omega⟩, by omega⟩, h6⟩, h7⟩
    · refine ⟨?_, by show p.n + 1 ≤ _; omega⟩
      unfold okP
      simp only [Bool.and_eq_true, decide_eq_true_eq]
      exact ⟨⟨⟨⟨⟨⟨h1, by omega⟩, h3⟩, by omega⟩, by omega⟩, fmod_lo _ (by decide)⟩, fmod_hi _ (by decide)⟩
  · refine ⟨?_, by show p.n + 1 ≤ _; omega⟩
    unfold okP
    simp only [Bool.and_eq_true, decide_eq_true_eq]
    exact ⟨⟨⟨⟨⟨⟨h1, h2⟩, h3⟩, by omega⟩, by omega⟩, h6⟩, h7⟩
theorem draw_spec {k m : Int} {p : PenS} (h : GoodP k p) (hk : k < 999999999) (hm : 0 < m) (hm2 : m < 1000000) :
    ∃ d p', drawF [.int m] p = some (.v (.int d), p') ∧ 0 ≤ d ∧ d < m ∧ GoodP (k + 1) p' := by
  have hs := penStep_ok h hk
  obtain ⟨h1, h2, h3, h4, h5, h6, h7⟩ := okP_eq hs.ok
  refine ⟨(penDraw p m).1, (penDraw p m).2, if_pos ⟨h.ok, hm, hm2⟩, ?_, ?_, ?_⟩
  · unfold penDraw
    simp only
    split
    · exact fmod_lo _ hm
    · exact fmod_lo _ hm
  · unfold penDraw
    simp only
    split
    · exact fmod_hi _ hm
    · exact fmod_hi _ hm
  · unfold penDraw
    simp only
    split
    · refine ⟨?_, hs.le⟩
      unfold okP
      simp only [Bool.and_eq_true, decide_eq_true_eq]
      exact ⟨⟨⟨⟨⟨⟨h1, h2⟩, Int.fdiv_nonneg h3 (by omega)⟩, h4⟩, h5⟩, h6⟩, h7⟩
    · exact hs
end
end Fw

set_option linter.all false
set_option maxRecDepth 100000
set_option maxHeartbeats 4000000
namespace Fw
open PySem PySem.Spec PyProof.Rows L2
/-! ### a law: its pen, then the rest -/
def spPen (K : PySem.W.Frag) : Sp := fun vs H Q _ => ∃ (a : Addr) (ns : List Int), vs = [.ref a] ∧ SqL K H a (ns.map V.int) ∧ ns.length ≤ 63 ∧
  ∀ p c H' (pp : PenS), H p = none → H c = none → p ≠ c → Same H H' → GoodP 0 pp → H' p = some (.dK (Fw.penD c pp)) → H' c = some (.lst (pp.ns.map V.int)) → Q (.ref p) H'
def spLaw (K : PySem.W.Frag) (T : List (Addr × Str)) : Sp := fun vs H Q _ => ∃ (a : Addr) (ns : List Int), vs = [.ref a] ∧ SqL K H a (ns.map V.int) ∧ ns.length ≤ 63 ∧ (∀ t ∈ T, H t.1 = some (.tbl #[])) ∧ ∀ H', Q (.bl true) H'
def lawSl (n : Nat) : List Slot := .u :: .p :: List.replicate (n - 2) .u
theorem law_run {G : Gm} {T : List (Addr × Str)} {rest : TS} {f : FS} {N : List Str} {E' E : XK} {vs : List V} {H : Hp} {Q : VK} (hcs : ∀ q : PnI, q.T = T → CS G (some q) E0 rest f) (hn : 2 ≤ N.length)
    (hf : ∀ pp, GoodP 0 pp → ∃ e', f ⟨lawSl N.length, pp⟩ = some (.rt (.bool true), e')) (h : spLaw G.K T vs H Q E) :
    tSeq (tAsg (tCall (spPen G.K) [] E' (tCons (tVar 0) tNil)) (gName 1)) rest { nx := fun _ H' => Q .non H', rt := Q } (L2.start N vs) H := by
  obtain ⟨a, ns, rfl, hS, hl, hT, q⟩ := h
  have hs : L2.start N [V.ref a] = some (.ref a) :: none :: List.replicate (N.length - 2) none := by
    obtain ⟨k, hk⟩ : ∃ k, N.length = k + 2 := ⟨N.length - 2, by omega⟩
    unfold L2.start
    rw [hk]
    show some (V.ref a) :: List.replicate (k + 2 - 1) none = _
    rw [show k + 2 - 1 = k + 1 by omega, show k + 2 - 2 = k by omega]
    rfl
  refine ⟨.ref a, by rw [hs]; rfl, a, ns, rfl, hS, hl, fun p c H1 pp hp hc ne s1 g hp1 hc1 => ?_⟩
  obtain ⟨e', he⟩ := hf pp g
  show rest _ ((L2.start N [V.ref a]).set 1 (some (.ref p))) H1
  rw [hs]
  refine hcs ⟨p, c, T, [], 0, fun _ => none⟩ rfl (fun _ => none) _ _ _ (upd (fun _ => none) c (.lst (pp.ns.map V.int))) _ _ _ ?_ he fun v H' B' b s rz => ?_
  · refine ⟨⟨fun x o hx => ?_, fun x o hx => ?_, fun x o hx => ?_, fun z hz => ?_, fun z hz => ?_⟩, [], ?_, .nil, fun z hz => (by cases hz)⟩
    · by_cases y : x = c
      · rw [y, upd_same] at hx; rw [y, hc1]; exact hx
      · rw [upd_ne y] at hx; cases hx
    · cases hx
    · rfl
    · cases hz
      exact ⟨upd_ne ne, rfl, hp1, upd_same⟩
    · cases hz
      refine ⟨fun t ht => ⟨upd_ne (ne_of_none (hT t ht) hc), rfl⟩, fun t ht => (LamX.TabS.nil (hT t ht)).ext s1, fun z hz => (by cases hz), fun _ _ z => (by cases z)⟩
    · exact .u (.p (q := ⟨p, c, T, [], 0, fun _ => none⟩) rfl (Slots.us _))
  · rw [rz.bl_inv]
    exact q H'
end Fw

set_option linter.all false
set_option maxRecDepth 100000
set_option maxHeartbeats 4000000
namespace Fw
open PySem PySem.Spec PyProof.Rows L2
/-! ### raise C(e, ..): C keeps what it is given under its names -/
/-- an exception's __init__ that stores its arguments, in order -/
def spEx (C : Addr) (ns : List Str) : Sp := fun vs H Q _ => ∃ (a : Addr) (ws : List V), vs = .ref a :: ws ∧ ws.length = ns.length ∧ H a = some (exo a C none) ∧
  ∀ (d : Addr) (H' : Hp), H d = none → d ≠ a → (∀ b o, H b = some o → b ≠ a → H' b = some o) → H' a = some (exo a C (some d)) → H' d = some (exd d (ns.zip ws).reverse) → Q .non H'
theorem spEx_len {C : Addr} {ns : List Str} {vs : List V} {H : Hp} {Q : VK} {E : XK} (h : spEx C ns vs H Q E) : vs.length = 1 + ns.length := by
  obtain ⟨a, ws, rfl, hl, _⟩ := h
  rw [List.length_cons, hl]
  omega
/-- __init__ with one store -/
theorem ex_run1 {K : PySem.W.Frag} {C : Addr} {n : Str} {vs : List V} {H : Hp} {Q : VK} {E : XK} {x y : Str} (T : OexC K C) (hn : PySem.W.findIn K (.ref C) n = some none) (h : spEx C [n] vs H Q E) :
    tOst K n (tVar 0) (tVar 1) { nx := fun _ H' => Q .non H', rt := Q } (L2.start [x, y] vs) H := by
  obtain ⟨a, ws, rfl, hl, ha, q⟩ := h
  match ws, hl with
  | [v], _ =>
    refine ⟨v, rfl, .ref a, rfl, a, C, rfl, T, hn, .inl ⟨ha, fun dx nx ne => q dx _ nx ne (fun b o e hb => ?_) upd_same (by rw [upd_ne ne, upd_same]; rfl)⟩⟩
    rw [upd_ne hb, upd_ne (ne_of_none e nx)]
    exact e
/-- with two -/
theorem ex_run2 {K : PySem.W.Frag} {C : Addr} {n m : Str} {vs : List V} {H : Hp} {Q : VK} {E : XK} {x y z : Str} (T : OexC K C) (hn : PySem.W.findIn K (.ref C) n = some none) (hm : PySem.W.findIn K (.ref C) m = some none) (h : spEx C [n, m] vs H Q E) :
    tSeq (tOst K n (tVar 0) (tVar 1)) (tOst K m (tVar 0) (tVar 2)) { nx := fun _ H' => Q .non H', rt := Q } (L2.start [x, y, z] vs) H := by
  obtain ⟨a, ws, rfl, hl, ha, q⟩ := h
  match ws, hl with
  | [v, u], _ =>
    refine ⟨v, rfl, .ref a, rfl, a, C, rfl, T, hn, .inl ⟨ha, fun dx nx ne => ?_⟩⟩
    have h2 : (upd (upd H dx (exd dx [(n, v)])) a (exo a C (some dx))) dx = some (exd dx [(n, v)]) := by rw [upd_ne ne, upd_same]
    refine ⟨u, rfl, .ref a, rfl, a, C, rfl, T, hm, .inr ⟨dx, [(n, v)], upd_same, h2, by show 1 ≤ 900; decide, q dx _ nx ne (fun b o e hb => ?_) (by rw [upd_ne (Ne.symm ne), upd_same]) (by rw [upd_same]; rfl)⟩⟩
    rw [upd_ne (ne_of_none e nx), upd_ne hb, upd_ne (ne_of_none e nx)]
    exact e
section
variable {G : Gm} {U : Hp} {pn : Pn} {E : XK} {e : Ev} {σ : L2.St} {H B H' B' H1 B1 : Hp}
theorem Base.up {p : PenS} (b : Base U pn p H B) (s : Same H H') : Base U pn p H' B :=
  ⟨b.bh.trans s, b.uh.trans s, b.bu, fun q hq => by
    obtain ⟨h1, h2, h3, h4⟩ := b.pen q hq
    exact ⟨h1, h2, s _ _ h3, h4⟩, fun q hq => ⟨(b.tab q hq).1, (b.tab q hq).2.1.ext s, (b.tab q hq).2.2.1.up s, (b.tab q hq).2.2.2⟩⟩
def raiseS (c : Str) (ns : List Str) (f : FG (List D)) : FS := thenS f fun ds e => if ds.length = ns.length then some (.x c ns.reverse ds.reverse, e) else none
theorem zip_fst : ∀ {ns : List Str} {ws : List V}, ws.length = ns.length → (ns.zip ws).map (·.1) = ns
  | [], [], _ => rfl
  | n :: ns, w :: ws, h => by
    rw [List.zip_cons_cons, List.map_cons, zip_fst (by simpa using h)]
theorem zip_snd : ∀ {ns : List Str} {ws : List V}, ws.length = ns.length → (ns.zip ws).map (·.2) = ws
  | [], [], _ => rfl
  | n :: ns, w :: ws, h => by
    rw [List.zip_cons_cons, List.map_cons, zip_snd (by simpa using h)]
theorem cs_raise {C : Addr} {c : Str} {ns : List Str} {t : TA} {f : FG (List D)} (hX : G.X c = some C) (hl : ns.length ≤ 1000) (h : CA G pn E t f) :
    CS G pn E (fun _ σ H => tMkO C (spEx C ns) [] t σ H fun cls d H' => E cls d H') (raiseS c ns f) := by
  refine CS.of (t := t) h fun ws ds U e σ H B r e' Dn rl ra hf post => ?_
  split at hf
  · next hn =>
    cases hf
    have hw : ws.length = ns.length := by rw [ra.length]; exact hn
    refine ⟨by rw [hw]; exact hl, fun a ha => ⟨a, ws, by rw [List.append_nil], hw, upd_same, fun d H' hd hda k h1 h2 => ⟨rfl, d, _, h1, h2, ?_, ?_⟩⟩⟩
    · rwa [upd_ne hda] at hd
    · have hd' : H d = none := by rwa [upd_ne hda] at hd
      have s : Same H (upd (del H' a) d (.xd (ns.zip ws).reverse)) := fun b o hb => by
        have n1 : b ≠ a := ne_of_none hb ha
        have n2 : b ≠ d := ne_of_none hb hd'
        rw [upd_ne n2, del_ne n1]
        exact k b o (by rw [upd_ne n1]; exact hb) n1
      refine post (.ref C) (some d) _ B (rl.b.up s) (Same.refl _) ⟨C, d, (ns.zip ws).reverse, hX, rfl, rfl, upd_same, ?_, ?_⟩
      · rw [List.map_reverse, zip_fst hw]
      · rw [List.map_reverse, zip_snd hw]
        exact ra.reverse
  · cases hf
end
end Fw

set_option linter.all false
set_option maxRecDepth 100000
set_option maxHeartbeats 4000000
namespace Fw
open PySem PySem.Spec PyProof.Rows L2
/-! ### a def that may raise; a class that may be raised -/
/-- what is known of an error class c with its fields ns -/
structure Exn (K : PySem.W.Frag) (XC : Str → Option Addr) (mg : Str → Option Value) (P : Program) (w : World) (base : Heap) (c : Str) (ns ps : List Str) (C fI : Addr) (fd : FuncData) : Prop where
  T : OexC K C
  iC : PySem.W.findIn K (.ref C) "__init__" = some (some (.ref fI))
  tI : PySem.W.typeIn K (.ref fI) = some (.type "function")
  G : FnOk P w K mg base CX0 1 fI fd ps (spEx C ns)
  b : Binds K fd ps []
  m : mg c = some (.ref C)
  X : XC c = some C
section
variable {G : Gm} {P : Program} {w : World} {K : PySem.W.Frag} {mg : Str → Option Value} {base : Heap}
theorem spX_len' {pen : Bool} {n : Nat} {F : FF} {ps : List Str} (hl : ps.length = (if pen = true then 1 else 0) + n) {vs : List V} {H : Hp} {Q : VK} {E' : XK} (h : spX G pen n F vs H Q E') : vs.length = ps.length := by
  rw [spX_len h, hl]
theorem fn_x {x qual : Str} {st : Stmt} {f : Addr} {fd : FuncData} {N ps : List Str} {k n : Nat} {pen : Bool} {F : FS} (Fn : Fun K x qual st f fd) (S : FnScope N ps (defScope st)) (hl : ps.length = (if pen = true then 1 else 0) + n)
    (hbody : ∀ (cdv : Value) (A : Around) (outer : List Env) (s : Shared) (H : Hp) (E : XK), RoomG k (A.deeper (envOfC qual (defScope st) s.heap.objs.size f cdv)) →
      Takes (cxOf (L2.CX P w) P w K mg base N qual (defScope st) f cdv A outer s H E) (fun cls d _ H => E cls d H) →
      ∃ t, PSs (cxOf (L2.CX P w) P w K mg base N qual (defScope st) f cdv A outer s H E) (defBody st) t ∧ ∀ pn, CS G pn E t F) : FnG P w K mg base (L2.CX P w) (k + 1) f fd ps (spX G pen n (defF pen N.length F)) := by
  refine fnG_of Fn S (fun vs H Q E h => spX_len' hl h) (fun cdv A outer s H vs Q E hr h => ?_)
  obtain ⟨t, h1, h2⟩ := hbody cdv A outer s H E hr (takes_of rfl rfl rfl rfl)
  exact ⟨t, h1, run_x h2 h⟩
end
/-! ### x.f of an instance -/
def fldD (f : Str) : List (D × D) → Option D
  | (.str g, x) :: r => if f = g then some x else fldD f r
  | _ => none
def dFld (c f : Str) : D → Option D
  | .dict ((.none, .str c') :: kvs) => if c' = c then fldD f kvs else none
  | _ => none
section
variable {G : Gm} {U : Hp} {pn : Pn} {E : XK} {e : Ev} {σ : L2.St} {H B H' B' H1 B1 : Hp}
theorem fld_at {f : Str} {x : D} : ∀ {fs : List (Str × V)} {ds : List D}, RzA G B (fs.map (·.2)) ds → fldD f (((fs.map (·.1)).map PyData.str).zip ds) = some x → ∃ y, fs.lookup f = some y ∧ Rz G B y x
  | [], _, .nil, h => by cases h
  | (g, v) :: fs, _, .cons (d := d) (ds := ds) r rs, h => by
    have h' : (if f = g then some d else fldD f (((fs.map (·.1)).map PyData.str).zip ds)) = some x := h
    by_cases e : f = g
    · rw [if_pos e] at h'
      cases h'
      exact ⟨v, by rw [List.lookup_cons, show (f == g) = true from beq_iff_eq.mpr e], r⟩
    · rw [if_neg e] at h'
      obtain ⟨y, h1, h2⟩ := fld_at rs h'
      exact ⟨y, by rw [List.lookup_cons, show (f == g) = false from Bool.eq_false_iff.mpr fun z => e (beq_iff_eq.mp z)]; exact h1, h2⟩
theorem Rz.fld {c f : Str} {v : V} {d x : D} (r : Rz G B v d) (h : dFld c f d = some x) : ∃ a C dx fs y, v = .ref a ∧ B a = some (.ins C dx fs) ∧ G.X c = some C ∧ fs.lookup f = some y ∧ Rz G B y x := by
  cases r with
  | non => cases h
  | bl => cases h
  | int => cases h
  | str => cases h
  | lst => cases h
  | tup => cases h
  | dk h1 h2 =>
    rename_i a ks ds
    cases ks with
    | nil => cases h
    | cons k ks => cases ds with
      | nil => cases h
      | cons d ds => obtain ⟨k, u⟩ := k; cases k <;> cases h
  | dt h1 h2 =>
    rename_i a ks ds
    cases ks with
    | nil => cases h
    | cons k ks => cases ds with
      | nil => cases h
      | cons d ds => cases h
  | fn h1 => cases h
  | kt h1 h2 => cases h
  | ins h1 h2 h3 h4 =>
    rename_i a C dx c' fs ds
    have h' : (if c' = c then fldD f (((fs.map (·.1)).map PyData.str).zip ds) else none) = some x := h
    by_cases e : c' = c
    · rw [if_pos e] at h'
      obtain ⟨y, h5, h6⟩ := fld_at h4 h'
      exact ⟨a, C, dx, fs, y, rfl, h1, e ▸ h3, h5, h6⟩
    · rw [if_neg e] at h'; cases h'
/-- what is known of a class c whose instances' fields are read -/
structure Fld (G : Gm) (c f : Str) : Prop where
  at_ : ∀ C, G.X c = some C → Cls G.K C ∧ NoAttr G.K C f
theorem ce_fld {c f : Str} {t : TE} {g : FG D} (T : Fld G c f) (h : CE G pn E t g) : CE G pn E (tFld G.K t f) (op1 (dFld c f) g) := by
  refine CG.bind (t := t) h fun v a U e σ H B r p' Q rl rz hf post => ?_
  obtain ⟨x, hx, rfl, rfl⟩ := optG_eq hf
  obtain ⟨a, C, dx, fs, y, rfl, h1, h2, h3, h4⟩ := rz.fld hx
  obtain ⟨c1, c2⟩ := T.at_ C h2
  exact ⟨a, C, dx, fs, y, rfl, rl.b.bh _ _ h1, c1, c2, h3, post y H B rl (Same.refl _) Keep.refl h4⟩
end
end Fw

set_option linter.all false
set_option maxRecDepth 100000
set_option maxHeartbeats 4000000
namespace Fw
open PySem PySem.Spec PyProof.Rows L2
/-! ### enumerate, zip -/
def enumL : Nat → List D → List D
  | _, [] => []
  | i, d :: ds => .tuple [.int (i : Int), d] :: enumL (i + 1) ds
theorem enumL_len : ∀ {ds : List D} {i : Nat}, (enumL i ds).length = ds.length
  | [], _ => rfl
  | d :: ds, i => by
    show (enumL (i + 1) ds).length + 1 = ds.length + 1
    rw [enumL_len]
theorem enumL_get : ∀ {ds : List D} {i j : Nat} {x : D}, (enumL i ds)[j]? = some x → ∃ d, ds[j]? = some d ∧ x = .tuple [.int ((i + j : Nat) : Int), d]
  | [], _, _, _, h => by cases h
  | d :: ds, i, 0, x, h => by cases h; exact ⟨d, rfl, rfl⟩
  | d :: ds, i, j + 1, x, h => by
    obtain ⟨y, h1, h2⟩ := enumL_get (ds := ds) (i := i + 1) (j := j) h
    exact ⟨y, h1, by rw [h2, show i + 1 + j = i + (j + 1) by omega]⟩
def zipL : List D → List D → List D
  | d :: ds, e :: es => .tuple [d, e] :: zipL ds es
  | _, _ => []
theorem zipL_len : ∀ {ds es : List D}, (zipL ds es).length = min ds.length es.length
  | [], _ => by simp [zipL]
  | _ :: _, [] => by simp [zipL]
  | d :: ds, e :: es => by
    show (zipL ds es).length + 1 = min (ds.length + 1) (es.length + 1)
    rw [zipL_len]
    omega
theorem zipL_get : ∀ {ds es : List D} {j : Nat} {x : D}, (zipL ds es)[j]? = some x → ∃ d e, ds[j]? = some d ∧ es[j]? = some e ∧ x = .tuple [d, e]
  | [], _, _, _, h => by simp [zipL] at h
  | _ :: _, [], _, _, h => by simp [zipL] at h
  | d :: ds, e :: es, 0, x, h => by cases h; exact ⟨d, e, rfl, rfl, rfl⟩
  | d :: ds, e :: es, j + 1, x, h => zipL_get (ds := ds) (es := es) (j := j) h
section
variable {G : Gm} {U : Hp} {pn : Pn} {E : XK} {e : Ev} {σ : L2.St} {H B H' B' H1 B1 : Hp}
theorem yield_pair {T : Addr} {x y : V} {d1 d2 : D} (rl : Rl G U pn e σ H B) (hT : H T = none) (r1 : Rz G B x d1) (r2 : Rz G B y d2) :
    ∃ B', Same B B' ∧ Same H (upd H T (.tup [x, y])) ∧ (∀ U e σ, Rl G U pn e σ H B → Rl G U pn e σ (upd H T (.tup [x, y])) B') ∧ Rz G B' (.ref T) (.tuple [d1, d2]) := by
  have sb : Same B (upd B T (.tup [x, y])) := same_upd (rl.b.bh.free hT)
  exact ⟨_, sb, same_upd hT, fun U e σ r => r.new hT, .tup upd_same (.cons (r1.same sb) (.cons (r2.same sb) .nil))⟩
theorem walks_e {a : Addr} {xs : List V} {ds : List D} (h : B a = some (.lst xs)) (hr : RzA G B xs ds) : Walks G pn (Ite G.K a) (enumL 0 ds) B := by
  intro i U H B1 e σ s rl
  have hq : SqL G.K H a xs := SqL.of (rl.b.bh _ _ (s _ _ h))
  refine ⟨fun hi => ⟨xs, hq, by rw [hr.length, ← enumL_len (i := 0)]; exact hi⟩, fun d hd => ?_⟩
  obtain ⟨d0, h0, rfl⟩ := enumL_get hd
  obtain ⟨x, hx, rz⟩ := hr.get h0
  refine ⟨⟨xs, x, hq, hx⟩, fun y H' ⟨T, x', e1, e2, e3, e4⟩ => ?_⟩
  subst e1 e3
  have e5 := e4 xs hq
  rw [hx] at e5
  cases e5
  rw [Nat.zero_add]
  exact yield_pair rl e2 (.int _) (rz.same s)
theorem walks_z {a b : Addr} {xs ys : List V} {ds es : List D} (h : B a = some (.lst xs)) (h' : B b = some (.lst ys)) (hr : RzA G B xs ds) (hr' : RzA G B ys es) : Walks G pn (Itz G.K a b) (zipL ds es) B := by
  intro i U H B1 e σ s rl
  have hq : SqL G.K H a xs := SqL.of (rl.b.bh _ _ (s _ _ h))
  have hq' : SqL G.K H b ys := SqL.of (rl.b.bh _ _ (s _ _ h'))
  refine ⟨fun hi => ⟨xs, ys, hq, hq', by rw [hr.length, hr'.length]; rw [zipL_len] at hi; omega⟩, fun d hd => ?_⟩
  obtain ⟨d0, e0, h0, h0', rfl⟩ := zipL_get hd
  obtain ⟨x, hx, rz⟩ := hr.get h0
  obtain ⟨y, hy, rz'⟩ := hr'.get h0'
  refine ⟨⟨xs, ys, x, y, hq, hq', hx, hy⟩, fun v H' ⟨T, x', y', e1, e2, e3, e4, e5⟩ => ?_⟩
  subst e1 e3
  have e6 := e4 xs hq
  have e7 := e5 ys hq'
  rw [hx] at e6
  rw [hy] at e7
  cases e6
  cases e7
  exact yield_pair rl e2 (rz.same s) (rz'.same s)
theorem walks_zT {a b : Addr} {xs ys : List V} {ds es : List D} (h : SqT G.K B a xs) (h' : SqT G.K B b ys) (hr : RzA G B xs ds) (hr' : RzA G B ys es) : Walks G pn (RZ.ItzT G.K a b) (zipL ds es) B := by
  intro i U H B1 e σ s rl
  have hq : SqT G.K H a xs := same_tS rl.b.bh (same_tS s h)
  have hq' : SqT G.K H b ys := same_tS rl.b.bh (same_tS s h')
  refine ⟨fun hi => ⟨xs, ys, hq, hq', by rw [hr.length, hr'.length]; rw [zipL_len] at hi; omega⟩, fun d hd => ?_⟩
  obtain ⟨d0, e0, h0, h0', rfl⟩ := zipL_get hd
  obtain ⟨x, hx, rz⟩ := hr.get h0
  obtain ⟨y, hy, rz'⟩ := hr'.get h0'
  refine ⟨⟨xs, ys, x, y, hq, hq', hx, hy⟩, fun v H' ⟨T, x', y', e1, e2, e3, e4, e5⟩ => ?_⟩
  subst e1 e3
  have e6 := e4 xs hq
  have e7 := e5 ys hq'
  rw [hx] at e6
  rw [hy] at e7
  cases e6
  cases e7
  exact yield_pair rl e2 (rz.same s) (rz'.same s)
def enumD : List D → Option (List D)
  | [.list ds] => some (enumL 0 ds)
  | _ => none
def zipD : List D → Option (List D)
  | [.list ds, .list es] => some (zipL ds es)
  | [.tuple ds, .tuple es] => some (zipL ds es)
  | _ => none
theorem ci_enum {t : TA} {f : FG (List D)} (h : CA G pn E t f) : CI G pn E (iEnum G.K t) (rgI enumD f) := by
  refine CG.bind (t := t) h fun vs ds U e σ H B r p' Q rl ra hf post => ?_
  obtain ⟨c, hc, rfl, rfl⟩ := optG_eq hf
  unfold enumD at hc
  split at hc
  · cases hc
    cases ra with
    | cons r1 r2 =>
      cases r2
      obtain ⟨a, xs, rfl, hl, hr⟩ := r1.lst_inv
      exact ⟨a, xs, rfl, SqL.of (rl.b.bh _ _ hl), post _ H B rl (Same.refl _) Keep.refl (walks_e hl hr)⟩
  · cases hc
theorem ci_zip {t : TA} {f : FG (List D)} (h : CA G pn E t f) : CI G pn E (RZ.iZipA G.K t) (rgI zipD f) := by
  refine CG.bind (t := t) h fun vs ds U e σ H B r p' Q rl ra hf post => ?_
  obtain ⟨c, hc, rfl, rfl⟩ := optG_eq hf
  unfold zipD at hc
  split at hc
  · cases hc
    cases ra with
    | cons r1 r2 => cases r2 with
      | cons r3 r4 =>
        cases r4
        obtain ⟨a, xs, rfl, hl, hr⟩ := r1.lst_inv
        obtain ⟨b, ys, rfl, hl', hr'⟩ := r3.lst_inv
        exact ⟨a, b, xs, ys, rfl, .inl ⟨SqL.of (rl.b.bh _ _ hl), SqL.of (rl.b.bh _ _ hl'), post _ H B rl (Same.refl _) Keep.refl (walks_z hl hl' hr hr')⟩⟩
  · cases hc
    cases ra with
    | cons r1 r2 => cases r2 with
      | cons r3 r4 =>
        cases r4
        obtain ⟨a, xs, rfl, hl, hr⟩ := r1.tup_inv
        obtain ⟨b, ys, rfl, hl', hr'⟩ := r3.tup_inv
        exact ⟨a, b, xs, ys, rfl, .inr ⟨same_t rl.b.bh hl, same_t rl.b.bh hl', post _ H B rl (Same.refl _) Keep.refl (walks_zT (SqT.of hl) (SqT.of hl') hr hr')⟩⟩
  · cases hc
end
end Fw

set_option linter.all false
set_option maxRecDepth 100000
set_option maxHeartbeats 4000000
namespace Fw
open PySem PySem.Spec PyProof.Rows L2
/-! ### a module's constant -/
structure Cst (K : PySem.W.Frag) (XC : Str → Option Addr) (mg : Str → Option Value) (x : Str) (v : V) (d : D) : Prop where
  m : ∃ u, mg x = some u ∧ RelV v u
  z : ∀ B, Rz ⟨K, XC⟩ B v d
theorem pe_cst {X : Cx} {XC : Str → Option Addr} {x : Str} {v : V} {d : D} {pos : Pos} (hg : Gl X x) (h : Cst X.K XC X.mg x v d) (hd : (x == ("__debug__" : Str)) = false := by decide) : PE X (.Name x pos) (tC v) := by
  obtain ⟨u, hm, hr⟩ := h.m
  exact pe_glob hg hm hr hd
section
variable {G : Gm} {U : Hp} {pn : Pn} {E : XK} {e : Ev} {σ : L2.St} {H B H' B' H1 B1 : Hp}
theorem ce_cst {K : PySem.W.Frag} {XC : Str → Option Addr} {mg : Str → Option Value} {x : Str} {v : V} {d : D} (h : Cst K XC mg x v d) : CE ⟨K, XC⟩ pn E (tC v) (retG d) := ce_const h.z
end
/-! ### sorted, of ints -/
def insI (x : Int) : List Int → List Int
  | [] => [x]
  | y :: ys => if x ≤ y then x :: y :: ys else y :: insI x ys
def sortI : List Int → List Int
  | [] => []
  | x :: xs => insI x (sortI xs)
theorem insI_mem {x y : Int} : ∀ {ys : List Int}, y ∈ insI x ys → y = x ∨ y ∈ ys
  | [], h => .inl (List.mem_singleton.mp h)
  | z :: zs, h => by
    unfold insI at h
    split at h
    · exact List.mem_cons.mp h
    · rcases List.mem_cons.mp h with h | h
      · exact .inr (h ▸ .head _)
      · rcases insI_mem h with h | h
        · exact .inl h
        · exact .inr (.tail _ h)
theorem insI_perm {x : Int} : ∀ {ys : List Int}, (insI x ys).Perm (x :: ys)
  | [] => .refl _
  | z :: zs => by
    unfold insI
    split
    · exact .refl _
    · exact (List.Perm.cons z insI_perm).trans (.swap x z zs)
theorem insI_pw {x : Int} : ∀ {ys : List Int}, ys.Pairwise (· ≤ ·) → (insI x ys).Pairwise (· ≤ ·)
  | [], _ => List.pairwise_singleton _ _
  | z :: zs, h => by
    obtain ⟨h1, h2⟩ := List.pairwise_cons.mp h
    unfold insI
    split
    · next hx =>
      refine List.pairwise_cons.mpr ⟨fun y hy => ?_, h⟩
      rcases List.mem_cons.mp hy with hy | hy
      · omega
      · have := h1 y hy
        omega
    · refine List.pairwise_cons.mpr ⟨fun y hy => ?_, insI_pw h2⟩
      rcases insI_mem hy with hy | hy
      · omega
      · exact h1 y hy
theorem sortI_perm : ∀ {xs : List Int}, (sortI xs).Perm xs
  | [] => .refl _
  | _ :: _ => insI_perm.trans (.cons _ sortI_perm)
theorem sortI_pw : ∀ {xs : List Int}, (sortI xs).Pairwise (· ≤ ·)
  | [] => .nil
  | _ :: _ => insI_pw sortI_pw
theorem sortI_only {xs ys : List Int} (p : ys.Perm xs) (h : ys.Pairwise (· ≤ ·)) : ys = sortI xs :=
  (p.trans sortI_perm.symm).eq_of_pairwise (fun a b _ _ h1 h2 => by omega) h sortI_pw
def dSortI : D → Option D
  | .list ds => (intsD ds).map fun ns => .list ((sortI ns).map PyData.int)
  | _ => none
section
variable {G : Gm} {U : Hp} {pn : Pn} {E : XK} {e : Ev} {σ : L2.St} {H B H' B' H1 B1 : Hp}
theorem f_sortI : Cf1 G pn (rSortedI G.K) dSortI := by
  intro U e σ H B x a c Q rl ra h q
  unfold dSortI at h
  split at h
  · obtain ⟨ns, hn, rfl⟩ := Option.map_eq_some_iff.mp h
    obtain ⟨a1, xs, rfl, h1, n1, r1⟩ := ra.lst_inv
    obtain rfl := r1.ints_inv hn
    refine ⟨a1, ns, rfl, SqL.of h1, fun ns' p hp hs hq => ?_⟩
    obtain rfl := sortI_only hp hs
    exact q p _ B (rl.fresh hq (.lst upd_same (RzA.ints _))) (Same.refl _) (Keep.of (same_upd hq))
  · cases h
end
end Fw

set_option linter.all false
set_option maxRecDepth 100000
set_option maxHeartbeats 4000000
namespace Fw
open PySem PySem.Spec PyProof.Rows L2
/-! ### C(..): an instance made, its fields set at the end of __init__ -/
section
variable {G : Gm} {U : Hp} {pn : Pn} {E : XK} {e : Ev} {σ : L2.St} {H B H' B' H1 B1 : Hp}
theorem Slots.getR {a : Addr} : ∀ {σ : L2.St} {ρ : List Slot} {os : List Addr} {i : Nat}, Slots G pn B H σ ρ os → ρ[i]? = some (.me a) → σ[i]? = some (some (.ref a))
  | _, _, _, 0, .me _, e => by cases e; rfl
  | _, _, _, 0, .u _, e => by cases e
  | _, _, _, 0, .d _ _, e => by cases e
  | _, _, _, 0, .o _ _, e => by cases e
  | _, _, _, 0, .p _ _, e => by cases e
  | _, _, _, 0, .fo _ _, e => by cases e
  | _, _, _, i + 1, .d _ t, e => Slots.getR (i := i) t (by simpa using e)
  | _, _, _, i + 1, .u t, e => Slots.getR (i := i) t (by simpa using e)
  | _, _, _, i + 1, .o _ t, e => Slots.getR (i := i) t (by simpa using e)
  | _, _, _, i + 1, .p _ t, e => Slots.getR (i := i) t (by simpa using e)
  | _, _, _, i + 1, .fo _ t, e => Slots.getR (i := i) t (by simpa using e)
  | _, _, _, i + 1, .me t, e => Slots.getR (i := i) t (by simpa using e)
  | _, _, _, _, .nil, e => by simp at e
theorem Rl.getR (r : Rl G U pn e σ H B) {i : Nat} {a : Addr} (h : e.sl[i]? = some (.me a)) : σ[i]? = some (some (.ref a)) := by
  obtain ⟨os, s, _, _⟩ := r.s
  exact s.getR h
theorem Base.nb {p : PenS} (b : Base U pn p H B) {a : Addr} {o : HO} (hu : U a = some o) : B a = none := by
  cases h : B a with
  | none => rfl
  | some x => rw [b.bu a x h] at hu; cases hu
theorem Rl.frame (r : Rl G U pn e σ H B) {a : Addr} {o0 o : HO} (hno : NoC o0) (hu : U a = some o0) : Rl G (upd U a o) pn e σ (upd H a o) B := by
  obtain ⟨b, os, s, n, f⟩ := r
  have nB := b.nb hu
  refine ⟨⟨fun c x hx => ?_, fun c x hx => ?_, fun c x hx => ?_, fun q hq => ?_, fun q hq => ?_⟩, os, s.grow (Same.refl _) (fun q hq => ?_), n, fun q hq => ?_⟩
  · have : c ≠ a := fun z => by rw [z, nB] at hx; cases hx
    rw [upd_ne this]; exact b.bh c x hx
  · by_cases z : c = a
    · rw [z, upd_same] at hx ⊢; exact hx
    · rw [upd_ne z] at hx ⊢; exact b.uh c x hx
  · have : c ≠ a := fun z => by rw [z, nB] at hx; cases hx
    rw [upd_ne this]; exact b.bu c x hx
  · obtain ⟨h1, h2, h3, h4⟩ := b.pen q hq
    have nq : q.1 ≠ a := fun z => by rw [z, hu] at h2; cases h2
    exact ⟨h1, (upd_ne nq).trans h2, (upd_ne nq).trans h3, h4⟩
  · obtain ⟨h1, h2, h3⟩ := b.tab q hq
    have np := b.npU hu q hq
    refine ⟨fun t ht => ⟨(h1 t ht).1, (upd_ne (fun z => np.2 t ht z.symm)).trans (h1 t ht).2⟩, tabs_mut h2 (b.uh _ _ hu) hno, h3.1.mut (b.uh _ _ hu) hno, h3.2⟩
  · obtain ⟨_, h2, _⟩ := f q hq
    have nq : q ≠ a := fun z => by rw [z, hu] at h2; cases h2
    exact upd_ne nq
  · obtain ⟨h1, h2, h3⟩ := f q hq
    have nq : q ≠ a := fun z => by rw [z, hu] at h2; cases h2
    exact ⟨h1, (upd_ne nq).trans h2, h3⟩
/-- the made instance becomes data -/
theorem Base.made {p : PenS} {C a dx : Addr} {fs : List (Str × V)} (b : Base U pn p H B) (hu : U a = some (.ins C dx fs)) (hx : U dx = some (.own a)) :
    Base (del (del U a) dx) pn p H (upd (upd B dx (.own a)) a (.ins C dx fs)) ∧ Same B (upd (upd B dx (.own a)) a (.ins C dx fs)) := by
  have ne : dx ≠ a := fun z => by rw [z, hu] at hx; cases hx
  have nB := b.nb hu
  have nX := b.nb hx
  refine ⟨⟨fun c x h => ?_, fun c x h => ?_, fun c x h => ?_, fun q hq => ?_, fun q hq => ?_⟩, fun c x h => ?_⟩
  · by_cases z : c = a
    · rw [z, upd_same] at h
      rw [z, b.uh a _ hu]; exact h
    · rw [upd_ne z] at h
      by_cases y : c = dx
      · rw [y, upd_same] at h
        rw [y, b.uh dx _ hx]; exact h
      · rw [upd_ne y] at h; exact b.bh c x h
  · unfold del at h
    split at h
    · cases h
    · split at h
      · cases h
      · exact b.uh c x h
  · unfold del
    split
    · rfl
    · next y =>
      split
      · rfl
      · next z => rw [upd_ne z, upd_ne y] at h; exact b.bu c x h
  · obtain ⟨h1, h2, h3, h4⟩ := b.pen q hq
    have n1 : q.1 ≠ a := fun z => by rw [z, hu] at h2; cases h2
    have n2 : q.1 ≠ dx := fun z => by rw [z, hx] at h2; cases h2
    have n3 : q.2 ≠ a := fun z => by rw [z, nB] at h4; cases h4
    have n4 : q.2 ≠ dx := fun z => by rw [z, nX] at h4; cases h4
    refine ⟨by rw [upd_ne n1, upd_ne n2]; exact h1, ?_, h3, by rw [upd_ne n3, upd_ne n4]; exact h4⟩
    unfold del
    rw [if_neg n2, if_neg n1]; exact h2
  · obtain ⟨h1, h2, h3⟩ := b.tab q hq
    have p1 := b.npU hu q hq
    have p2 := b.npU hx q hq
    have sm : Same B (upd (upd B dx (.own a)) a (.ins C dx fs)) := fun c x h => by
      rw [upd_ne (fun z => by rw [z, nB] at h; cases h), upd_ne (fun z => by rw [z, nX] at h; cases h)]
      exact h
    refine ⟨fun t ht => ⟨?_, ?_⟩, h2, h3.1, h3.2.trans sm⟩
    · rw [upd_ne (fun z => p1.2 t ht z.symm), upd_ne (fun z => p2.2 t ht z.symm)]; exact (h1 t ht).1
    · unfold del
      rw [if_neg (fun z => p2.2 t ht z.symm), if_neg (fun z => p1.2 t ht z.symm)]; exact (h1 t ht).2
  · have n1 : c ≠ a := fun z => by rw [z, nB] at h; cases h
    have n2 : c ≠ dx := fun z => by rw [z, nX] at h; cases h
    rw [upd_ne n1, upd_ne n2]; exact h
/-! the end of an __init__: self.f = .., one behind another -/
abbrev FM := List (Str × D) → FG D
def PostM (G : Gm) (U : Hp) (pn : Pn) (E : XK) (a dx : Addr) (B : Hp) (p' : PenS) (Dn : Ends) : Rs D → Prop
  | .v d => ∀ σ' H' B', Base (del (del U a) dx) pn p' H' B' → Same B B' → Rz G B' (.ref a) d → Dn.nx σ' H'
  | .x c ns ds => ∀ cls ao H' B', Base (del (del U a) dx) pn p' H' B' → Same B B' → XAt G B' H' cls ao c ns ds → E cls ao H'
theorem Base.sub {U1 : Hp} {p : PenS} (b : Base U none p H B) (s : Same U1 U) : Base U1 none p H B := by
  have no : ∀ c, U c = none → U1 c = none := fun c h => by
    cases h1 : U1 c with
    | none => rfl
    | some x => rw [s c x h1] at h; cases h
  exact ⟨b.bh, s.trans b.uh, fun c x h => no c (b.bu c x h), (fun q hq => by cases hq), (fun q hq => by cases hq)⟩
theorem del2_sub {a dx : Addr} : Same (del (del U a) dx) U := fun c x h => by
  unfold del at h
  split at h
  · cases h
  · split at h
    · cases h
    · exact h
theorem Base.del2 {p : PenS} {a dx C : Addr} {fs : List (Str × V)} (b : Base U pn p H B) (hu : U a = some (.ins C dx fs)) (hx : U dx = some (.own a)) : Base (del (del U a) dx) pn p H B := by
  have no : ∀ c, U c = none → (del (del U a) dx) c = none := fun c h => by
    cases h1 : (del (del U a) dx) c with
    | none => rfl
    | some x => rw [del2_sub c x h1] at h; cases h
  refine ⟨b.bh, fun c x h => b.uh c x (del2_sub c x h), fun c x h => no c (b.bu c x h), fun q hq => ?_, fun q hq => ?_⟩
  · obtain ⟨h1, h2, h3, h4⟩ := b.pen q hq
    exact ⟨h1, no _ h2, h3, h4⟩
  · obtain ⟨h1, h2, h3⟩ := b.tab q hq
    exact ⟨fun t ht => ⟨(h1 t ht).1, no _ (h1 t ht).2⟩, h2, h3⟩
theorem del2_upd {a dx : Addr} {o : HO} : del (del (upd U a o) a) dx = del (del U a) dx := by
  funext c
  unfold del
  split
  · rfl
  · split
    · rfl
    · next z => exact upd_ne z
theorem PostM.up {a dx : Addr} {p' : PenS} {Dn : Ends} {r : Rs D} (s : Same B B1) (h : PostM G U pn E a dx B p' Dn r) : PostM G U pn E a dx B1 p' Dn r := by
  cases r with
  | v d => exact fun σ' H' B' b s' x => h σ' H' B' b (s.trans s') x
  | x c ns ds => exact fun cls ao H' B' b s' x => h cls ao H' B' b (s.trans s') x
theorem putF_new {f : Str} {v : V} : ∀ {fs : List (Str × V)}, f ∉ fs.map (·.1) → putF f v fs = fs ++ [(f, v)]
  | [], _ => rfl
  | (g, x) :: r, h => by
    have h1 : g ≠ f := fun z => h (by rw [z]; exact .head _)
    show (if g = f then (g, v) :: r else (g, x) :: putF f v r) = _
    rw [if_neg h1, putF_new (fun z => h (.tail _ z))]
    rfl
def CM (G : Gm) (pn : Pn) (E : XK) (c : Str) (t : TS) (T : FM) : Prop := ∀ (acc : List (Str × D)) (fs : List (Str × V)) U e σ H B r p' a dx C Dn, σ[0]? = some (some (.ref a)) → Rl G U pn e σ H B → U a = some (.ins C dx fs) → U dx = some (.own a) → G.X c = some C →
  fs.map (·.1) = acc.map (·.1) → RzA G B (fs.map (·.2)) (acc.map (·.2)) → T acc e = some (r, p') → PostM G U pn E a dx B p' Dn r → t Dn σ H
def newF (f : Str) (acc : List (Str × D)) : Bool := !(acc.map (·.1)).contains f && decide (acc.length < 999)
def oneM (c f : Str) (g : FG D) : FM := fun acc => bindG g fun d => if newF f acc = true then retG (insD c ((acc ++ [(f, d)]).map (·.1)) ((acc ++ [(f, d)]).map (·.2))) else fun _ => none
def consM (f : Str) (g : FG D) (T : FM) : FM := fun acc => bindG g fun d => if newF f acc = true then T (acc ++ [(f, d)]) else fun _ => none
theorem newF_inv {f : Str} {acc : List (Str × D)} {fs : List (Str × V)} (hn : fs.map (·.1) = acc.map (·.1)) (h : newF f acc = true) : f ∉ fs.map (·.1) ∧ fs.length < 1000 := by
  unfold newF at h
  rw [Bool.and_eq_true] at h
  obtain ⟨h1, h2⟩ := h
  have hl := congrArg List.length hn
  rw [List.length_map, List.length_map] at hl
  refine ⟨fun z => ?_, by have := of_decide_eq_true h2; omega⟩
  rw [hn] at z
  rw [List.contains_iff_mem.mpr z] at h1
  cases h1
theorem cm_one {c f : Str} {tv : TE} {g : FG D} (T : Fld G c f) (hv : CE G pn E tv g) : CM G pn E c (sFld G.K (tVar 0) tv f) (oneM c f g) := by
  intro acc fs U e σ H B r p' a dx C Dn h0 rl hu hx hX hn hr hf post
  obtain ⟨c1, c2⟩ := T.at_ C hX
  rcases bind_inv hf with ⟨c', ns, ds, he, rfl⟩ | ⟨d, q, he, hg⟩
  · exact hv U e σ H B _ _ _ rl he fun cls ao H' B' b s x => post cls ao H' B' (b.del2 hu hx) s x
  · split at hg
    · next hnew =>
      cases hg
      obtain ⟨hf1, hl⟩ := newF_inv hn hnew
      refine hv U e σ H B _ _ _ rl he fun v H1 B1 rl1 s1 k1 rz => ?_
      refine ⟨.ref a, h0, a, C, dx, fs, rfl, rl1.b.uh _ _ hu, c1, c2, hl, ?_⟩
      rw [putF_new hf1]
      have rl2 := rl1.frame (o := .ins C dx (fs ++ [(f, v)])) noC_ins hu
      have hxa : dx ≠ a := fun z => by rw [z, hu] at hx; cases hx
      obtain ⟨b3, s3⟩ := rl2.b.made upd_same ((upd_ne hxa).trans hx)
      rw [del2_upd] at b3
      refine post σ _ _ b3 (s1.trans s3) ?_
      have e1 : (acc ++ [(f, d)]).map (·.1) = (fs ++ [(f, v)]).map (·.1) := by rw [List.map_append, List.map_append, hn]; rfl
      rw [e1]
      refine .ins upd_same ((upd_ne hxa).trans upd_same) hX ?_
      rw [List.map_append, List.map_append]
      exact ((hr.same s1).same s3).app (.cons (rz.same s3) .nil)
    · cases hg
theorem cm_cons {c f : Str} {tv : TE} {g : FG D} {t2 : TS} {T2 : FM} (T : Fld G c f) (hv : CE G pn E tv g) (h2 : CM G pn E c t2 T2) : CM G pn E c (tSeq (sFld G.K (tVar 0) tv f) t2) (consM f g T2) := by
  intro acc fs U e σ H B r p' a dx C Dn h0 rl hu hx hX hn hr hf post
  obtain ⟨c1, c2⟩ := T.at_ C hX
  rcases bind_inv hf with ⟨c', ns, ds, he, rfl⟩ | ⟨d, q, he, hg⟩
  · exact hv U e σ H B _ _ _ rl he fun cls ao H' B' b s x => post cls ao H' B' (b.del2 hu hx) s x
  · split at hg
    · next hnew =>
      obtain ⟨hf1, hl⟩ := newF_inv hn hnew
      refine hv U e σ H B _ _ _ rl he fun v H1 B1 rl1 s1 k1 rz => ?_
      refine ⟨.ref a, h0, a, C, dx, fs, rfl, rl1.b.uh _ _ hu, c1, c2, hl, ?_⟩
      rw [putF_new hf1]
      have hxa : dx ≠ a := fun z => by rw [z, hu] at hx; cases hx
      refine h2 (acc ++ [(f, d)]) (fs ++ [(f, v)]) _ _ σ _ B1 r p' a dx C _ h0 (rl1.frame noC_ins hu) upd_same ((upd_ne hxa).trans hx) hX ?_ ?_ hg ?_
      · rw [List.map_append, List.map_append, hn]; rfl
      · rw [List.map_append, List.map_append]
        exact (hr.same s1).app (.cons rz .nil)
      · have := post.up s1
        cases r with
        | v d => intro σ' H' B' b; rw [del2_upd] at b; exact this σ' H' B' b
        | x c ns ds => intro cls ao H' B' b; rw [del2_upd] at b; exact this cls ao H' B' b
    · cases hg
/-- ahead of it: statements that leave self where it is -/
def CMI (G : Gm) (pn : Pn) (E : XK) (c : Str) (t : TS) (F : FG D) : Prop := ∀ U e σ H B r p' a dx C Dn, e.sl[0]? = some (.me a) → Rl G U pn e σ H B → U a = some (.ins C dx []) → U dx = some (.own a) → G.X c = some C → F e = some (r, p') → PostM G U pn E a dx B p' Dn r → t Dn σ H
theorem cmi_end {c : Str} {t : TS} {T : FM} (h : CM G pn E c t T) : CMI G pn E c t (T []) := fun U e σ H B r p' a dx C Dn h0 rl hu hx hX hf post =>
  h [] [] U e σ H B r p' a dx C Dn (rl.getR h0) rl hu hx hX rfl .nil hf post
def sameMe : Option Slot → Option Slot → Bool
  | some (.me a), some (.me b) => decide (a = b)
  | _, _ => false
theorem sameMe_eq {x : Option Slot} {a : Addr} (h : sameMe x (some (.me a)) = true) : x = some (.me a) := by
  unfold sameMe at h
  split at h
  · next b c h1 h2 =>
    cases h2
    rw [of_decide_eq_true h]
  · cases h
def preM (f : FS) (F : FG D) : FG D := fun e => match f e with
  | some (.nx, e') => if sameMe e'.sl[0]? e.sl[0]? = true then F e' else none
  | some (.x c ns ds, e') => some (.x c ns ds, e'.pen)
  | _ => none
theorem cmi_pre {c : Str} {tp t : TS} {f : FS} {F : FG D} (h1 : CS G pn E tp f) (h2 : CMI G pn E c t F) : CMI G pn E c (tSeq tp t) (preM f F) := by
  intro U e σ H B r p' a dx C Dn h0 rl hu hx hX hf post
  unfold preM at hf
  split at hf
  · next e' hfe =>
    split at hf
    · next hs =>
      rw [h0] at hs
      exact h1 U e σ H B _ _ _ rl hfe fun σ' H' B' rl' s' => h2 U e' σ' H' B' r p' a dx C Dn (sameMe_eq hs) rl' hu hx hX hf (post.up s')
    · cases hf
  · next c' ns ds e' hfe =>
    cases hf
    exact h1 U e σ H B _ _ _ rl hfe fun cls ao H' B' b s x => post cls ao H' B' (b.del2 hu hx) s x
  · cases hf
end
/-! what an __init__ promises; C(..) -/
def PostK (G : Gm) (U : Hp) (a dx : Addr) (B : Hp) (p' : PenS) (Q : VK) (E : XK) : Rs D → Prop
  | .v d => ∀ H' B', Base (del (del U a) dx) none p' H' B' → Same B B' → Rz G B' (.ref a) d → Q .non H'
  | .x c ns ds => ∀ cls ao H' B', Base (del (del U a) dx) none p' H' B' → Same B B' → XAt G B' H' cls ao c ns ds → E cls ao H'
def spMk (G : Gm) (C : Addr) (n : Nat) (F : Addr → FF) : Sp := fun vs H Q E => ∃ (a dx : Addr) (U B : Hp) (ws : List V) (ds : List D) (r : Rs D) (p' : PenS),
  vs = .ref a :: ws ∧ ds.length = n ∧ U a = some (.ins C dx []) ∧ U dx = some (.own a) ∧ Base U none pen0 H B ∧ RzA G B ws ds ∧ F a ds pen0 = some (r, p') ∧ PostK G U a dx B p' Q E r
def slotsM (a : Addr) (N : Nat) (ds : List D) : List Slot := .me a :: (ds.map Slot.d ++ List.replicate (N - (ds.length + 1)) .u)
def defM (N : Nat) (F : FG D) (a : Addr) : FF := fun ds p => F ⟨slotsM a N ds, p⟩
section
variable {G : Gm} {U : Hp} {pn : Pn} {E : XK} {e : Ev} {σ : L2.St} {H B H' B' H1 B1 : Hp}
theorem spMk_len {C : Addr} {n : Nat} {F : Addr → FF} {vs : List V} {Q : VK} {E' : XK} (h : spMk G C n F vs H Q E') : vs.length = n + 1 := by
  obtain ⟨a, dx, U, B, ws, ds, r, p', rfl, hn, _, _, _, ra, _⟩ := h
  rw [List.length_cons, ra.length, hn]
theorem run_m {C : Addr} {c : Str} {n : Nat} {N : List Str} {F : FG D} {ts : TS} {vs : List V} {Q : VK} (hcs : CMI G none E c ts F) (hX : G.X c = some C) (h : spMk G C n (defM N.length F) vs H Q E) :
    ts { nx := fun _ H' => Q .non H', rt := Q } (L2.start N vs) H := by
  obtain ⟨a, dx, U, B, ws, ds, r, p', rfl, hn, hu, hx, b, ra, hF, post⟩ := h
  have rl : Rl G U none ⟨slotsM a N.length ds, pen0⟩ (L2.start N (.ref a :: ws)) H B := by
    refine ⟨b, [], ?_, .nil, fun q hq => by cases hq⟩
    unfold slotsM L2.start
    rw [List.map_cons, List.cons_append, List.length_cons, ra.length]
    exact .me ((Slots.us _).ds ra)
  refine hcs U _ _ H B r p' a dx C _ rfl rl hu hx hX hF ?_
  cases r with
  | v d => exact fun σ' H' B' b' s rz => post H' B' b' s rz
  | x c ns es => exact post
theorem outU_none {a : Addr} (h : H a = none) : outU none B H a = none := by
  cases e : outU none B H a with
  | none => rfl
  | some o => rw [(outU_in e).2.2] at h; cases h
def mkG (n : Nat) (F : Addr → FF) (f : FG (List D)) : FG D := bindG f fun ds e => if ds.length = n then (match F 0 ds pen0 with
  | some (r, _) => some (r, e.pen)
  | none => none) else none
theorem ce_make {C : Addr} {n : Nat} {F : Addr → FF} {f : FG (List D)} {t : TA} (hF : ∀ a, F a = F 0) (h : CA G pn E t f) : CE G pn E (tMake C (spMk G C n F) [] E t) (mkG n F f) := by
  refine CG.bind (t := t) h fun ws ds U e σ H B r p' Q rl ra hf post => ?_
  split at hf
  · next hn =>
    split at hf
    · next r q hR =>
      cases hf
      intro x dx hx hd ne
      have b0 := rl.call0
      have hxB : B x = none := rl.b.bh.free hx
      have hdB : B dx = none := rl.b.bh.free hd
      have sH : Same H (upd (upd H dx (.own x)) x (.ins C dx [])) := fun c o hc => by
        rw [upd_ne (ne_of_none hc hx), upd_ne (ne_of_none hc hd)]; exact hc
      refine ⟨x, dx, upd (upd (outU none B H) dx (.own x)) x (.ins C dx []), B, ws, ds, r, q, by rw [List.append_nil], hn, upd_same, (upd_ne ne).trans upd_same, ⟨rl.b.bh.trans sH, fun c o hc => ?_, fun c o hc => ?_, (fun _ hq => by cases hq), (fun _ hq => by cases hq)⟩, ra, by rw [hF]; exact hR, ?_⟩
      · by_cases z : c = x
        · rw [z, upd_same] at hc ⊢; exact hc
        · rw [upd_ne z] at hc ⊢
          by_cases y : c = dx
          · rw [y, upd_same] at hc ⊢; exact hc
          · rw [upd_ne y] at hc ⊢; exact (outU_in hc).2.2
      · have n1 : c ≠ x := fun z => by rw [z, hxB] at hc; cases hc
        have n2 : c ≠ dx := fun z => by rw [z, hdB] at hc; cases hc
        rw [upd_ne n1, upd_ne n2]
        exact b0.bu c o hc
      · have sub : Same (outU none B H) (del (del (upd (upd (outU none B H) dx (.own x)) x (.ins C dx [])) x) dx) := fun c o hc => by
          have n1 : c ≠ x := fun z => by rw [z, outU_none hx] at hc; cases hc
          have n2 : c ≠ dx := fun z => by rw [z, outU_none hd] at hc; cases hc
          rw [del_ne n2, del_ne n1, upd_ne n1, upd_ne n2]; exact hc
        cases r with
        | v d =>
          intro H' B' b s rz
          obtain ⟨rl', k⟩ := rl.after0 (b.sub sub) s
          exact ⟨rfl, post _ H' B' rl' s k rz⟩
        | x c ns es =>
          intro cls ao H' B' b s xa
          obtain ⟨rl', k⟩ := rl.after0 (b.sub sub) s
          exact post cls ao H' B' rl'.b s xa
    · cases hf
  · cases hf
end
end Fw

set_option linter.all false
set_option maxRecDepth 100000
set_option maxHeartbeats 4000000
namespace Fw
open PySem PySem.Spec PyProof.Rows L2
/-! ### where self stands is not looked at -/
def swS (a : Addr) : Slot → Slot
  | .me _ => .me a
  | s => s
def sw (a : Addr) (e : Ev) : Ev := ⟨e.sl.map (swS a), e.pen⟩
def sw2 {α : Type} (a : Addr) (r : α × Ev) : α × Ev := (r.1, sw a r.2)
def Mg {α : Type} (f : FG α) : Prop := ∀ a e, f (sw a e) = f e
def Ms (f : FS) : Prop := ∀ a e, f (sw a e) = (f e).map (sw2 a)
def Mt (t : FT) : Prop := ∀ a d sl, t d (sl.map (swS a)) = (t d sl).map (List.map (swS a))
def Mts (t : List D → List Slot → Option (List Slot)) : Prop := ∀ a d sl, t d (sl.map (swS a)) = (t d sl).map (List.map (swS a))
section
variable {α β : Type}
theorem mg_ret {x : α} : Mg (retG x) := fun _ _ => rfl
theorem mg_opt {o : Option α} : Mg (optG o) := fun _ _ => rfl
theorem mg_none : Mg (fun _ => none : FG α) := fun _ _ => rfl
theorem mg_bind {f : FG α} {g : α → FG β} (h1 : Mg f) (h2 : ∀ x, Mg (g x)) : Mg (Fw.bindG f g) := fun a e => by
  unfold Fw.bindG
  rw [h1 a e]
  cases hf : f e with
  | none => rfl
  | some r =>
    obtain ⟨r, q⟩ := r
    cases r with
    | x c ns ds => rfl
    | v x => exact h2 x a ⟨e.sl, q⟩
theorem mg_slotD {i : Nat} : Mg (slotD i) := fun a e => by
  unfold slotD
  show (match (e.sl.map (swS a))[i]? with | some (.d x) => some (Rs.v x, e.pen) | _ => none) = _
  rw [List.getElem?_map]
  cases e.sl[i]? with
  | none => rfl
  | some s => cases s <;> rfl
theorem mg_if {c : Prop} [Decidable c] {f g : FG α} (h1 : Mg f) (h2 : Mg g) : Mg (if c then f else g) := by
  split <;> assumption
theorem mg_callN {n : Nat} {F : FF} {f : FG (List D)} (h : Mg f) : Mg (callN n F f) := mg_bind h fun ds a e => rfl
theorem mg_callX {n : Nat} {F : FF} {f : FG (List D)} (h : Mg f) : Mg (callX n F f) := mg_bind h fun ds a e => rfl
theorem mg_mk {n : Nat} {F : Addr → FF} {f : FG (List D)} (h : Mg f) : Mg (mkG n F f) := mg_bind h fun ds a e => rfl
theorem ms_next : Ms nextS := fun _ _ => rfl
theorem ms_brk : Ms breakS := fun _ _ => rfl
theorem ms_cnt : Ms contS := fun _ _ => rfl
theorem ms_none : Ms (fun _ => none) := fun _ _ => rfl
theorem ms_seq {f g : FS} (h1 : Ms f) (h2 : Ms g) : Ms (seqS f g) := fun a e => by
  unfold seqS
  rw [h1 a e]
  cases hf : f e with
  | none => rfl
  | some r =>
    obtain ⟨r, e'⟩ := r
    cases r with
    | nx => exact h2 a e'
    | _ => rfl
theorem ms_then {f : FG α} {g : α → FS} (h1 : Mg f) (h2 : ∀ x, Ms (g x)) : Ms (thenS f g) := fun a e => by
  unfold thenS
  rw [h1 a e]
  cases hf : f e with
  | none => rfl
  | some r =>
    obtain ⟨r, q⟩ := r
    cases r with
    | x c ns ds => rfl
    | v x => exact h2 x a ⟨e.sl, q⟩
theorem ms_ite {c : Prop} [Decidable c] {f g : FS} (h1 : Ms f) (h2 : Ms g) : Ms (if c then f else g) := by
  split <;> assumption
theorem ms_ifS {c : FG Bool} {f g : FS} (h0 : Mg c) (h1 : Ms f) (h2 : Ms g) : Ms (ifS c f g) := ms_then h0 fun _ => ms_ite h1 h2
theorem ms_retS {f : FG D} (h : Mg f) : Ms (retS f) := ms_then h fun _ _ _ => rfl
theorem ms_dropS {f : FG D} (h : Mg f) : Ms (dropS f) := ms_then h fun _ _ _ => rfl
theorem ms_raise {c : Str} {ns : List Str} {f : FG (List D)} (h : Mg f) : Ms (raiseS c ns f) := ms_then h fun ds a e => by
  by_cases z : ds.length = ns.length
  · rw [if_pos z, if_pos z]; rfl
  · rw [if_neg z, if_neg z]; rfl
theorem ms_asgS {f : FG D} {t : FT} (h : Mg f) (ht : Mt t) : Ms (asgS f t) := ms_then h fun d a e => by
  show (t d (e.sl.map (swS a))).map _ = _
  rw [ht a d e.sl]
  cases t d e.sl <;> rfl
theorem mt_name {i : Nat} : Mt (nameT i) := fun a d sl => by
  unfold nameT
  show _ = Option.map _ (some _)
  rw [Option.map_some, List.map_set]
  rfl
theorem mt_nil : Mts nilT := fun a d sl => by cases d <;> rfl
theorem mt_cons {f : FT} {g : List D → List Slot → Option (List Slot)} (h1 : Mt f) (h2 : Mts g) : Mts (consT f g) := fun a d sl => by
  cases d with
  | nil => rfl
  | cons d r =>
    show (f d (sl.map (swS a))).bind (g r) = ((f d sl).bind (g r)).map _
    rw [h1 a d sl]
    cases f d sl with
    | none => rfl
    | some e => exact h2 a r e
theorem mt_tup {n : Nat} {f : List D → List Slot → Option (List Slot)} (h : Mts f) : Mt (tupT n f) := fun a d sl => by
  unfold tupT
  split
  · split
    · exact h a _ sl
    · rfl
  · split
    · exact h a _ sl
    · rfl
  · rfl
theorem ms_forL {ft : FT} {body : FS} (ht : Mt ft) (h : Ms body) : ∀ ds, Ms (forL ft body ds)
  | [] => fun _ _ => rfl
  | d :: ds => fun a e => by
    unfold forL
    show (match ft d (e.sl.map (swS a)) with | none => none | some sl' => _) = _
    rw [ht a d e.sl]
    cases hs : ft d e.sl with
    | none => rfl
    | some sl' =>
      rw [Option.map_some]
      dsimp only
      rw [show body ⟨List.map (swS a) sl', (sw a e).pen⟩ = _ from h a ⟨sl', e.pen⟩]
      cases hb : body ⟨sl', e.pen⟩ with
      | none => rfl
      | some r =>
        obtain ⟨r, e'⟩ := r
        cases r with
        | nx => exact ms_forL ht h ds a e'
        | ct => exact ms_forL ht h ds a e'
        | _ => rfl
theorem ms_for {fi : FG (List D)} {ft : FT} {body : FS} (h0 : Mg fi) (ht : Mt ft) (h : Ms body) : Ms (forS fi ft body) := ms_then h0 fun ds => ms_forL ht h ds
/-! the end -/
theorem mg_one {c f : Str} {g : FG D} (h : Mg g) (acc : List (Str × D)) : Mg (oneM c f g acc) := mg_bind h fun _ => mg_if mg_ret mg_none
theorem mg_cons {f : Str} {g : FG D} {T : FM} (h : Mg g) (h2 : ∀ acc, Mg (T acc)) (acc : List (Str × D)) : Mg (consM f g T acc) := mg_bind h fun _ => mg_if (h2 _) mg_none
def MgI (F : FG D) : Prop := ∀ a b e, F (sw a e) = F (sw b e)
theorem mgi_of {F : FG D} (h : Mg F) : MgI F := fun a b e => (h a e).trans (h b e).symm
theorem sameMe_sw {a b : Addr} {x y : List Slot} : sameMe (x.map (swS a))[0]? (y.map (swS a))[0]? = sameMe (x.map (swS b))[0]? (y.map (swS b))[0]? := by
  rw [List.getElem?_map, List.getElem?_map, List.getElem?_map, List.getElem?_map]
  cases x[0]? with
  | none => rfl
  | some s => cases y[0]? with
    | none => cases s <;> rfl
    | some t => cases s <;> cases t <;> first | rfl | exact (decide_eq_true rfl).trans (decide_eq_true rfl).symm
theorem mgi_pre {f : FS} {F : FG D} (h1 : Ms f) (h2 : MgI F) : MgI (preM f F) := fun a b e => by
  unfold preM
  rw [h1 a e, h1 b e]
  cases hf : f e with
  | none => rfl
  | some r =>
    obtain ⟨r, e'⟩ := r
    cases r with
    | nx =>
      show (if sameMe (e'.sl.map (swS a))[0]? (e.sl.map (swS a))[0]? = true then F (sw a e') else none) = (if sameMe (e'.sl.map (swS b))[0]? (e.sl.map (swS b))[0]? = true then F (sw b e') else none)
      rw [sameMe_sw (a := a) (b := b), h2 a b e']
    | _ => rfl
theorem defM_any {N : Nat} {F : FG D} (h : MgI F) (a : Addr) : defM N F a = defM N F 0 := by
  funext ds p
  have e : ∀ b, (⟨slotsM b N ds, p⟩ : Ev) = sw b ⟨slotsM 0 N ds, p⟩ := fun b => by
    unfold sw slotsM
    simp [swS, Function.comp_def]
  exact (congrArg F (e a)).trans ((h a 0 _).trans (congrArg F (e 0)).symm)
end
end Fw

set_option linter.all false
set_option maxRecDepth 100000
set_option maxHeartbeats 4000000
namespace Fw
open PySem PySem.Spec PyProof.Rows L2
/-! ### a class's __init__, as a def -/
/-- what is known of a class c of the text -/
structure Mkr (K : PySem.W.Frag) (XC : Str → Option Addr) (mg : Str → Option Value) (P : Program) (w : World) (base : Heap) (c : Str) (lv : Nat) (C fI : Addr) (fd : FuncData) (ps : List Str) (n : Nat) (F : Addr → FF) : Prop where
  M : Mk K C fI
  G : FnG P w K mg base (L2.CX P w) lv fI fd ps (spMk ⟨K, XC⟩ C n F)
  b : Binds K fd ps []
  m : mg c = some (.ref C)
  X : XC c = some C
section
variable {G : Gm} {P : Program} {w : World} {K : PySem.W.Frag} {mg : Str → Option Value} {base : Heap}
theorem pass_false {X : Cx} : Passes (L2.CX X.prog X.w) X E0 := fun pins σ H s e s' I c => by
  obtain ⟨a, B, H', cls, d, r⟩ := c
  exact absurd r (by rintro ⟨_, _, _, _, _, _, _, h⟩; exact h)
theorem fn_m {qual : Str} {st : Stmt} {f C : Addr} {c : Str} {fd : FuncData} {N ps : List Str} {k n : Nat} {F : FG D} (Fn : Fun K "__init__" qual st f fd) (S : FnScope N ps (defScope st)) (hl : ps.length = n + 1) (hX : G.X c = some C)
    (hbody : ∀ (cdv : Value) (A : Around) (outer : List Env) (s : Shared) (H : Hp) (E : XK), RoomG k (A.deeper (envOfC qual (defScope st) s.heap.objs.size f cdv)) →
      Takes (cxOf (L2.CX P w) P w K mg base N qual (defScope st) f cdv A outer s H E) (fun cls d _ H => E cls d H) →
      ∃ t, PSs (cxOf (L2.CX P w) P w K mg base N qual (defScope st) f cdv A outer s H E) (defBody st) t ∧ CMI G none E c t F) : FnG P w K mg base (L2.CX P w) (k + 1) f fd ps (spMk G C n (defM N.length F)) := by
  refine fnG_of Fn S (fun vs H Q E h => by rw [spMk_len h, hl]) (fun cdv A outer s H vs Q E hr h => ?_)
  obtain ⟨t, h1, h2⟩ := hbody cdv A outer s H E hr (takes_of rfl rfl rfl rfl)
  exact ⟨t, h1, run_m h2 hX h⟩
end
end Fw

set_option linter.all false
set_option maxRecDepth 100000
set_option maxHeartbeats 4000000
namespace Fw
open PySem PySem.Spec PyProof.Rows L2 Sb
/-! ### enumerate, of a list or a tuple -/
def iEnumU (K : PySem.W.Frag) (ta : TA) : TI := fun σ H R => iEnum K ta σ H R ∨ iEnumT K ta σ H R
theorem pi_enumU {X : Cx} {e : Expr} {ta : TA} {p pos tpos : Pos} {elts : List Expr} {kk : Nat} (hg : Gl X "enumerate") (hm : X.mg "enumerate" = none) (ha : PA X [e] ta) (hs : starEach [e] X.env = [(false, eval e X.env)] := by rfl) :
    PI X (.Tuple elts kk tpos) (.Call (.Name "enumerate" p) [e] [] pos) (iEnumU X.K ta) := PI.or (pi_enum hg hm ha hs) (pi_enumT hg hm ha hs)
section
variable {G : Gm} {U : Hp} {pn : Pn} {E : XK} {e : Ev} {σ : L2.St} {H B H' B' H1 B1 : Hp}
theorem walks_eT {a : Addr} {xs : List V} {ds : List D} (h : SqT G.K B a xs) (hr : RzA G B xs ds) : Walks G pn (IteT G.K a) (enumL 0 ds) B := by
  intro i U H B1 e σ s rl
  have hq : SqT G.K H a xs := same_tS rl.b.bh (same_tS s h)
  refine ⟨fun hi => ⟨xs, hq, by rw [hr.length, ← enumL_len (i := 0)]; exact hi⟩, fun d hd => ?_⟩
  obtain ⟨d0, h0, rfl⟩ := enumL_get hd
  obtain ⟨x, hx, rz⟩ := hr.get h0
  refine ⟨⟨xs, x, hq, hx⟩, fun y H' ⟨T, x', e1, e2, e3, e4⟩ => ?_⟩
  subst e1 e3
  have e5 := e4 xs hq
  rw [hx] at e5
  cases e5
  rw [Nat.zero_add]
  exact yield_pair rl e2 (.int _) (rz.same s)
def enumUD : List D → Option (List D)
  | [.list ds] => some (enumL 0 ds)
  | [.tuple ds] => some (enumL 0 ds)
  | _ => none
theorem ci_enumU {t : TA} {f : FG (List D)} (h : CA G pn E t f) : CI G pn E (iEnumU G.K t) (rgI enumUD f) := by
  intro U e σ H B r p' Q rl hf post
  rcases bind_inv hf with ⟨c, ns, ds, hx, rfl⟩ | ⟨a, q, hx, hg⟩
  · exact .inl (h U e σ H B _ _ _ rl hx post)
  · obtain ⟨ds, hc, rfl, rfl⟩ := optG_eq hg
    unfold enumUD at hc
    split at hc
    · cases hc
      refine .inl (h U e σ H B _ _ _ rl hx fun v H1 B1 rl1 s1 k1 ra => ?_)
      cases ra with
      | cons r1 r2 =>
        cases r2
        obtain ⟨a, xs, rfl, hl, hr⟩ := r1.lst_inv
        exact ⟨a, xs, rfl, SqL.of (rl1.b.bh _ _ hl), post _ H1 B1 rl1 s1 k1 (walks_e hl hr)⟩
    · cases hc
      refine .inr (h U e σ H B _ _ _ rl hx fun v H1 B1 rl1 s1 k1 ra => ?_)
      cases ra with
      | cons r1 r2 =>
        cases r2
        obtain ⟨a, xs, rfl, hl, hr⟩ := r1.tup_inv
        exact ⟨a, xs, rfl, same_t rl1.b.bh hl, post _ H1 B1 rl1 s1 k1 (walks_eT (SqT.of hl) hr)⟩
    · cases hc
end
end Fw

set_option linter.all false
set_option maxRecDepth 100000
set_option maxHeartbeats 4000000
namespace Fw
open PySem PySem.Spec PyProof.Rows L2
section
variable {G : Gm} {U : Hp} {pn : Pn} {E : XK} {e : Ev} {σ : L2.St} {H B H' B' H1 B1 : Hp}
/-! ### x = xs.pop() -/
def popS (i j : Nat) : FS := fun e => (ownL i e).bind fun ds => (ds[ds.length - 1]?).map fun d => (.nx, ⟨(e.sl.set i (.o (.list (ds.take (ds.length - 1))))).set j (.d d), e.pen⟩)
theorem cs_pop {i j : Nat} : CS G pn E (tAsg (tBM0 G.K "list" rPop (tVar i)) (gName j)) (popS i j) := by
  intro U e σ H B r e' Dn rl hf post
  obtain ⟨ds, h0, hf⟩ := Option.bind_eq_some_iff.mp hf
  obtain ⟨d, hd, hf⟩ := Option.map_eq_some_iff.mp hf
  cases hf
  obtain ⟨p, xs, e0, e2, e3⟩ := rl.lst h0
  obtain ⟨y, hy, rz⟩ := e3.get hd
  refine ⟨_, e0, .inl ⟨rfl, xs, SqL.of e2⟩, ?_⟩
  have hl := e3.length
  refine ⟨p, xs, y, rfl, rfl, e2, by rw [hl]; exact hy, ?_⟩
  have hr : RzA G B xs.dropLast (ds.take (ds.length - 1)) := by
    rw [List.dropLast_eq_take, hl]
    exact e3.take _
  exact post _ _ B ((rl.lstPut h0 e0 hr).setD rz j) (Same.refl _)
/-! ### f(..) with defaults filled up -/
def tApp (t : TA) (dvs : List V) : TA := fun σ H Q => t σ H fun vs H1 => Q (vs ++ dvs) H1
theorem tCall_app {sp : Sp} {dvs : List V} {E' : XK} {t : TA} : tCall sp dvs E' t = tCall sp [] E' (tApp t dvs) := by
  funext σ H Q
  show t σ H (fun vs H1 => sp (vs ++ dvs) H1 Q E') = t σ H (fun vs H1 => sp (vs ++ dvs ++ []) H1 Q E')
  simp only [List.append_nil]
def withD (dds : List D) (f : FG (List D)) : FG (List D) := bindG f fun ds => retG (ds ++ dds)
theorem ca_with {t : TA} {f : FG (List D)} {dvs : List V} {dds : List D} (hd : ∀ B, RzA G B dvs dds) (h : CA G pn E t f) : CA G pn E (tApp t dvs) (withD dds f) := by
  refine CG.bind (t := t) h fun vs ds U e σ H B r p' Q rl ra hf post => ?_
  cases hf
  exact post _ H B rl (Same.refl _) Keep.refl (ra.app (hd B))
theorem ce_callD {n : Nat} {F : FF} {f : FG (List D)} {t : TA} {E' : XK} {dvs : List V} {dds : List D} (hd : ∀ B, RzA G B dvs dds) (h : CA G pn E t f) : CE G pn E (tCall (spN G false n F) dvs E' t) (callN n F (withD dds f)) := by
  rw [tCall_app]
  exact ce_callN (ca_with hd h)
end
/-- .. the defaults told beside -/
theorem pe_callD {X : Cx} {CX : CXT} {k : Nat} {f : Addr} {fd : FuncData} {ps : List Str} {sp : Sp} {dvs : List V} {E : XK} {x : Str} {p pos : Pos} {e : Expr} {es : List Expr} {t : TA} (F : FnG X.prog X.w X.K X.mg X.base CX k f fd ps sp) (hr : RoomG k X.A) (hg : Gl X x) (hm : X.mg x = some (.ref f)) (hk : PySem.W.keepIn X.K (.ref f) = true) (hD : ∃ ds, Binds X.K fd ps ds ∧ Vals dvs ds) (hx : Passes CX X E)
    (ha : PA X (e :: es) t) (hdb : (x == ("__debug__" : Str)) = false := by decide) (he : starEach (e :: es) X.env = (false, eval e X.env) :: starEach es X.env := by rfl) (hpl : (backTo pos (starEach es X.env)).any (·.1) = false := by rfl) :
    PE X (.Call (.Name x p) (e :: es) [] pos) (tCall sp dvs E t) := by
  obtain ⟨ds, hb, hd⟩ := hD
  exact Fw.pe_call F hr hg hm hk hb hd hx ha hdb he hpl
end Fw

set_option linter.all false
set_option maxRecDepth 100000
set_option maxHeartbeats 4000000
namespace Fw
open PySem PySem.Spec PyProof.Rows L2
/-! ### isinstance(x, C), C a class of the text -/
structure IsC (K : PySem.W.Frag) (XC : Str → Option Addr) (mg : Str → Option Value) (c : Str) (C : Addr) : Prop where
  m : mg c = some (.ref C)
  X : XC c = some C
  ty : ∀ (H : Hp) (a dx : Addr) (fs : List (Str × V)), H a = some (.ins C dx fs) → TyX K H (.ref a) (.ref C)
  own : PySem.W.kitOne K (.ref C) (.ref C) = some true
  ne : ∀ t ∈ ["NoneType", "bool", "int", "str", "list", "tuple", "dict"], PySem.W.kitOne K (.type t) (.ref C) = some false
def dIsC (c : Str) (d : D) : Option D := if isInsD d = true then (match d with
  | .dict ((.none, .str c') :: _) => if c' = c then some (.bool true) else none
  | _ => none) else some (.bool false)
theorem tyN_in (d : D) : tyN d ∈ ["NoneType", "bool", "int", "str", "list", "tuple", "dict"] := by
  cases d <;> simp [tyN]
section
variable {G : Gm} {U : Hp} {pn : Pn} {E : XK} {e : Ev} {σ : L2.St} {H B H' B' H1 B1 : Hp}
theorem ce_isc {mg : Str → Option Value} {c : Str} {C : Addr} {t : TE} {f : FG D} (T : IsC G.K G.X mg c C) (h : CB G pn E t f) : CE G pn E (tCB (rIsi G.K) (tCons t (tCons (tC (.ref C)) tNil))) (op1 (dIsC c) f) := by
  refine CG.bind (t := t) h fun v a U e σ H B r p' Q rl ra hf post => ?_
  obtain ⟨x, hx, rfl, rfl⟩ := optG_eq hf
  unfold dIsC at hx
  split at hx
  · next hi =>
    cases ra with
    | fn h => cases hx
    | kt h h2 => cases hx
    | ins h1 h2 h3 h4 =>
      rename_i c' fs ds
      have hx' : (if c' = c then some (PyData.bool true) else none) = some x := hx
      by_cases z : c' = c
      · rw [if_pos z] at hx'
        cases hx'
        subst z
        have e1 := T.X.symm.trans h3
        cases e1
        exact ⟨_, .ref C, _, _, true, rfl, .own C, T.ty _ _ _ _ (rl.b.bh _ _ h1), T.own, post _ H B rl (Same.refl _) Keep.refl (.bl _)⟩
      · rw [if_neg z] at hx'; cases hx'
    | dk h1 h2 h3 =>
      exfalso
      rename_i ks ds
      cases ks with
      | nil => cases hi
      | cons k ks => cases ds with
        | nil => cases hi
        | cons d ds => obtain ⟨k, u⟩ := k; cases k <;> cases hi
    | dt h1 h2 h3 =>
      exfalso
      rename_i ks ds
      cases ks with
      | nil => cases hi
      | cons k ks => cases ds with
        | nil => cases hi
        | cons d ds => cases hi
    | _ => cases hi
  · next hi =>
    cases hx
    exact ⟨v, .ref C, _, _, false, rfl, .own C, ra.ty rl.b.bh (by simpa using hi), T.ne _ (tyN_in a), post _ H B rl (Same.refl _) Keep.refl (.bl _)⟩
end
end Fw

set_option linter.all false
set_option maxRecDepth 100000
set_option maxHeartbeats 4000000
namespace Fw
open PySem PySem.Spec PyProof.Rows L2
section
variable {G : Gm} {U : Hp} {pn : Pn} {E : XK} {e : Ev} {σ : L2.St} {H B H' B' H1 B1 : Hp}
/-! ### a, b = e, [] -/
def parDO (i j : Nat) (f g : FG D) : FS := thenS f fun a => thenS g fun b e => if j < e.sl.length ∧ i ≠ j then some (.nx, ⟨(e.sl.set j (.o b)).set i (.d a), e.pen⟩) else none
theorem cs_parDO {i j : Nat} {t u : TE} {f g : FG D} (h1 : CE G pn E t f) (h2 : CF G pn E u g) : CS G pn E (tPar i j (tCons t (tCons u tNil))) (parDO i j f g) := by
  intro U e σ H B r e' Dn rl hf post
  rcases thenS_inv hf with ⟨c, ns, ds, q, hx, rfl, rfl⟩ | ⟨a, q, hx, hg⟩
  · exact h1 U e σ H B _ _ _ rl hx post
  · refine h1 U e σ H B _ _ _ rl hx fun v H1 B1 rl1 s1 k1 rz => ?_
    rcases thenS_inv hg with ⟨c, ns, ds, q2, hx2, rfl, rfl⟩ | ⟨b, q2, hx2, hg2⟩
    · exact h2 U _ σ H1 B1 _ _ _ rl1 hx2 fun cls ao H' B' b s x => post cls ao H' B' b (s1.trans s) x
    · refine h2 U _ σ H1 B1 _ _ _ rl1 hx2 fun p H2 B2 fr s2 k2 => ?_
      dsimp only at hg2
      split at hg2
      · next hij =>
        cases hg2
        refine ⟨_, _, rfl, ?_⟩
        have r3 := (fr.setO hij.1).setD (rz.same s2) i
        rw [List.set_comm _ _ (Ne.symm hij.2)] at r3
        have r4 : Rl G U pn ⟨(e.sl.set i (.d a)).set j (.o b), q2⟩ ((σ.set i (some v)).set j (some (.ref p))) H2 B2 := by
          rw [List.set_comm (some (V.ref p)) (some v) (Ne.symm hij.2)] at r3
          exact r3
        rw [List.set_comm _ _ (Ne.symm hij.2)] at post
        exact post _ H2 B2 r4 (s1.trans s2)
      · cases hg2
end
end Fw

set_option linter.all false
set_option maxRecDepth 100000
set_option maxHeartbeats 4000000
namespace Fw
open PySem PySem.Spec PyProof.Rows L2
/-! ### for the end: what the written part tells gives the hypotheses -/
section
variable {K : PySem.W.Frag} {XC : Str → Option Addr} {mg : Str → Option Value}
theorem Fld.of {c f : Str} {C : Addr} (hX : XC c = some C) (cl : Cls K C) (na : NoAttr K C f) : Fld ⟨K, XC⟩ c f :=
  ⟨fun C' h => by
    have e := hX.symm.trans h
    cases e
    exact ⟨cl, na⟩⟩
theorem IsC.of {c : Str} {C : Addr} (hX : XC c = some C) (hm : mg c = some (.ref C)) (cl : Cls K C) (ha : PySem.W.findIn K (.ref C) "__class__" = some (some (.builtin "object.__class__")))
    (hn : PySem.W.specialIn K (.builtin "object.__class__") "__get__" = some (some (.builtin "getset_descriptor.__get__"))) (ht : PySem.W.takesIn K (.builtin "object.__class__") = some true)
    (ho : PySem.W.mroIn K C (.type "object") = some true) (own : PySem.W.kitOne K (.ref C) (.ref C) = some true)
    (n0 : PySem.W.kitOne K (.type "NoneType") (.ref C) = some false) (n1 : PySem.W.kitOne K (.type "bool") (.ref C) = some false) (n2 : PySem.W.kitOne K (.type "int") (.ref C) = some false) (n3 : PySem.W.kitOne K (.type "str") (.ref C) = some false)
    (n4 : PySem.W.kitOne K (.type "list") (.ref C) = some false) (n5 : PySem.W.kitOne K (.type "tuple") (.ref C) = some false) (n6 : PySem.W.kitOne K (.type "dict") (.ref C) = some false) : IsC K XC mg c C :=
  ⟨hm, hX, fun H a dx fs h => .base (.ins h cl ha hn ht ho), own, fun t h => by
    simp only [List.mem_cons, List.not_mem_nil, or_false] at h
    rcases h with rfl | rfl | rfl | rfl | rfl | rfl | rfl <;> assumption⟩
/-- a module's constant that is a number, a text -/
theorem Cst.int {x : Str} {i : Int} {t : Tok} (h : mg x = some (.int i t)) : Cst K XC mg x (.int i) (.int i) := ⟨⟨_, h, _, rfl⟩, fun _ => .int i⟩
/-- .. a tuple of what is plain -/
theorem Cst.tup {x : Str} {a : Addr} {xs : List V} {ds : List D} (h : mg x = some (.ref a)) (l : KT K a xs) (hz : ∀ B, RzA ⟨K, XC⟩ B xs ds) :
    Cst K XC mg x (.ref a) (kD ds) := ⟨⟨_, h, rfl⟩, fun B => .kt l (hz B)⟩
end
end Fw

set_option linter.all false
set_option maxRecDepth 100000
set_option maxHeartbeats 4000000
namespace Fw
open PySem PySem.Spec PyProof.Rows L2
section
variable {G : Gm} {U : Hp} {pn : Pn} {E : XK} {e : Ev} {σ : L2.St} {H B H' B' H1 B1 : Hp}
/-- two new objects, one behind the other -/
theorem two_new {i j : Nat} {t u : TE} {f g : FG D} {a b : D} {q q2 : PenS} {Q : V → V → Hp → Prop} (h1 : CF G pn E t f) (h2 : CF G pn E u g) (rl : Rl G U pn e σ H B) (hx : f e = some (.v a, q)) (hx2 : g ⟨e.sl, q⟩ = some (.v b, q2))
    (hij : i < e.sl.length ∧ j < e.sl.length ∧ i ≠ j)
    (post : ∀ p p2 H2 B2, Rl G U pn ⟨(e.sl.set i (.o a)).set j (.o b), q2⟩ ((σ.set i (some (.ref p))).set j (some (.ref p2))) H2 B2 → Same B B2 → Q (.ref p) (.ref p2) H2) : t σ H fun v H1 => u σ H1 fun w H2 => Q v w H2 := by
  refine h1 U e σ H B _ _ _ rl hx fun p H1 B1 fr s1 k1 => ?_
  obtain ⟨o, ho, hno⟩ := fr.o.atC
  obtain ⟨os, ss, nn, ff, np⟩ := fr.s
  obtain ⟨n1, n2, n3⟩ := fr.n
  have rlU : Rl G (upd U p o) pn ⟨e.sl, q⟩ σ H1 B1 := by
    refine ⟨⟨fr.b.bh, fun a x hx => ?_, fun a x hx => ?_, fun z hz => ?_, fun z hz => ?_⟩, os, ss, nn, fun z hz => ?_⟩
    · by_cases y : a = p
      · rw [y, upd_same] at hx; rw [y, ho]; exact hx
      · rw [upd_ne y] at hx; exact fr.b.uh a x hx
    · rw [upd_ne (ne_of_none hx n1)]; exact fr.b.bu a x hx
    · obtain ⟨a1, a2, a3, a4⟩ := fr.b.pen z hz
      exact ⟨a1, (upd_ne (fun y => (n3 z hz).1 y.symm)).trans a2, a3, a4⟩
    · obtain ⟨a1, a2, a3⟩ := fr.b.tab z hz
      exact ⟨fun t ht => ⟨(a1 t ht).1, (upd_ne (fun y => (n3 z hz).2 t ht y.symm)).trans (a1 t ht).2⟩, a2, a3⟩
    · obtain ⟨a1, a2, a3⟩ := ff z hz
      exact ⟨a1, (upd_ne (fun y => np (by rw [← y]; exact hz))).trans a2, a3⟩
  refine h2 _ _ σ H1 B1 _ _ _ rlU hx2 fun p2 H2 B2 fr2 s2 k2 => ?_
  obtain ⟨os2, ss2, nn2, ff2, np2⟩ := fr2.s
  obtain ⟨m1, m2, m3⟩ := fr2.n
  have hp2 : H2 p = some o := fr2.b.uh p o upd_same
  have hBp : B2 p = none := by
    cases h : B2 p with
    | none => rfl
    | some x => have := fr2.b.bu p x h; rw [upd_same] at this; cases this
  have ne : p2 ≠ p := fun z => by rw [z, upd_same] at m2; cases m2
  have hpo : p ∉ os2 := fun z => by have := (ff2 p z).2.1; rw [upd_same] at this; cases this
  have hU2 : U p2 = none := by rw [upd_ne ne] at m2; exact m2
  have ow : OwnAt G B2 H2 p a := (fr.o.keep (by rw [hp2, ho]) s2)
  have base : Base U pn q2 H2 B2 := fr2.b.unU n2 hno
  have fr3 : Fresh G U pn ⟨e.sl, q2⟩ σ H2 B2 p a := ⟨base, ⟨os2, ss2, nn2, fun z hz => by
    obtain ⟨a1, a2, a3⟩ := ff2 z hz
    rw [upd_ne (fun y => hpo (by rw [← y]; exact hz))] at a2
    exact ⟨a1, a2, a3⟩, hpo⟩, ow, hBp, n2, n3⟩
  have rl3 := fr3.setO (i := i) hij.1
  obtain ⟨b3, os3, ss3, nn3, ff3⟩ := rl3
  have hp3 : p2 ∉ os3 := fun z => by
    obtain ⟨os4, s4, sb4, _⟩ := Slots.setO ow i hij.1 ss2
    have e3 := ss3.own
    have e4 := s4.own
    rw [← e4] at e3
    subst e3
    rcases sb4 p2 z with y | y
    · exact ne y
    · exact np2 y
  have fr4 : Fresh G U pn ⟨e.sl.set i (.o a), q2⟩ (σ.set i (some (.ref p))) H2 B2 p2 b := ⟨b3, ⟨os3, ss3, nn3, ff3, hp3⟩, fr2.o, m1, hU2, m3⟩
  exact post p p2 H2 B2 (fr4.setO (i := j) (by rw [List.length_set]; exact hij.2.1)) (s1.trans s2)
/-! ### a, b, c = e, [], [] -/
def parDOO (i j l : Nat) (f0 f g : FG D) : FS := thenS f0 fun d e => match f e with
  | some (.v a, q) => (match g ⟨e.sl, q⟩ with
    | some (.v b, q2) => if (j < e.sl.length ∧ l < e.sl.length ∧ j ≠ l) ∧ i ≠ j ∧ i ≠ l then some (.nx, ⟨((e.sl.set j (.o a)).set l (.o b)).set i (.d d), q2⟩) else none
    | _ => none)
  | _ => none
theorem cs_parDOO {i j l : Nat} {t0 t u : TE} {f0 f g : FG D} (h0 : CE G pn E t0 f0) (h1 : CF G pn E t f) (h2 : CF G pn E u g) : CS G pn E (tPar3 i j l (tCons t0 (tCons t (tCons u tNil)))) (parDOO i j l f0 f g) := by
  intro U e σ H B r e' Dn rl hf post
  rcases thenS_inv hf with ⟨c, ns, ds, q, hx, rfl, rfl⟩ | ⟨d, q0, hx, hg⟩
  · exact h0 U e σ H B _ _ _ rl hx post
  · refine h0 U e σ H B _ _ _ rl hx fun v H1 B1 rl1 s1 k1 rz => ?_
    dsimp only at hg
    split at hg
    · next a q ha =>
      split at hg
      · next b q2 hb =>
        split at hg
        · next hh =>
          cases hg
          obtain ⟨hij, n1, n2⟩ := hh
          refine two_new (i := j) (j := l) (Q := fun x y H2 => ∃ a1 b1 c1, [v, x, y] = [a1, b1, c1] ∧ Dn.nx (((σ.set i (some a1)).set j (some b1)).set l (some c1)) H2) h1 h2 rl1 ha hb hij fun p p2 H2 B2 rl2 s2 => ⟨v, .ref p, .ref p2, rfl, ?_⟩
          have r3 := rl2.setD (rz.same s2) i
          have e1 : (((σ.set j (some (V.ref p))).set l (some (V.ref p2))).set i (some v)) = ((σ.set i (some v)).set j (some (V.ref p))).set l (some (V.ref p2)) := by
            rw [List.set_comm _ _ (Ne.symm n2), List.set_comm _ _ (Ne.symm n1)]
          rw [e1] at r3
          exact post _ H2 B2 r3 (s1.trans s2)
        · cases hg
      · cases hg
    · cases hg
end
end Fw

set_option linter.all false
set_option maxRecDepth 100000
set_option maxHeartbeats 4000000
namespace Fw
open PySem PySem.Spec PyProof.Rows L2
/-! ### x == y by x's own __eq__ -/
structure EqC (K : PySem.W.Frag) (XC : Str → Option Addr) (mg : Str → Option Value) (P : Program) (w : World) (base : Heap) (c : Str) (lv : Nat) (C f : Addr) (fd : FuncData) (ps : List Str) (F : FF) : Prop where
  I : IsC K XC mg c C
  s : PySem.W.findIn K (.ref C) "__eq__" = some (some (.ref f))
  fn : PySem.W.isFn K (.ref f) = true
  G : FnG P w K mg base CX0 lv f fd ps (spN ⟨K, XC⟩ false 2 F)
  b : Binds K fd ps []
  no : PySem.W.notFirst K C (.ref C) = true
  nt : ∀ t ∈ ["NoneType", "bool", "int", "str", "tuple"], PySem.W.notFirst K C (.type t) = true
def isC (c : Str) : D → Bool
  | .dict ((.none, .str c') :: _) => decide (c' = c)
  | _ => false
def flatD : D → Bool
  | .list _ => false
  | .dict _ => false
  | _ => true
def dEqI (c : Str) (F : FF) (a b : D) : Option D := if (isC c a && (isC c b || flatD b)) = true then (match F [a, b] pen0 with
  | some (.v d, _) => some d
  | _ => none) else none
section
variable {G : Gm} {U : Hp} {pn : Pn} {E : XK} {e : Ev} {σ : L2.St} {H B H' B' H1 B1 : Hp}
theorem RzB.isC {c : Str} {v : V} {d : D} (h : RzB G pn B H v d) (i : isC c d = true) : Rz G B v d ∧ ∃ a C dx fs, v = .ref a ∧ B a = some (.ins C dx fs) ∧ G.X c = some C := by
  cases h with
  | ins h1 h2 h3 h4 =>
    rename_i c' fs ds
    have z : c' = c := of_decide_eq_true i
    exact ⟨.ins h1 h2 h3 h4, _, _, _, _, rfl, h1, z ▸ h3⟩
  | dk h1 h2 h3 =>
    exfalso
    rename_i ks ds
    cases ks with
    | nil => cases i
    | cons k ks => cases ds with
      | nil => cases i
      | cons d ds => obtain ⟨k, u⟩ := k; cases k <;> cases i
  | dt h1 h2 h3 =>
    exfalso
    rename_i ks ds
    cases ks with
    | nil => cases i
    | cons k ks => cases ds with
      | nil => cases i
      | cons d ds => cases i
  | _ => cases i
theorem RzB.flat {v : V} {d : D} (h : RzB G pn B H v d) (i : flatD d = true) : Rz G B v d ∧ isInsD d = false ∧ tyN d ∈ ["NoneType", "bool", "int", "str", "tuple"] := by
  cases h with
  | non => exact ⟨.non, rfl, by simp [tyN]⟩
  | bl b => exact ⟨.bl b, rfl, by simp [tyN]⟩
  | int b => exact ⟨.int b, rfl, by simp [tyN]⟩
  | str b => exact ⟨.str b, rfl, by simp [tyN]⟩
  | tup h1 h2 => exact ⟨.tup h1 h2, rfl, by simp [tyN]⟩
  | _ => cases i
theorem ob_eqI {P : Program} {w : World} {mg : Str → Option Value} {base : Heap} {c : Str} {lv : Nat} {C f : Addr} {fd : FuncData} {ps : List Str} {F : FF} {E' : XK} (T : EqC G.K G.X mg P w base c lv C f fd ps F) : OpB G pn (Sb.rOwnE G.K C (spN G false 2 F) E') (dEqI c F) := by
  intro U e σ H B x y a b d Q rl rx ry h post
  unfold dEqI at h
  split at h
  · next hc =>
    rw [Bool.and_eq_true, Bool.or_eq_true] at hc
    obtain ⟨zx, p, C', dx, fs, rfl, h1, hX⟩ := rx.isC hc.1
    have e1 := T.I.X.symm.trans hX
    cases e1
    split at h
    · next d' q hF =>
      cases h
      have fin : ∀ (z : Rz G B y b), spN G false 2 F [.ref p, y] H Q E' := fun z =>
        ⟨none, outU none B H, B, [.ref p, y], [a, b], pen0, q, _, rfl, rfl, rfl, rl.call0, .cons zx (.cons z .nil), hF, fun v H' B' b' s rz => by
          obtain ⟨rl', k⟩ := rl.after0 b' s
          exact post v H' B' rl' s k rz⟩
      rcases hc.2 with i | i
      · obtain ⟨zy, p2, C2, dx2, fs2, rfl, h2, hX2⟩ := ry.isC i
        have e2 := T.I.X.symm.trans hX2
        cases e2
        exact ⟨p, dx, fs, _, rfl, rl.b.bh _ _ h1, T.I.ty _ _ _ _ (rl.b.bh _ _ h2), T.no, fin zy⟩
      · obtain ⟨zy, hi, ht⟩ := ry.flat i
        exact ⟨p, dx, fs, _, rfl, rl.b.bh _ _ h1, ry.ty rl.b.bh hi, T.nt _ ht, fin zy⟩
    · cases h
  · cases h
end
end Fw

set_option linter.all false
set_option maxRecDepth 100000
set_option maxHeartbeats 4000000
namespace Fw
open PySem PySem.Spec PyProof.Rows L2
/-! ### repr of data -/
def keyR : D → Bool
  | .int _ => true
  | .str _ => true
  | _ => false
mutual
/-- no instance; dicts of ints and texts -/
def repK : D → Bool
  | .dict kvs => repKv kvs
  | .list ds => repKA ds
  | .tuple ds => repKA ds
  | _ => true
def repKA : List D → Bool
  | [] => true
  | d :: ds => repK d && repKA ds
def repKv : List (D × D) → Bool
  | [] => true
  | kv :: r => keyR kv.1 && repK kv.2 && repKv r
end
theorem repKv_no {a b : D} {r : List (D × D)} (h : keyR a = false) : repK (.dict ((a, b) :: r)) = false := by
  show (keyR a && repK b && repKv r) = false
  rw [h]
  rfl
@[irreducible] def shw (d : D) : Str := d.shown
theorem shw_eq {d : D} : d.shown = shw d := by unfold shw; rfl
mutual
/-- no list within -/
def noL : D → Bool
  | .dict kvs => noLk kvs
  | .list _ => false
  | .tuple ds => noLA ds
  | _ => true
def noLA : List D → Bool
  | [] => true
  | d :: ds => noL d && noLA ds
def noLk : List (D × D) → Bool
  | [] => true
  | kv :: r => noL kv.2 && noLk r
end
def fitD (d : D) : Bool := repK d && (!d.hasDict || noL d) && d.showable && decide (d.depth ≤ 64) && decide (d.shown.length ≤ 100000)
def dRepr (d : D) : Option D := if fitD d = true then some (.str (shw d)) else none
section
variable {X : Cx} {pins : List (Addr × Obj)} {σ : L2.St} {H : Hp} {s : Shared} {XC : Str → Option Addr}
theorem key_enc {ks : List (Key × V)} {ds : List D} : repKv ((ks.map fun k => keyD k.1).zip ds) = true → ks.length = ds.length → repKA ds = true := by
  induction ks generalizing ds with
  | nil => intro _ hl; cases ds with
    | nil => intros; rfl
    | cons => cases hl
  | cons k ks ih =>
    intro h hl
    cases ds with
    | nil => cases hl
    | cons d ds =>
      have h' : (keyR (keyD k.1) && repK d && repKv ((ks.map fun k => keyD k.1).zip ds)) = true := h
      simp only [Bool.and_eq_true] at h'
      show (repK d && repKA ds) = true
      rw [h'.1.2, ih h'.2 (by simpa using hl)]
      rfl
theorem kv_vals : ∀ {ks : List (Key × V)} {vs : List (Key × Value)}, KV ks vs → Vals (ks.map (·.2)) (vs.map (·.2))
  | _, _, .nil => .nil
  | _, _, .cons r t => .cons r.2 (kv_vals t)
theorem kv_keys : ∀ {ks : List (Key × V)} {vs : List (Key × Value)}, KV ks vs → (ks.map fun k => keyD k.1) = vs.map fun k => keyD k.1
  | _, _, .nil => rfl
  | _, _, .cons r t => by rw [List.map_cons, List.map_cons, r.1, kv_keys t]
theorem pairs_read {P : Program} {w : World} {h : Heap} : ∀ {l : List DictEntry} {vs : List (Key × Value)}, Pairs (mixKind P w) l vs → ReadsAll h (l.map (·.key)) (vs.map fun k => keyD k.1) [] ∧ l.map (·.val) = vs.map (·.2)
  | _, _, .nil => ⟨ReadsAll.nil, rfl⟩
  | _, _, .cons (e := e') hk hv hp => by
    obtain ⟨h1, h2⟩ := pairs_read (h := h) hp
    refine ⟨?_, by rw [List.map_cons, List.map_cons, hv, h2]⟩
    rcases keyIs_shape hk with ⟨i, t, e, e'⟩ | ⟨x, t, e, e'⟩
    · rw [List.map_cons, List.map_cons, e, e']; exact ReadsAll.cons (Reads.int i t) h1
    · rw [List.map_cons, List.map_cons, e, e']; exact ReadsAll.cons (Reads.str x t) h1
theorem noL_vals {ks : List (Key × V)} {ds : List D} : noLk ((ks.map fun k => keyD k.1).zip ds) = true → ks.length = ds.length → noLA ds = true := by
  induction ks generalizing ds with
  | nil => intro _ hl; cases ds with
    | nil => intros; rfl
    | cons => cases hl
  | cons k ks ih =>
    intro h hl
    cases ds with
    | nil => cases hl
    | cons d ds =>
      have h' : (noL d && noLk ((ks.map fun k => keyD k.1).zip ds)) = true := h
      simp only [Bool.and_eq_true] at h'
      show (noL d && noLA ds) = true
      rw [h'.1, ih h'.2 (by simpa using hl)]
      rfl
mutual
theorem Rz.reads (I : Inv X pins σ H s) : ∀ {v : V} {d : D} {u : Value}, Rz ⟨X.K, XC⟩ H v d → repK d = true → RelV v u → ∃ as, Reads s.heap u d as ∧ (noL d = true → sysModules ∉ as)
  | _, _, _, .non, _, r => by cases r; exact ⟨_, Reads.none, fun _ => by simp⟩
  | _, _, _, .bl b, _, r => by cases r; exact ⟨_, Reads.bool b, fun _ => by simp⟩
  | _, _, _, .int i, _, r => by obtain ⟨t, rfl⟩ := r; exact ⟨_, Reads.int i t, fun _ => by simp⟩
  | _, _, _, .str x, _, r => by obtain ⟨t, rfl⟩ := r; exact ⟨_, Reads.str x t, fun _ => by simp⟩
  | _, _, _, .lst h hs, k, r => by
    cases r
    obtain ⟨its, rv, ⟨o, n, ho, hc, _, hd⟩, _⟩ := I.list (SqL.of h)
    obtain ⟨as, hr, na⟩ := RzA.reads I hs k rv
    exact ⟨_, Reads.list ho hc hd hr, fun z => by cases z⟩
  | _, _, _, .tup h hs, k, r => by
    cases r
    obtain ⟨its, rv, ⟨o, ho, hc, n, hd⟩, _⟩ := I.tuple (SqT.of h)
    obtain ⟨as, hr, na⟩ := RzA.reads I hs k rv
    exact ⟨_, Reads.tuple ho hc hd hr, na⟩
  | _, _, _, .dk (ks := ks) (ds := ds) h hs, k, r => by
    cases r
    obtain ⟨_, ns, vs, kv, o, es, ep, ho, hx, hdat, _, hp, _⟩ := I.hok _ _ h
    have ns' := beq_eq_false_iff_ne.mp ns
    have hl : ks.length = ds.length := by rw [← hs.length, List.length_map]
    obtain ⟨bs, hr, na⟩ := RzA.reads I hs (key_enc k hl) (kv_vals kv)
    have key := pairs_read (h := s.heap) hp
    rw [← kv_keys kv] at key
    have f1 : (((ks.map fun k => keyD k.1).zip ds).map (·.1)) = ks.map fun k => keyD k.1 := List.map_fst_zip (by rw [List.length_map]; omega)
    have f2 : (((ks.map fun k => keyD k.1).zip ds).map (·.2)) = ds := List.map_snd_zip (by rw [List.length_map]; omega)
    refine ⟨_, Reads.dict ho hx.1 hdat (by rw [f1]; exact key.1) (by rw [f2, key.2]; exact hr), fun hn z => ?_⟩
    rcases List.mem_append.mp z with z | z
    · rcases List.mem_cons.mp z with y | y
      · exact ns' y.symm
      · cases y
    · exact na (noL_vals hn hl) z
  | _, _, _, .dt (ks := ks) (ds := ds) h hs, k, r => by
    cases r
    cases ks with
    | nil =>
      cases hs
      obtain ⟨_, ns, xs, pr, o, es, ep, ho, hx, hdat, he, _⟩ := I.hok _ _ h
      cases pr
      refine ⟨_, Reads.dict (as := []) (bs := []) ho hx.1 hdat (by rw [he]; exact ReadsAll.nil) (by rw [he]; exact ReadsAll.nil), fun _ z => ?_⟩
      rcases List.mem_append.mp z with z | z
      · rcases List.mem_cons.mp z with y | y
        · exact beq_eq_false_iff_ne.mp ns y.symm
        · cases y
      · cases z
    | cons k' ks =>
      cases hs with
      | cons h1 h2 =>
        exfalso
        exact Bool.false_ne_true ((repKv_no rfl).symm.trans k)
  | _, _, _, .fn h, k, r => by
    exfalso
    exact Bool.false_ne_true ((repKv_no rfl).symm.trans k)
  | _, _, _, .kt h h2, k, r => by
    exfalso
    exact Bool.false_ne_true ((repKv_no rfl).symm.trans k)
  | _, _, _, .ins h1 h2 h3 hs, k, r => by
    exfalso
    exact Bool.false_ne_true ((repKv_no rfl).symm.trans k)
theorem RzA.reads (I : Inv X pins σ H s) : ∀ {vs : List V} {ds : List D} {us : List Value}, RzA ⟨X.K, XC⟩ H vs ds → repKA ds = true → Vals vs us → ∃ as, ReadsAll s.heap us ds as ∧ (noLA ds = true → sysModules ∉ as)
  | _, _, _, .nil, _, r => by cases r; exact ⟨_, ReadsAll.nil, by simp⟩
  | _, _, _, .cons h t, k, r => by
    have k' := Bool.and_eq_true_iff.mp (show (repK _ && repKA _) = true from k)
    cases r with
    | cons r1 r2 =>
      obtain ⟨as, q1, n1⟩ := Rz.reads I h k'.1 r1
      obtain ⟨bs, q2, n2⟩ := RzA.reads I t k'.2 r2
      exact ⟨_, ReadsAll.cons q1 q2, fun hn z => (List.mem_append.mp z).elim (n1 (Bool.and_eq_true_iff.mp (show (noL _ && noLA _) = true from hn)).1) (n2 (Bool.and_eq_true_iff.mp (show (noL _ && noLA _) = true from hn)).2)⟩
end
end
def rRepr (G : Gm) : List V → Hp → VK → Prop := fun xs H Q => ∃ v d, xs = [v] ∧ Rz G H v d ∧ fitD d = true ∧ Q (.str (shw d)) H
theorem call_repr {X : Cx} {XC : Str → Option Addr} (hg : X.A.guards = some []) (hu : X.A.units + 70 < cLine) : CallR X (.builtin "repr") (rRepr ⟨X.K, XC⟩) := by
  intro pins s σ H xs us Q I r h
  obtain ⟨v, d, rfl, hd, ft, q⟩ := h
  obtain ⟨u, rfl, ru⟩ := r.one
  unfold fitD at ft
  simp only [Bool.and_eq_true, decide_eq_true_eq] at ft
  obtain ⟨⟨⟨⟨f1, f0⟩, f2⟩, f3⟩, f4⟩ := ft
  have hsm : ∀ as : List Addr, (noL d = true → sysModules ∉ as) → d.hasDict = true → sysModules ∉ as := fun as h hd => h (by rw [Bool.or_eq_true, hd] at f0; simpa using f0)
  obtain ⟨as, rd, na⟩ := Rz.reads I hd f1 ru
  have f5 : d.shown.length ≤ sizeLine := Nat.le_trans f4 (by decide)
  cases rd with
  | none => exact PySem.P.repr_of_none ⟨.str (shw .none), H, I.tok _, ⟨_, by rw [← shw_eq]; rfl⟩, q⟩
  | bool b => exact PySem.P.repr_of_bool ⟨.str (shw (.bool b)), H, I.tok _, ⟨_, by rw [← shw_eq]; rfl⟩, q⟩
  | int i t => exact PySem.P.repr_of_int (by simpa [PyData.showable] using f2) ⟨.str (shw (.int i)), H, I.tok _, ⟨_, by rw [← shw_eq]; rfl⟩, q⟩
  | str x t => exact PySem.P.repr_of_str ⟨.str (shw (.str x)), H, I.tok _, ⟨_, by rw [← shw_eq]; rfl⟩, q⟩ f5
  | list a b c e => exact repr_of_reads' (Reads.list a b c e) f2 (hsm _ na) hg (by omega) (fun b o e => e) (fun h' u tk hk => ⟨.str (shw _), H, I.kept hk, ⟨u, by rw [shw_eq]⟩, q⟩) f5
  | tuple a b c e => exact repr_of_reads' (Reads.tuple a b c e) f2 (hsm _ na) hg (by omega) (fun b o e => e) (fun h' u tk hk => ⟨.str (shw _), H, I.kept hk, ⟨u, by rw [shw_eq]⟩, q⟩) f5
  | dict a b c e f => exact repr_of_reads' (Reads.dict a b c e f) f2 (hsm _ na) hg (by omega) (fun b o e => e) (fun h' u tk hk => ⟨.str (shw _), H, I.kept hk, ⟨u, by rw [shw_eq]⟩, q⟩) f5
section
variable {G : Gm} {U : Hp} {pn : Pn} {E : XK} {e : Ev} {σ : L2.St} {H B H' B' : Hp} {v : V} {d : D}
theorem RzB.up (b : Same B H) (h : RzB G pn B H v d) : Rz G H v d := by
  cases h with
  | non => exact .non
  | bl b => exact .bl b
  | int i => exact .int i
  | str x => exact .str x
  | lst h n hs => exact .lst h (hs.same b)
  | tup h hs => exact .tup (b _ _ h) (hs.same b)
  | kt h hs => exact .kt h (hs.same b)
  | dk h n hs => exact .dk h (hs.same b)
  | dt h n hs => exact .dt h (hs.same b)
  | ins h h2 h3 hs => exact .ins (b _ _ h) (b _ _ h2) h3 (hs.same b)
  | fn h => exact .fn h
theorem b_repr : Cb1 G pn (rRepr G) dRepr := by
  intro U e σ H B v d c Q rl rb hc post
  unfold dRepr at hc
  split at hc
  · next hf =>
    cases hc
    exact ⟨v, d, rfl, rb.up rl.b.bh, hf, post _ H B rl (Same.refl _) Keep.refl (.str _)⟩
  · cases hc
end
end Fw

set_option linter.all false
set_option maxRecDepth 100000
set_option maxHeartbeats 4000000
namespace Fw
open PySem PySem.Spec PyProof.Rows L2
/-! ### try: .. except C as n: .. -/
section
variable {α β γ : Type} {W W1 : Type} {G : Gm} {U : Hp} {pn : Pn} {E : XK} {e : Ev} {σ : L2.St} {H B H' B' H1 B1 : Hp}
/-- the caught exception: its class, its fields -/
structure Exa (G : Gm) (B H : Hp) (cls : Value) (d : Option Addr) (C : Addr) (ns : List Str) (ds : List D) : Prop where
  c : cls = .ref C
  d : ∃ dd fvs, d = some dd ∧ H dd = some (.xd fvs) ∧ fvs.map (·.1) = ns ∧ RzA G B (fvs.map (·.2)) ds
theorem Exa.keep {cls : Value} {d : Option Addr} {C : Addr} {ns : List Str} {ds : List D} (x : Exa G B H cls d C ns ds) {p : PenS} (b : Base U pn p H B) (s : Same B B') (k : Keep pn H H') : Exa G B' H' cls d C ns ds := by
  obtain ⟨c, dd, fvs, h1, h2, h3, h4⟩ := x
  refine ⟨c, dd, fvs, h1, k _ _ h2 fun q hq => ⟨fun z => ?_, fun t ht z => ?_⟩, h3, h4.same s⟩
  · have := (b.pen q hq).2.2.1
    rw [← z, h2] at this
    cases this
  · obtain ⟨ps, hp, _⟩ := (b.tab q hq).2.1 t ht
    rw [← z, h2] at hp
    cases hp
abbrev XTm (W : Type) := Addr → Value → Option Addr → TG_ W
def CXG (G : Gm) (pn : Pn) (E : XK) (i : Nat) (C : Addr) (ns : List Str) (ds : List D) (R : Hp → Hp → W → α → Prop) (t : XTm W) (f : FG α) : Prop :=
  ∀ a cls d U e σ H B r p' Q, σ[i]? = some (some (.ref a)) → Exa G B H cls d C ns ds → Rl G U pn e σ H B → f e = some (r, p') → Post G U pn E R e σ H B p' Q r → t a cls d σ H Q
abbrev CXE (G : Gm) (pn : Pn) (E : XK) (i : Nat) (C : Addr) (ns : List Str) (ds : List D) (t : XTm V) (f : FG D) : Prop := CXG G pn E i C ns ds (fun B _ v d => Rz G B v d) t f
abbrev CXA (G : Gm) (pn : Pn) (E : XK) (i : Nat) (C : Addr) (ns : List Str) (ds : List D) (t : XTm (List V)) (f : FG (List D)) : Prop := CXG G pn E i C ns ds (fun B _ v d => RzA G B v d) t f
variable {i : Nat} {C : Addr} {ns : List Str} {ds : List D}
theorem cx_of {R : Hp → Hp → W → α → Prop} {t : TG_ W} {f : FG α} (h : CG G pn E R t f) : CXG G pn E i C ns ds R (fun _ _ _ => t) f := fun a cls d U e σ H B r p' Q _ _ rl hf post => h U e σ H B r p' Q rl hf post
/-- e.n -/
def exD (n : Str) : List Str → List D → Option D
  | m :: ns, d :: ds => if n = m then some d else exD n ns ds
  | _, _ => none
theorem exD_at {n : Str} {x : D} : ∀ {fvs : List (Str × V)} {ds : List D}, RzA G B (fvs.map (·.2)) ds → exD n (fvs.map (·.1)) ds = some x → ∃ y, fvs.lookup n = some y ∧ Rz G B y x
  | [], _, .nil, h => by cases h
  | (g, v) :: fvs, _, .cons (d := d) (ds := ds) r rs, h => by
    have h' : (if n = g then some d else exD n (fvs.map (·.1)) ds) = some x := h
    by_cases e : n = g
    · rw [if_pos e] at h'
      cases h'
      exact ⟨v, by rw [List.lookup_cons, show (n == g) = true from beq_iff_eq.mpr e], r⟩
    · rw [if_neg e] at h'
      obtain ⟨y, h1, h2⟩ := exD_at rs h'
      exact ⟨y, by rw [List.lookup_cons, show (n == g) = false from Bool.eq_false_iff.mpr fun z => e (beq_iff_eq.mp z)]; exact h1, h2⟩
def exF (n : Str) (ns : List Str) (ds : List D) : FG D := optG (exD n ns ds)
theorem cx_fld {n : Str} : CXE G pn E i C ns ds (fun a cls d => tXf a cls d C n (tVar i)) (exF n ns ds) := by
  intro a cls d U e σ H B r p' Q hi x rl hf post
  obtain ⟨y, hy, rfl, rfl⟩ := optG_eq hf
  obtain ⟨c, dd, fvs, h1, h2, h3, h4⟩ := x
  obtain ⟨v, hv, rz⟩ := exD_at h4 (by rw [h3]; exact hy)
  exact ⟨.ref a, hi, rfl, c, dd, fvs, v, h1, h2, hv, post v H B rl (Same.refl _) Keep.refl rz⟩
theorem cxa_nil : CXA G pn E i C ns ds (fun _ _ _ => tNil) (retG []) := cx_of ca_nil
theorem cxa_cons {ta : XTm V} {tr : XTm (List V)} {f : FG D} {g : FG (List D)} (h1 : CXE G pn E i C ns ds ta f) (h2 : CXA G pn E i C ns ds tr g) : CXA G pn E i C ns ds (fun a cls d => tCons (ta a cls d) (tr a cls d)) (consG f g) := by
  intro a cls d U e σ H B r p' Q hi x rl hf post
  rcases bind_inv hf with ⟨c, n, es, hx, rfl⟩ | ⟨y, q, hx, hg⟩
  · exact h1 a cls d U e σ H B _ _ _ hi x rl hx post
  · refine h1 a cls d U e σ H B _ _ _ hi x rl hx fun v H1 B1 rl1 s1 k1 rz => ?_
    rcases bind_inv hg with ⟨c, n, es, hx2, rfl⟩ | ⟨ys, q2, hx2, hg2⟩
    · exact h2 a cls d U _ σ H1 B1 _ _ _ hi (x.keep rl.b s1 k1) rl1 hx2 (Post.up (H := H) (B := B) (e := e) s1 k1 post)
    · refine h2 a cls d U _ σ H1 B1 _ _ _ hi (x.keep rl.b s1 k1) rl1 hx2 fun vs H2 B2 rl2 s2 k2 rzs => ?_
      cases hg2
      exact post _ H2 B2 rl2 (s1.trans s2) (k1.trans k2) (.cons (rz.same s2) rzs)
theorem cx_tup {ta : XTm (List V)} {f : FG (List D)} (h : CXA G pn E i C ns ds ta f) : CXE G pn E i C ns ds (fun a cls d => tTup (ta a cls d)) (tupG f) := by
  intro a cls d U e σ H B r p' Q hi x rl hf post
  rcases bind_inv hf with ⟨c, n, es, hx, rfl⟩ | ⟨ys, q, hx, hg⟩
  · exact h a cls d U e σ H B _ _ _ hi x rl hx post
  · refine h a cls d U e σ H B _ _ _ hi x rl hx fun vs H1 B1 rl1 s1 k1 ra => ?_
    obtain ⟨c, hc, rfl, rfl⟩ := optG_eq hg
    obtain ⟨hl, rfl⟩ := few_eq hc
    refine ⟨line_of (by rw [ra.length]; exact hl), fun p hp => ?_⟩
    exact post _ _ _ (rl1.new hp) (s1.trans (same_upd (rl1.b.bh.free hp))) (k1.trans (Keep.of (same_upd hp))) (.tup upd_same (ra.same (same_upd (rl1.b.bh.free hp))))
theorem cx_cb1 {r : List V → Hp → VK → Prop} {φ : D → Option D} {t : XTm V} {f : FG D} (hr : Cb1 G pn r φ) (h : CXE G pn E i C ns ds t f) : CXE G pn E i C ns ds (fun a cls d => tCB r (tCons (t a cls d) tNil)) (op1 φ f) := by
  intro a cls d U e σ H B r1 p' Q hi x rl hf post
  rcases bind_inv hf with ⟨c, n, es, hx, rfl⟩ | ⟨y, q, hx, hg⟩
  · exact h a cls d U e σ H B _ _ _ hi x rl hx post
  · refine h a cls d U e σ H B _ _ _ hi x rl hx fun v H1 B1 rl1 s1 k1 rz => ?_
    obtain ⟨c, hc, rfl, rfl⟩ := optG_eq hg
    exact hr U _ σ H1 B1 v y c Q rl1 (rz.b rl1.b) hc fun w H2 B2 rl2 s2 k2 rw2 => post w H2 B2 rl2 (s1.trans s2) (k1.trans k2) rw2
/-! a clause -/
abbrev CK := List Str → List D → FS
def ClS (G : Gm) (pn : Pn) (E : XK) (i : Nat) (C : Addr) (ts : Suit) (k : CK) : Prop := ∀ a cls d ns ds U e σ H B r e' Dn, σ[i]? = some (some (.ref a)) → Exa G B H cls d C ns ds → Rl G U pn e σ H B → k ns ds e = some (r, e') → PostS G U pn E e' B Dn r → ts a cls d Dn σ H
theorem cl_ret {t : XTm V} {f : List Str → List D → FG D} (h : ∀ ns ds, CXE G pn E i C ns ds t (f ns ds)) : ClS G pn E i C (fun a cls d => tRet (t a cls d)) (fun ns ds => retS (f ns ds)) := by
  intro a cls d ns ds U e σ H B r e' Dn hi x rl hf post
  have hf : retS (f ns ds) e = some (r, e') := hf
  unfold retS thenS at hf
  cases hfe : f ns ds e with
  | none => rw [hfe] at hf; cases hf
  | some rp =>
    obtain ⟨r1, q1⟩ := rp
    rw [hfe] at hf
    cases r1 with
    | x c n es => cases hf; exact h ns ds a cls d U e σ H B _ _ _ hi x rl hfe post
    | v y => cases hf; exact h ns ds a cls d U e σ H B _ _ _ hi x rl hfe fun v H1 B1 rl1 s1 k1 rz => post v H1 B1 rl1.b s1 rz
theorem cl_asg {t : XTm V} {f : List Str → List D → FG D} {j : Nat} (h : ∀ ns ds, CXE G pn E i C ns ds t (f ns ds)) : ClS G pn E i C (fun a cls d => tAsg (t a cls d) (gName j)) (fun ns ds => asgS (f ns ds) (nameT j)) := by
  intro a cls d ns ds U e σ H B r e' Dn hi x rl hf post
  have hf : asgS (f ns ds) (nameT j) e = some (r, e') := hf
  unfold asgS thenS at hf
  cases hfe : f ns ds e with
  | none => rw [hfe] at hf; cases hf
  | some rp =>
    obtain ⟨r1, q1⟩ := rp
    rw [hfe] at hf
    cases r1 with
    | x c n es => cases hf; exact h ns ds a cls d U e σ H B _ _ _ hi x rl hfe post
    | v y => cases hf; exact h ns ds a cls d U e σ H B _ _ _ hi x rl hfe fun v H1 B1 rl1 s1 k1 rz => post _ H1 B1 (rl1.setD rz j) s1
/-- no two classes of the text's own errors are one another's -/
def Exm (G : Gm) (R : List Str) : Prop := ∀ c ∈ R, ∀ c' ∈ R, ∀ C C', G.X c = some C → G.X c' = some C' → PySem.W.exmOne G.K (.ref C) (.ref C') = some (decide (c = c'))
inductive Cls_ (G : Gm) (pn : Pn) (E : XK) (i : Nat) (R : List Str) : List (Value × Suit) → List (Str × CK) → Prop
  | nil : Cls_ G pn E i R [] []
  | cons {c : Str} {C : Addr} {ts : Suit} {k : CK} {l : List (Value × Suit)} {cs : List (Str × CK)} (hX : G.X c = some C) (hR : c ∈ R) (h : ClS G pn E i C ts k) (t : Cls_ G pn E i R l cs) : Cls_ G pn E i R ((.ref C, ts) :: l) ((c, k) :: cs)
def pickC (c : Str) : List (Str × CK) → Option CK
  | [] => none
  | k :: r => if c = k.1 then some k.2 else pickC c r
def tryS (n i : Nat) (R : List Str) (body : FS) (cs : List (Str × CK)) : FS := fun e => match body e with
  | some (.x c ns ds, e1) => (match (if c ∈ R then pickC c cs else none) with
    | some k => (match k ns ds ⟨List.replicate n .u, e1.pen⟩ with
      | some (.nx, e2) => some (.nx, ⟨e2.sl.set i .u, e2.pen⟩)
      | some (.rt d, e2) => some (.rt d, e2)
      | _ => none)
    | none => none)
  | r => r
theorem slots_u : ∀ (σ : L2.St), Slots G pn B H σ (List.replicate σ.length .u) []
  | [] => .nil
  | _ :: σ => .u (slots_u σ)
theorem wNamed_of {R : List Str} (M : Exm G R) {l : List (Value × Suit)} {cs : List (Str × CK)} (hl : Cls_ G pn E i R l cs) {c : Str} (hc : c ∈ R) {k : CK} (hk : pickC c cs = some k) {Dn : Ends} {none_ : WX} {C : Addr} (hC : G.X c = some C) {cls : Value} {d : Option Addr} (x : Exa G B H cls d C ns ds)
    {p : PenS} (b : Base U pn p H B) {r : Fl} {e2 : Ev} (hlen : i < σ.length) (hf : k ns ds ⟨List.replicate σ.length .u, p⟩ = some (r, e2)) (post : PostS G U pn E e2 B (unEnds i Dn) r) : wNamed G.K i none_ Dn l cls d σ H := by
  induction hl with
  | nil => cases hk
  | @cons c' C' ts k' l cs hX hR h t ih =>
    have ec := x.c
    subst ec
    refine ⟨_, M c hc c' hR C C' hC hX, fun hb a ha => ?_, fun hb => ?_⟩
    · have z : c = c' := of_decide_eq_true hb
      subst z
      unfold pickC at hk
      rw [if_pos rfl] at hk
      cases hk
      have e1 : C = C' := Option.some.inj (hC.symm.trans hX)
      subst e1
      have sl := slots_u (G := G) (pn := pn) (B := B) (H := H) (σ.set i (some (.ref a)))
      rw [List.length_set] at sl
      exact h a (.ref C) d ns ds U ⟨List.replicate σ.length .u, p⟩ _ H B r e2 _ (by rw [List.getElem?_set_self hlen]) x ⟨b, [], sl, .nil, fun q hq => by cases hq⟩ hf post
    · have z : ¬ c = c' := of_decide_eq_false hb
      unfold pickC at hk
      rw [if_neg z] at hk
      exact ih hk
theorem cs_try {n : Nat} {R : List Str} (M : Exm G R) {tbE : XK → TS} {body : FS} (hi : i < n) (hb : ∀ E1, CS G pn E1 (tbE E1) body) {l : List (Value × Suit)} {cs : List (Str × CK)} (hl : Cls_ G pn E i R l cs) :
    CS G pn E (fun D σ H => tbE (fun cls d H' => ∀ σ', σ'.length = n → wNamed G.K i (fun _ _ _ _ => False) D l cls d σ' H') D σ H) (tryS n i R body cs) := by
  intro U e σ H B r e' Dn rl hf post
  unfold tryS at hf
  cases hbe : body e with
  | none => rw [hbe] at hf; cases hf
  | some re =>
    obtain ⟨r1, e1⟩ := re
    rw [hbe] at hf
    refine hb _ U e σ H B r1 e1 Dn rl hbe ?_
    cases r1 with
    | nx => cases hf; exact post
    | bk => cases hf; exact post
    | ct => cases hf; exact post
    | rt d => cases hf; exact post
    | x c ns ds =>
      intro cls ao H' B' b s xa σ' hσ
      obtain ⟨C, dd, fvs, hC, hcls, hao, hdd, hns, hds⟩ := xa
      dsimp only at hf
      split at hf
      · next k hk =>
        split at hk
        · next hcR =>
          have x : Exa G B' H' cls ao C ns ds := ⟨hcls, dd, fvs, hao, hdd, hns, hds⟩
          split at hf
          · next e2 he2 =>
            cases hf
            rw [← hσ] at he2
            exact wNamed_of M hl hcR hk hC x b (by rw [hσ]; exact hi) he2 fun σ2 H2 B2 rl2 s2 => post _ H2 B2 (rl2.setU i) (s.trans s2)
          · next d e2 he2 =>
            cases hf
            rw [← hσ] at he2
            exact wNamed_of M hl hcR hk hC x b (by rw [hσ]; exact hi) he2 fun v H2 B2 b2 s2 rz => post v H2 B2 b2 (s.trans s2) rz
          · cases hf
        · cases hk
      · cases hf
end
/-! the term's side -/
theorem takes_len {X : Cx} {W : WX} (tk : Takes X W) : Takes X (fun c d σ H => σ.length = X.N.length → W c d σ H) := fun u s' ⟨a, B, sI, pins, σ, H, cls, d, e, I, nb, up, sky, na, os, ag, w⟩ => tk u s' ⟨a, B, sI, pins, σ, H, cls, d, e, I, nb, up, sky, na, os, ag, w I.len⟩
theorem ps_tryL {X : Cx} {n : Str} {i m : Nat} {body : List Stmt} {h : ExceptHandler} {hs : List ExceptHandler} {l : List (Value × Suit)} {pos : Pos} {tbE : XK → TS} (stk : X.stack = X.env :: X.outer) (frm : X.env.frame = some X.env.locals) (nd : X.N.Nodup) (at_ : X.N[i]? = some n) (lo : X.env.kindOf n = some .local) (tk : Takes X fun _ _ _ _ => False)
    (hm : X.N.length = m) (run : ∀ (E1 : XK) (W : WX) (pn : List (Addr × Obj)) (xe : Value → Shared → Prop), Takes (X.tr pn xe) W → (∀ c d σ H, E1 c d H → W c d σ H) → PassesOwn (model X.prog X.w) X.A X.env xe → PSs (X.tr pn xe) body (tbE E1))
    (cl : Clauses X n (h :: hs) l) : PS X (.Try body (h :: hs) [] [] pos) (fun D σ H => tbE (fun cls d H' => ∀ σ', σ'.length = m → wNamed X.K i (fun _ _ _ _ => False) D l cls d σ' H') D σ H) :=
  ps_tryN (tb := fun W => tbE (fun cls d H' => ∀ σ', σ'.length = m → W cls d σ' H')) stk frm nd at_ lo tk
    (fun W pn xe t p => run _ (fun c d σ H => σ.length = m → W c d σ H) pn xe (by have := takes_len t; rw [show (X.tr pn xe).N = X.N from rfl, hm] at this; exact this) (fun c d σ H h z => h σ z) p) cl
end Fw

set_option linter.all false
set_option maxRecDepth 100000
set_option maxHeartbeats 4000000
namespace Fw
open PySem PySem.Spec PyProof.Rows L2
/-! ### a lambda without parameters, made and handed to a def; only the maker's own table is written -/
def Wrote (P : Addr) (H H' : Hp) : Prop := ∀ a o, H a = some o → a ≠ P → H' a = some o
section
variable {X : Cx} {pins : List (Addr × Obj)} {σ : L2.St} {H : Hp} {s : Shared}
theorem made_lam {T : List (Addr × Str)} {c P : Addr} {params : Arguments} {body : Expr} {scope : Scope} {pos : Pos} {E Q : Value → Shared → Prop} (I : Inv X pins σ H s) (TB : LamX.TabB X.base X.mg c P) (code : X.env.code = .ref c) (inT : (P, X.env.qual ++ "<lambda>") ∈ T)
    (one : ∀ p ∈ T, p.1 = P → p.2 = X.env.qual ++ "<lambda>") (tabs : LamX.Tabs T H) (noDef : defaultsOf params X.env = ([], [])) (free : ∀ y ∈ scope.names, y.2 = .free → ∃ c, X.env.cells.lookup y.1 = some c)
    (goal : ∀ (f c' : Addr) (pm ctv : Value) (H1 : Hp) (s' : Shared), Inv X pins σ H1 s' → Wrote P H H1 → LamX.Tabs T H1 → s'.heap.get? f = some (PySem.W.kla_obj "<lambda>" (X.env.qual ++ "<lambda>") params body scope (cloFrom X.env.cells scope.names []) pm c' ctv) → H1 f = none → f ∉ frs X.stack →
      H1 c' = some (LamX.CodeO c' (X.env.qual ++ "<lambda>")) → Q (.ref f) s') : wpAny (model X.prog X.w) X.A (eval (.Lambda params body scope pos) X.env) Q E s := by
  obtain ⟨ps, atP, triples, known⟩ := tabs _ inT
  apply PySem.W.kla_eval noDef
  have built : s.heap.BuiltinsAt X.mg P := TB.bm.keeps I.bk
  have objP : s.heap.get? P = some { cls := .none, data := .fields ps } := I.hok P _ atP
  have noFrame : ∀ f, s.heap.objs.size ≤ f → f ∉ frs X.stack := by
    intro f hf z
    rcases List.mem_cons.mp (I.stkSub _ z) with e | e
    · have small := I.lt
      rw [← e] at small
      exact absurd small (Nat.not_lt_of_le hf)
    · exact I.nofs hf e
  match hc : codeAmong pos ps.toList with
  | some cv =>
    obtain ⟨c', e, hco⟩ := known pos cv hc
    subst e
    refine PySem.W.kla_makeFunctionHit (mg := X.mg) (c := c) (P := P) (ps := ps) (closure_ok free) I.ok.glob (I.mod.glob.keeps I.bk) code (TB.code.keeps I.bk) objP triples hc built fun ctv h' tk ext big => ?_
    have J : Inv X pins σ H { s with heap := h'.push (PySem.W.kla_obj "<lambda>" (X.env.qual ++ "<lambda>") params body scope (cloFrom X.env.cells scope.names []) ((X.mg "__name__").getD .none) c' ctv), toks := tk } := I.kept fun b o e => Heap.get?_push_of_some _ (ext b o e)
    exact goal h'.objs.size c' ((X.mg "__name__").getD .none) ctv H _ J (fun a o h _ => h) tabs (Heap.get?_push_size _ rfl) (I.hok.fresh big) (noFrame _ big) hco
  | none =>
    refine PySem.W.kla_makeFunction (mg := X.mg) (c := c) (P := P) (ps := ps) (closure_ok free) I.ok.glob (I.mod.glob.keeps I.bk) code (TB.code.keeps I.bk) objP triples hc TB.gP built fun c' ctv h' tk ext new less record table => ?_
    obtain ⟨c2, oc, vs, t, e2, ho, hd, hv⟩ := record
    cases e2
    have big : s.heap.objs.size ≤ h'.objs.size := Nat.le_trans new (Nat.le_of_lt less)
    have noC : H c' = none := I.hok.fresh new
    have J := LamX.inv_table (t' := tk) (more := #[rawInt pos.line, rawInt pos.col, .ref c']) (h' := h'.push (PySem.W.kla_obj "<lambda>" (X.env.qual ++ "<lambda>") params body scope (cloFrom X.env.cells scope.names []) ((X.mg "__name__").getD .none) c' ctv)) I atP
      (fun b o hb e => Heap.get?_push_of_some _ (ext b o hb e)) (Heap.get?_push_of_some _ table) new ⟨oc, vs, t, Heap.get?_push_of_some _ ho, hd, hv⟩
    have wrote : Wrote P H (upd (upd H P (.tbl (ps ++ #[rawInt pos.line, rawInt pos.col, .ref c']))) c' (LamX.CodeO c' (X.env.qual ++ "<lambda>"))) := fun b o e n => by
      rw [upd_ne (ne_of_none e noC), upd_ne n]
      exact e
    have keepC : ∀ b o, H b = some o → (∀ qs, o ≠ .tbl qs) → upd (upd H P (.tbl (ps ++ #[rawInt pos.line, rawInt pos.col, .ref c']))) c' (LamX.CodeO c' (X.env.qual ++ "<lambda>")) b = some o := fun b o e n => wrote b o e fun z => n ps (Option.some.inj (e.symm.trans (by rw [z]; exact atP)))
    have eqL : (ps ++ #[rawInt pos.line, rawInt pos.col, .ref c']).toList = ps.toList ++ [rawInt pos.line, rawInt pos.col, .ref c'] := by simp
    refine goal h'.objs.size c' ((X.mg "__name__").getD .none) ctv _ _ J wrote ?_ (Heap.get?_push_size _ rfl) ?_ (noFrame _ big) upd_same
    · intro p hp
      by_cases hb : p.1 = P
      · rw [one p hp hb, hb]
        refine ⟨_, (upd_ne (ne_of_none atP noC)).trans upd_same, by rw [eqL]; exact PySem.TriplesOk_snoc _ _ _ _ triples, fun p' cv hcv => ?_⟩
        rw [eqL] at hcv
        rcases LamX.among_app _ triples hcv with z | z
        · obtain ⟨c0, e1, e2⟩ := known p' cv z
          exact ⟨c0, e1, keepC _ _ e2 LamX.codeO_ne⟩
        · exact ⟨c', z, upd_same⟩
      · obtain ⟨ps', a1, a2, a3⟩ := tabs p hp
        refine ⟨ps', (upd_ne (ne_of_none a1 noC)).trans ((upd_ne hb).trans a1), a2, fun p' cv hcv => ?_⟩
        obtain ⟨c0, e1, e2⟩ := a3 p' cv hcv
        exact ⟨c0, e1, keepC _ _ e2 LamX.codeO_ne⟩
    · rw [upd_ne (Nat.ne_of_gt less), upd_ne (Nat.ne_of_gt (Nat.lt_of_lt_of_le (Heap.lt_size objP) big))]
      exact I.hok.fresh big
/-- x(), in the def that got the lambda; told as LamX.pe_act, but of the very Around that it is called in -/
theorem act_lam {cx : CXT} {Eg E : XK} {Ng : List Str} {qg : Str} {sg : Scope} {g f c' : Addr} {cdg pm ctv : Value} {params : Arguments} {body : Expr} {scope : Scope} {k i : Nat} {a : Str} {pn : List (Addr × Obj)} {xe : Value → Shared → Prop} {W : WX} {tb : TE} {p1 p2 : Pos}
    (I : Inv X pins σ H s) (L : LamX.LamS X.env.scope scope) (isF : s.heap.get? f = some (PySem.W.kla_obj "<lambda>" (X.env.qual ++ "<lambda>") params body scope (cloFrom X.env.cells scope.names []) pm c' ctv)) (noF : H f = none) (noFr : f ∉ frs X.stack)
    (none_ : bindArgs (PySem.W.kla_fn "<lambda>" (X.env.qual ++ "<lambda>") params body scope (cloFrom X.env.cells scope.names []) pm (.ref c') ctv) ⟨[], []⟩ = pure [])
    (tk : Takes ((cxOf cx X.prog X.w X.K X.mg X.base Ng qg sg g cdg X.A X.stack s H Eg).tr pn xe) W) (wish : ∀ cls d σ' H', E cls d H' → W cls d σ' H') (room : RoomG (k + 1) (X.A.deeper (envOfC qg sg s.heap.objs.size g cdg)))
    (read : ∀ (A : Around) (outer : List Env) (s : Shared) (H : Hp), RoomG k (A.deeper (LamX.lamEnv X scope s.heap.objs.size f c')) → PE (LamX.lamCx X A outer s H E scope f c') body tb)
    (at_ : Ng[i]? = some a) (vis : Vis sg a) (d1 : (a == ("__debug__" : Str)) = false := by decide) (d2 : (a == ("__classdict__" : Str)) = false := by decide) :
    PE ((cxOf cx X.prog X.w X.K X.mg X.base Ng qg sg g cdg X.A X.stack s H Eg).tr pn xe) (.Call (.Name a p1) [] [] p2) (fun σZ HZ Q => σZ[i]? = some (some (.ref f)) ∧ HZ c' = some (LamX.CodeO c' (X.env.qual ++ "<lambda>")) ∧ tb σ HZ Q) := by
  constructor
  rintro pinsZ sZ σZ HZ Q IZ ⟨here, isC, pre⟩
  refine wpAny_Call_Name_kw (thn ((pe_var (pos := p1) (i := i) at_ vis d1 d2).run pinsZ sZ σZ HZ (fun v H1 => v = .ref f ∧ H1 = HZ) IZ ⟨.ref f, here, rfl, rfl⟩) ?_)
  rintro u s1 ⟨v, H1, J, rv, ev, eH⟩
  subst ev
  rw [eH] at J
  cases (show u = Value.ref f from rv)
  have un : Un (frs X.stack) [] H HZ s.heap s1.heap := J.base
  have isF1 := un.keep f _ isF noF noFr (fun z => nomatch (show f ∈ ([] : List Addr) from z))
  refine PySem.W.callWith_F0 ⟨_, _, _, _, isF1⟩ ?_
  obtain ⟨⟨oc, vs, t, oc1, oc2, oc3⟩, _, _⟩ := J.hok c' _ isC
  have runs : codeAny (model X.prog X.w) (X.A.deeper (envOfC qg sg s.heap.objs.size g cdg)) (.call (.ref f) ⟨[], []⟩) (CR (L2.CX X.prog X.w) (envOfC qg sg s.heap.objs.size g cdg :: X.stack) X.prog X.w HZ s1 Q E) s1 := by
    refine PySem.W.kla_callFunE room.r.depth isF1 rfl L.co L.gen rfl ⟨c', oc, vs, t, rfl, oc1, oc2, oc3⟩ ?_
    rw [none_]
    refine wpAny_pure (wpAny_newFunctionEnv (fun y hy => (L.own y hy).2) (fun y hy => absurd hy (by simp)) (fun h₁ hns hsb => ⟨J.nolimit.fresh _ hsb, ?_⟩) L.kind)
    show codeAny _ _ (.expr body (LamX.lamEnv X scope s1.heap.objs.size f c')) _ _
    have kept : ∀ b o, s1.heap.get? b = some o → h₁.get? b = some o := fun b o e => hsb.extBut b o (Nat.ne_of_lt (Heap.lt_size e)) (Heap.get?_push_of_some _ e)
    have J1 : Inv (LamX.lamCx X (X.A.deeper (envOfC qg sg s.heap.objs.size g cdg)) (envOfC qg sg s.heap.objs.size g cdg :: X.stack) s1 HZ E scope f c') [] σ HZ { s1 with heap := h₁, toks := s1.toks + ([] : List (Str × Value)).length } := LamX.lam_start2 I L J.env0 room.r.hd un hns kept
    refine PySem.W.kla_codeExpr (wpAny_mono ((read _ _ s1 HZ (room.deeper _)).run [] _ _ HZ Q J1 pre) ?_ fun _ _ e => e)
    rintro v s' ⟨w, H', J2, rw', q⟩
    exact ⟨w, H', J2.os, J2.bare, J2.base, J2.hok, rw', q⟩
  refine wpAny_call (codeAny_mono runs ?_)
  intro r s' h
  match r, h with
  | .error e, h => exact passes_call tk wish pinsZ σZ HZ s1 e s' J h
  | .ok (.ret u), h => exact J.after h
  | .ok .next, h => exact h.elim
  | .ok .brk, h => exact h.elim
  | .ok .cont, h => exact h.elim
def tLamP (P : Addr) (T : List (Addr × Str)) (TT : (XK → Hp → VK → Prop) → Hp → VK → Prop) (t : XK → TE) : TE := fun σ H Q => LamX.Tabs T H ∧ ∀ H1, Wrote P H H1 → LamX.Tabs T H1 → TT (fun E H' Q' => t E σ H' Q') H1 Q
theorem pe_lamP {T : List (Addr × Str)} {TT : (XK → Hp → VK → Prop) → Hp → VK → Prop} {x a : Str} {g c P : Addr} {k : Nat} {pg : Arguments} {bg : List Stmt} {sg : Scope} {dV kV doc pm cdv ct oc : Value} {an od : Option Addr} {osl : Array (Option Value)} {Ng : List Str} {params : Arguments} {body : Expr} {scope : Scope} {t : XK → TE} {p lpos pos : Pos}
    (gl : Gl X x) (at_ : X.mg x = some (.ref g)) (kp : PySem.W.keepIn X.K (.ref g) = true) (look : X.K.lookup g = some ⟨oc, od, .func (PySem.W.fnOf x x pg bg sg dV kV doc pm an cdv ct), osl⟩) (cg : PySem.W.codeIn X.K cdv x = true) (bi : L2.Binds X.K (PySem.W.fnOf x x pg bg sg dV kV doc pm an cdv ct) [a] []) (Sg : FnScope Ng [a] sg)
    (first : Ng[0]? = some a) (va : Vis sg a) (gives : LamX.GivesTo X Ng x sg g cdv bg a (X.env.qual ++ "<lambda>") TT) (TB : LamX.TabB X.base X.mg c P) (code : X.env.code = .ref c) (inT : (P, X.env.qual ++ "<lambda>") ∈ T) (one : ∀ p ∈ T, p.1 = P → p.2 = X.env.qual ++ "<lambda>") (room : RoomG (k + 2) X.A) (L : LamX.LamS X.env.scope scope)
    (noDef : defaultsOf params X.env = ([], [])) (none_ : ∀ (q : Str) (cl : List (Str × Addr)) (pm cv ctv : Value), bindArgs (PySem.W.kla_fn "<lambda>" q params body scope cl pm cv ctv) ⟨[], []⟩ = pure [])
    (read : ∀ (A : Around) (outer : List Env) (s : Shared) (H : Hp) (E : XK) (f c' : Addr), RoomG k (A.deeper (LamX.lamEnv X scope s.heap.objs.size f c')) → PE (LamX.lamCx X A outer s H E scope f c') body (t E))
    (d1 : (x == ("__debug__" : Str)) = false := by decide) (d2 : (a == ("__debug__" : Str)) = false := by decide) (d3 : (a == ("__classdict__" : Str)) = false := by decide) : PE X (.Call (.Name x p) [.Lambda params body scope lpos] [] pos) (tLamP P T TT t) := by
  constructor
  rintro pins s σ H Q I ⟨tabs, pre⟩
  refine wpAny_Call_Name_kw (ld_glob I gl at_ ?_ d1)
  refine PySem.W.callWith_K (h₀ := X.base) I.ok.mod.kin kp ?_ (by rfl) (by rfl)
  show wpAny _ _ (spliced ((false, eval (.Lambda params body scope lpos) X.env) :: backTo pos (starEach [] X.env))) _ _ s
  refine Calls.spliced_cons (made_lam I TB code inT one tabs noDef (L.has I.ok) ?_)
  intro f c' pm' ctv H1 s' I1 wrote tabs1 isF noF noFr isC
  refine Calls.spliced_nil ⟨I1.kIn, ?_⟩
  have runs : codeAny (model X.prog X.w) X.A (.call (.ref g) ⟨[.ref f], []⟩) (CR C8.CX0 X.stack X.prog X.w H1 s' Q C8.E0) s' := by
    refine LamX.run_ofS (N := Ng) (ps := [a]) (us := [.ref f]) (vs := [.ref f]) look cg Sg room.r I1.env0 (bi s' [.ref f] I1.kIn rfl) (.cons rfl .nil) rfl fun room' => ?_
    have act := gives f c' s' H1 Q (fun E H' Q' => t E σ H' Q') (fun W pn xe E p1 p2 tk hW => act_lam (i := 0) I1 L isF noF noFr (none_ _ _ _ _ _) tk hW ⟨room', room.g⟩ (fun A outer s H r2 => read A outer s H E f c' r2) first va d2 d3) isC (pre H1 wrote tabs1)
    obtain ⟨t', ht, hq⟩ := act
    exact ⟨t', ht.nox, hq⟩
  refine wpAny_call (codeAny_mono runs ?_)
  intro r s2 h
  match r, h with
  | .ok (.ret u), h => exact I1.after h
  | .error _, h => exact h.elim
  | .ok .next, h => exact h.elim
  | .ok .brk, h => exact h.elim
  | .ok .cont, h => exact h.elim
end
end Fw

set_option linter.all false
set_option maxRecDepth 100000
set_option maxHeartbeats 4000000
namespace Fw
open PySem PySem.Spec PyProof.Rows L2
/-! ### f(lambda: ..), f a def that calls what it got and tells what came of it -/
def fzS : Slot → Slot
  | .d x => .d x
  | _ => .u
def fz (sl : List Slot) : List Slot := sl.map fzS
section
variable {G : Gm} {U : Hp} {pn pn' : Pn} {E : XK} {e : Ev} {σ : L2.St} {H B H' B' H1 B1 : Hp}
theorem slots_fz (s : Same B B') : ∀ {σ : L2.St} {ρ : List Slot} {os : List Addr}, Slots G pn B H σ ρ os → Slots G pn' B' H' σ (fz ρ) []
  | _, _, _, .nil => .nil
  | _, _, _, .u t => .u (slots_fz s t)
  | _, _, _, .d r t => .d (r.same s) (slots_fz s t)
  | _, _, _, .o _ t => .u (slots_fz s t)
  | _, _, _, .p _ t => .u (slots_fz s t)
  | _, _, _, .fo _ t => .u (slots_fz s t)
  | _, _, _, .me t => .u (slots_fz s t)
/-- what the lambda's body tells of the names as they stand -/
def lamD (f : FG D) (sl : List Slot) : Option (Rs D) := (f ⟨fz sl, pen0⟩).map (·.1)
def PostT (G : Gm) (U : Hp) (B : Hp) (Q : VK) (E : XK) : Rs D → Prop
  | .v d => ∀ v H' B' p', Base U none p' H' B' → Same B B' → Rz G B' v d → Q v H'
  | .x c ns ds => ∀ cls ao H' B' p', Base U none p' H' B' → Same B B' → XAt G B' H' cls ao c ns ds → E cls ao H'
def Tl (G : Gm) (K1 : Hp) (tl : XK → Hp → VK → Prop) (g : Option (Rs D)) : Prop := ∀ r, g = some r → ∀ (E : XK) (U H B : Hp) (p : PenS) (Q : VK), Base U none p H B → Same K1 B → PostT G U B Q E r → tl E H Q
theorem base0 {p p' : PenS} (b : Base U none p H B) : Base U none p' H B := ⟨b.bh, b.uh, b.bu, (fun q hq => by cases hq), (fun q hq => by cases hq)⟩
theorem tl_of {t : XK → TE} {f : FG D} (h : ∀ E, CE G none E (t E) f) (rl : Rl G U pn e σ H B) : Tl G B (fun E H' Q' => t E σ H' Q') (lamD f e.sl) := by
  intro r hg E U2 H2 B2 p Q b s post
  obtain ⟨⟨r', p'⟩, hf, hr⟩ := Option.map_eq_some_iff.mp hg
  cases hr
  obtain ⟨os, ss, _, _⟩ := rl.s
  refine h E U2 ⟨fz e.sl, pen0⟩ σ H2 B2 _ p' Q ⟨base0 b, [], slots_fz s ss, .nil, fun q hq => by cases hq⟩ hf ?_
  cases r' with
  | v d => exact fun v H' B' rl' s' _ rz => post v H' B' _ rl'.b s' rz
  | x c ns ds => exact fun cls ao H' B' b' s' x => post cls ao H' B' _ b' s' x
def actG (g : Option (Rs D)) : FG D := fun e => match e.sl[0]? with
  | some (Slot.f) => g.map fun r => (r, e.pen)
  | _ => none
def tAct (f c' : Addr) (q : Str) (tl : Hp → VK → Prop) : TE := fun σ H Q => σ[0]? = some (some (.ref f)) ∧ H c' = some (LamX.CodeO c' q) ∧ tl H Q
theorem ce_act {qi : PnI} {c' : Addr} {q : Str} {tl : XK → Hp → VK → Prop} {g : Option (Rs D)} (hZ : (c', LamX.CodeO c' q) ∈ qi.Z) (T : Tl G qi.K tl g) : CE G (some qi) E (tAct qi.F c' q (tl E)) (actG g) := by
  intro U e σ H B r p' Q rl hf post
  unfold actG at hf
  split at hf
  · next h0 =>
    obtain ⟨r', hr, hp⟩ := Option.map_eq_some_iff.mp hf
    cases hp
    obtain ⟨os, ss, _, _⟩ := rl.s
    obtain ⟨q', hs, hq⟩ := ss.getF h0
    cases hq
    obtain ⟨_, _, h3, h4⟩ := rl.b.tab qi rfl
    refine ⟨hs, (h3 _ hZ).1, T _ hr E (outU none B H) H B pen0 Q rl.call0 h4 ?_⟩
    cases r with
    | v d =>
      intro v H' B' p2 b s rz
      obtain ⟨rl', k⟩ := rl.after0 b s
      exact post v H' B' rl' s k rz
    | x c ns ds =>
      intro cls ao H' B' p2 b s x
      obtain ⟨rl', k⟩ := rl.after0 b s
      exact post cls ao H' B' rl'.b s x
  · cases hf
/-- the def's reading: F of what the lambda tells -/
def whyRun (N : Nat) (F : Option (Rs D) → FS) (g : Option (Rs D)) (p : PenS) : Option (D × PenS) := match F g ⟨.f :: List.replicate (N - 1) .u, p⟩ with
  | some (.rt d, e') => some (d, e'.pen)
  | some (.nx, e') => some (.none, e'.pen)
  | _ => none
def TTw (G : Gm) (N : Nat) (F : Option (Rs D) → FS) : (XK → Hp → VK → Prop) → Hp → VK → Prop := fun tl H Q => ∃ (q0 : PnI) (U B : Hp) (g : Option (Rs D)) (p p' : PenS) (d : D), Base U (some q0) p H B ∧ Tl G B tl g ∧ whyRun N F g p = some (d, p') ∧
  ∀ v H' B', Base U (some q0) p' H' B' → Same B B' → Rz G B' v d → Q v H'
theorem base_more {q0 : PnI} {f : Addr} {Z : List (Addr × HO)} {p : PenS} (b : Base U (some q0) p H B) (hz : ZAt H Z) : Base U (some { q0 with F := f, Z := Z ++ q0.Z, K := B }) p H B := by
  refine ⟨b.bh, b.uh, b.bu, fun q hq => ?_, fun q hq => ?_⟩
  · cases hq; exact b.pen q0 rfl
  · cases hq
    obtain ⟨h1, h2, h3, h4⟩ := b.tab q0 rfl
    exact ⟨h1, h2, fun z m => (List.mem_append.mp m).elim (hz z) (h3 z), Same.refl _⟩
theorem base_less {q0 : PnI} {f : Addr} {Z : List (Addr × HO)} {K1 : Hp} {p : PenS} (b : Base U (some { q0 with F := f, Z := Z ++ q0.Z, K := K1 }) p H B) (s : Same q0.K B) : Base U (some q0) p H B := by
  refine ⟨b.bh, b.uh, b.bu, fun q hq => ?_, fun q hq => ?_⟩
  · cases hq
    have h := b.pen _ rfl
    exact h
  · cases hq
    obtain ⟨h1, h2, h3, h4⟩ := b.tab _ rfl
    exact ⟨h1, h2, fun z m => h3 z (List.mem_append_right _ m), s⟩
/-- a def that calls what it got: its body's reading -/
theorem why_gives {X : Cx} {Ng : List Str} {x a q : Str} {sg : Scope} {g : Addr} {cdg : Value} {bg : List Stmt} {F : Option (Rs D) → FS} {N : Nat} (hN : Ng.length = N) (hN1 : 1 ≤ N)
    (body : ∀ (f c' : Addr) (s : Shared) (H : Hp) (tl : XK → Hp → VK → Prop),
      (∀ (W : WX) (pn : List (Addr × Obj)) (xe : Value → Shared → Prop) (E : XK) (p1 p2 : Pos), Takes ((cxOf C8.CX0 X.prog X.w X.K X.mg X.base Ng x sg g cdg X.A X.stack s H C8.E0).tr pn xe) W → (∀ cls d σ' H', E cls d H' → W cls d σ' H') → PE ((cxOf C8.CX0 X.prog X.w X.K X.mg X.base Ng x sg g cdg X.A X.stack s H C8.E0).tr pn xe) (.Call (.Name a p1) [] [] p2) (tAct f c' q (tl E))) →
      ∃ t, PSs (cxOf C8.CX0 X.prog X.w X.K X.mg X.base Ng x sg g cdg X.A X.stack s H C8.E0).nox bg t ∧ ∀ (qi : PnI) (g' : Option (Rs D)), qi.F = f → (c', LamX.CodeO c' q) ∈ qi.Z → Tl G qi.K tl g' → CS G (some qi) E0 t (F g')) :
    LamX.GivesTo X Ng x sg g cdg bg a q (TTw G N F) := by
  intro f c' s H Q tl act isC pre
  obtain ⟨q0, U, B, g', p, p', d, b, T, hr, post⟩ := pre
  obtain ⟨t, h1, h2⟩ := body f c' s H tl act
  refine ⟨t, h1, ?_⟩
  have hz : ZAt H [(c', LamX.CodeO c' q)] := fun z m => by
    cases List.mem_singleton.mp m
    exact ⟨isC, by unfold LamX.CodeO; trivial⟩
  have b1 := base_more (f := f) b hz
  have hK := (b.tab q0 rfl).2.2.2
  unfold whyRun at hr
  have rl : Rl G U (some { q0 with F := f, Z := [(c', LamX.CodeO c' q)] ++ q0.Z, K := B }) ⟨.f :: List.replicate (N - 1) .u, p⟩ (L2.start Ng [.ref f]) H B := by
    refine ⟨b1, [], ?_, .nil, fun q hq => by cases hq⟩
    unfold L2.start
    rw [hN]
    exact .fo (q := { q0 with F := f, Z := [(c', LamX.CodeO c' q)] ++ q0.Z, K := B }) rfl (Slots.us _)
  have run := h2 { q0 with F := f, Z := [(c', LamX.CodeO c' q)] ++ q0.Z, K := B } g' rfl (List.mem_append_left _ (.head _)) T
  split at hr
  · next d' e' he =>
    cases hr
    exact run U _ _ H B _ _ _ rl he fun v H' B' b' s' rz => post v H' B' (base_less b' (hK.trans s')) s' rz
  · next e' he =>
    cases hr
    exact run U _ _ H B _ _ _ rl he fun σ' H' B' rl' s' => post .non H' B' (base_less rl'.b (hK.trans s')) s' .non
  · cases hr
def whyG (N : Nat) (F : Option (Rs D) → FS) (f : FG D) : FG D := fun e => (whyRun N F (lamD f e.sl) e.pen).map fun r => (.v r.1, r.2)
theorem base_wrote {q0 : PnI} {p : PenS} {P : Addr} {nm : Str} (b : Base U (some q0) p H B) (hP : (P, nm) ∈ q0.T) (w : Wrote P H H1) (t : LamX.Tabs q0.T H1) : Base U (some q0) p H1 B := by
  obtain ⟨h1, h2, h3, h4⟩ := b.tab q0 rfl
  obtain ⟨n1, n2⟩ := h1 _ hP
  refine ⟨fun a o h => w _ _ (b.bh _ _ h) (ne_of_none h n1), fun a o h => w _ _ (b.uh _ _ h) (ne_of_none h n2), b.bu, fun q hq => ?_, fun q hq => ?_⟩
  · cases hq
    obtain ⟨p1, p2, p3, p4⟩ := b.pen q0 rfl
    obtain ⟨ps, hp, _⟩ := h2 _ hP
    exact ⟨p1, p2, w _ _ p3 (fun z => by rw [z, hp] at p3; cases p3), p4⟩
  · cases hq
    refine ⟨h1, t, fun z hz => ?_, h4⟩
    obtain ⟨z1, z2⟩ := h3 z hz
    obtain ⟨ps, hp, _⟩ := h2 _ hP
    exact ⟨w _ _ z1 (fun y => by rw [y, hp] at z1; rw [← Option.some.inj z1] at z2; exact z2), z2⟩
theorem Rl.wrote {q0 : PnI} {P : Addr} {nm : Str} (rl : Rl G U (some q0) e σ H B) (hP : (P, nm) ∈ q0.T) (w : Wrote P H H1) (t : LamX.Tabs q0.T H1) : Rl G U (some q0) e σ H1 B := by
  obtain ⟨b, os, ss, n, f⟩ := rl
  refine ⟨base_wrote b hP w t, os, ss.grow (Same.refl _) (fun q hq => ?_), n, f⟩
  obtain ⟨o, ho⟩ := ss.there hq
  rw [ho]
  exact w _ _ ho fun z => ((f q hq).2.2 q0 rfl).2 _ hP z
theorem Keep.wrote {q0 : PnI} {P : Addr} {nm : Str} (hP : (P, nm) ∈ q0.T) (w : Wrote P H H1) : Keep (some q0) H H1 := fun a o h n => w a o h fun z => (n q0 rfl).2 _ hP z
theorem ce_lam {q0 : PnI} {P : Addr} {nm : Str} {T : List (Addr × Str)} {N : Nat} {F : Option (Rs D) → FS} {t : XK → TE} {f : FG D} (hT : q0.T = T) (hP : (P, nm) ∈ T) (h : ∀ E, CE G none E (t E) f) : CE G (some q0) E (tLamP P T (TTw G N F) t) (whyG N F f) := by
  subst hT
  intro U e σ H B r p' Q rl hf post
  unfold whyG at hf
  obtain ⟨⟨d, p2⟩, hw, hr⟩ := Option.map_eq_some_iff.mp hf
  cases hr
  refine ⟨(rl.b.tab q0 rfl).2.1, fun H1 w t1 => ?_⟩
  have rl1 := rl.wrote hP w t1
  refine ⟨q0, outU (some q0) B H1, B, lamD f e.sl, e.pen, _, d, rl1.call1, tl_of h rl1, hw, fun v H' B' b s rz => ?_⟩
  obtain ⟨rl', k⟩ := rl1.after1 b s
  exact post v H' B' rl' s ((Keep.wrote hP w).trans k) rz
end
end Fw

set_option linter.all false
set_option maxRecDepth 100000
set_option maxHeartbeats 4000000
namespace Fw
open PySem PySem.Spec PyProof.Rows L2
/-! ### what is not told -/
theorem pss_no {X : Cx} {b : List Stmt} : PSs X b (fun _ _ _ => False) := ⟨fun _ _ _ _ _ _ h => h.elim⟩
def noS : FS := fun _ => none
theorem cs_no {G : Gm} {pn : Pn} {E : XK} {t : TS} : CS G pn E t noS := fun _ _ _ _ _ _ _ _ _ h _ => by cases h
/-! ### a def as a value, and a call of it -/
section
variable {G : Gm} {U : Hp} {pn : Pn} {E : XK} {e : Ev} {σ : L2.St} {H B H' B' H1 B1 : Hp}
theorem ce_fnv {c : Str} {a : Addr} (h : G.X c = some a) : CE G pn E (tC (.ref a)) (retG (fnD c)) := ce_const fun _ => .fn h
def tCallS (i : Nat) (L : List (Addr × Sp)) (E : XK) (t : TA) : TE := fun σ H Q => ∃ a sp, (a, sp) ∈ L ∧ σ[i]? = some (some (.ref a)) ∧ t σ H fun vs H1 => sp vs H1 Q E
structure Cand (X : Cx) (cx : CXT) (p : Addr × Sp) : Prop where
  ex : ∃ (fd : FuncData) (ps : List Str) (lv : Nat), FnG X.prog X.w X.K X.mg X.base cx lv p.1 fd ps p.2 ∧ PySem.W.keepIn X.K (.ref p.1) = true ∧ Binds X.K fd ps [] ∧ RoomG lv X.A
theorem pe_callS {X : Cx} {cx : CXT} {L : List (Addr × Sp)} {i : Nat} {x : Str} {p pos : Pos} {e : Expr} {es : List Expr} {t : TA} {E : XK} (hL : ∀ q ∈ L, Cand X cx q) (at_ : X.N[i]? = some x) (vis : Vis X.env.scope x) (out : Passes cx X E) (as : PA X (e :: es) t)
    (d1 : (x == ("__debug__" : Str)) = false := by decide) (d2 : (x == ("__classdict__" : Str)) = false := by decide) (h1 : starEach (e :: es) X.env = (false, eval e X.env) :: starEach es X.env := by rfl) (h2 : (backTo pos (starEach es X.env)).any (·.1) = false := by rfl) : PE X (.Call (.Name x p) (e :: es) [] pos) (tCallS i L E t) := by
  constructor
  rintro pins s σ H Q I ⟨a, sp, m, here, pre⟩
  obtain ⟨fd, ps, lv, F, kp, bi, room⟩ := hL _ m
  refine wpAny_Call_Name_kw (thn ((pe_var (pos := p) (i := i) at_ vis d1 d2).run pins s σ H (fun v H1 => v = .ref a ∧ H1 = H) I ⟨.ref a, here, rfl, rfl⟩) ?_)
  rintro u s1 ⟨v, H1, J, rv, ev, eH⟩
  subst ev
  rw [eH] at J
  cases (show u = Value.ref a from rv)
  exact PySem.W.callWith_K (h₀ := X.base) J.ok.mod.kin kp (thn (as.run pos pins s1 σ H _ J pre) fun us s2 z => match z with
    | ⟨ws, H2, J2, r, q⟩ => ⟨J2.kIn, runG F room bi .nil out J2 r (by rw [List.append_nil]; exact q)⟩) h1 h2
def fnOf (d : D) : Option Str := match d with
  | .dict [(.bool true, .str c)] => some c
  | _ => none
def pickF (c : Str) : List (Str × FF) → Option FF
  | [] => none
  | k :: r => if c = k.1 then some k.2 else pickF c r
def callS (n i : Nat) (cs : List (Str × FF)) (f : FG (List D)) : FG D := bindG (slotD i) fun d => match (fnOf d).bind fun c => pickF c cs with
  | some F => callX n F f
  | none => fun _ => none
theorem fnOf_eq {d : D} {c : Str} (h : fnOf d = some c) : d = fnD c := by
  unfold fnOf at h
  split at h
  · cases h; rfl
  · cases h
theorem Rz.fn_inv {v : V} {c : Str} (h : Rz G B v (fnD c)) : ∃ a, v = .ref a ∧ G.X c = some a := by
  unfold fnD at h
  generalize hd : PyData.dict [(PyData.bool true, PyData.str c)] = d at h
  cases h with
  | fn h =>
    cases hd
    exact ⟨_, rfl, h⟩
  | dk h hs =>
    exfalso
    rename_i ks ds
    cases ks with
    | nil => cases hd
    | cons k ks => cases ds with
      | nil => cases hd
      | cons d ds => obtain ⟨k, u⟩ := k; cases k <;> cases hd
  | dt h hs =>
    exfalso
    rename_i ks ds
    cases ks with
    | nil => cases hd
    | cons k ks => cases ds with
      | nil => cases hd
      | cons d ds => cases hd
  | ins h h2 h3 hs => cases hd
  | _ => cases hd
inductive CsOk (G : Gm) (n : Nat) : List (Addr × Sp) → List (Str × FF) → Prop
  | nil : CsOk G n [] []
  | cons {c : Str} {a : Addr} {F : FF} {L : List (Addr × Sp)} {cs : List (Str × FF)} (h : G.X c = some a) (t : CsOk G n L cs) : CsOk G n ((a, spX G false n F) :: L) ((c, F) :: cs)
theorem CsOk.pick {n : Nat} {L : List (Addr × Sp)} {cs : List (Str × FF)} (h : CsOk G n L cs) {c : Str} {a : Addr} {F : FF} (hc : G.X c = some a) (hp : pickF c cs = some F) : (a, spX G false n F) ∈ L := by
  induction h with
  | nil => cases hp
  | @cons c' a' F' L cs hX t ih =>
    unfold pickF at hp
    by_cases z : c = c'
    · rw [if_pos z] at hp
      cases hp
      subst z
      cases hc.symm.trans hX
      exact .head _
    · rw [if_neg z] at hp
      exact .tail _ (ih hp)
theorem ce_callS {n i : Nat} {L : List (Addr × Sp)} {cs : List (Str × FF)} {f : FG (List D)} {t : TA} (hL : CsOk G n L cs) (h : CA G pn E t f) : CE G pn E (tCallS i L E t) (callS n i cs f) := by
  intro U e σ H B r p' Q rl hf post
  rcases bind_inv hf with ⟨c, ns, ds, hx, rfl⟩ | ⟨d, q, hx, hg⟩
  · unfold slotD at hx
    split at hx <;> cases hx
  · unfold slotD at hx
    split at hx
    · next y hy =>
      cases hx
      obtain ⟨v, hv, rz⟩ := rl.get hy
      cases hF : (fnOf d).bind fun c => pickF c cs with
      | none =>
        exfalso
        simp only [hF] at hg
        cases hg
      | some F =>
        simp only [hF] at hg
        obtain ⟨c, hc1, hc2⟩ := Option.bind_eq_some_iff.mp hF
        cases fnOf_eq hc1
        obtain ⟨a, rfl, ha⟩ := rz.fn_inv
        refine ⟨a, _, hL.pick ha hc2, hv, ?_⟩
        have z := ce_callX (n := n) (F := F) h U ⟨e.sl, e.pen⟩ σ H B r p' Q rl hg post
        unfold tCall at z
        simpa only [List.append_nil] using z
    · cases hx
end
end Fw

set_option linter.all false
set_option maxRecDepth 100000
set_option maxHeartbeats 4000000
namespace Fw
open PySem PySem.Spec PyProof.Rows L2
theorem fnG_of0 {Pr : Program} {wo : World} {K : PySem.W.Frag} {mg : Str → Option Value} {base : Heap} {cx : CXT} {n : Nat} {f : Addr} {fd : FuncData} {ps N : List Str} {sp : Sp} {x qual : Str} {st : Stmt} (F : Fun K x qual st f fd) (S : FnScope N ps (defScope st)) (len : ∀ ws H Q E, sp ws H Q E → ws.length = ps.length)
    (bd : ∀ (cdv : Value) (A : Around) (fr : List Env) (s : Shared) (H : Hp) (ws : List V) (Q : VK) (E : XK), RoomG n (A.deeper (envOfC qual (defScope st) s.heap.objs.size f cdv)) → sp ws H Q E →
      ∃ t, PSs (cxOf cx Pr wo K mg base N qual (defScope st) f cdv A fr s H E).nox (defBody st) t ∧ t { nx := fun _ H' => Q .non H', rt := Q } (L2.start N ws) H) : FnG Pr wo K mg base cx (n + 1) f fd ps sp :=
  fnG_of F S len fun cdv A fr s H ws Q E room pre => by
    obtain ⟨t, h, q⟩ := bd cdv A fr s H ws Q E room pre
    exact ⟨t, h.nox, q⟩
/-! ### a law that hands lambdas to a def: its end -/
/-- the def that calls what it got, as it stands in the text -/
structure WhyAt (K : PySem.W.Frag) (mg : Str → Option Value) (x a : Str) (st : Stmt) (g : Addr) : Prop where
  m : mg x = some (.ref g)
  k : PySem.W.keepIn K (.ref g) = true
  ex : ∃ (oc : Value) (od : Option Addr) (kV doc pm : Value) (an : Option Addr) (cdv ct : Value) (osl : Array (Option Value)), K.lookup g = some ⟨oc, od, .func (PySem.W.fnOf x x (defArgs st) (defBody st) (defScope st) .none kV doc pm an cdv ct), osl⟩ ∧ PySem.W.codeIn K cdv x = true ∧ Binds K (PySem.W.fnOf x x (defArgs st) (defBody st) (defScope st) .none kV doc pm an cdv ct) [a] []
def LawG (P : Program) (w : World) (K : PySem.W.Frag) (mg : Str → Option Value) (base : Heap) (f : Addr) (fd : FuncData) (x : Str) (sp : Sp) : Prop :=
  ∀ (s : Shared) (H : Hp) (u : Value) (v : V) (Q : VK), Env0 P w K mg base callerA [] s H → BindsTo s fd ⟨[u], []⟩ [(x, u)] → RelV v u → sp [v] H Q (fun _ _ _ => False) → codeAny (model P w) callerA (.call (.ref f) ⟨[u], []⟩) (CR CX0 [] P w H s Q fun _ _ _ => False) s
theorem lawG_of {P : Program} {w : World} {K : PySem.W.Frag} {mg : Str → Option Value} {base : Heap} {x name qual : Str} {f : Addr} {N : List Str} {k : Nat} {sp : Sp} {oc kV doc pm cdv ct : Value} {od an : Option Addr} {osl : Array (Option Value)} {params : Arguments} {body : List Stmt} {scope : Scope}
    (look : K.lookup f = some ⟨oc, od, .func (PySem.W.fnOf name qual params body scope .none kV doc pm an cdv ct), osl⟩) (code : PySem.W.codeIn K cdv qual = true) (S : FnScope N [x] scope) (room : RoomG (k + 1) callerA)
    (bd : ∀ (s : Shared) (H : Hp) (v : V) (Q : VK), RoomG k (callerA.deeper (envOfC qual scope s.heap.objs.size f cdv)) → sp [v] H Q (fun _ _ _ => False) →
      ∃ t, PSs (cxOf CX0 P w K mg base N qual scope f cdv callerA [] s H fun _ _ _ => False).nox body t ∧ t { nx := fun _ H' => Q .non H', rt := Q } (L2.start N [v]) H) : LawG P w K mg base f (PySem.W.fnOf name qual params body scope .none kV doc pm an cdv ct) x sp := by
  intro s H u v Q e0 bi rv pre
  have inK : K.In s.heap := e0.mod.kin.keeps fun b o e => And.left (e0.bs b o e)
  have kinds : ∀ z ∈ [x].zip [u], scope.names.lookup z.1 = some .local ∨ (scope.names.lookup z.1 = some .cell ∧ ((cellsFrom (s.heap.objs.size + 1) scope.names []).lookup z.1).isSome = true) := by
    rintro ⟨n, m⟩ hz
    exact (S.par n (List.of_mem_zip hz).1).imp id fun c => ⟨c, PySem.W.cellsFrom_some _ _ _ (Or.inl c)⟩
  refine codeAny_call_function room.r.depth (inK _ _ look) rfl S.co S.gen rfl (PySem.W.codeRec_of inK code) (bi _ _ _ _ (wpAny_newFunctionEnv_cells S.kind kinds ?_))
  rintro env rfl s1 born
  refine ⟨(e0.mod.nolimit.keeps fun b o e => And.left (e0.bs b o e)).keeps born.toInCall.keep, codeAny_func ?_⟩
  obtain ⟨t, run, post⟩ := bd s H v Q (room.deeper _) pre
  have I := (inv_start (CX := CX0) (E := fun _ _ _ => False) S room.r.hd e0 (vs := [v]) rfl (.cons rv .nil) born).wish (fun _ _ => False)
  have out : ∀ (z : V) (y : Value) (σ : L2.St) (H' : Hp) (s' : Shared), Inv (cxOf CX0 P w K mg base N qual scope f cdv callerA [] s H fun _ _ _ => False).nox [] σ H' s' → RelV z y → Q z H' → L2.CE [] P w H s Q y s' := fun z y σ H' s' J r q => ⟨z, H', J.os, J.bare, J.base, J.hok, r, q⟩
  refine wpAny_mono (run.run [] s1 (L2.start N [v]) H _ I post) (fun fl s' e => ?_) fun _ _ e => False.elim e
  match fl, e with
  | .ret y, ⟨z, σ, H', J, r, q⟩ => exact out z y σ H' s' J r q
  | .next, ⟨σ, H', J, q⟩ => exact out .non .none σ H' s' J rfl q
  | .brk, ⟨_, _, _, q⟩ => exact q.elim
  | .cont, ⟨_, _, _, q⟩ => exact q.elim
/-! the start: the script and the tables are known, nothing else -/
def st0 (K : PySem.W.Frag) (ts : List Addr) (a : Addr) (vs : List Value) (ns : List Int) : Hp := fun b => if b ∈ ts then some (.tbl #[]) else if b = a ∧ K.lookup a = none then some (.frz { cls := .type "list", data := .seq vs.toArray } (.lst (ns.map V.int))) else none
theorem law_atT {P : Program} {w : World} {K : PySem.W.Frag} {mg mb : Str → Option Value} {fa a : Addr} {fd : FuncData} {x : Str} {sp : Sp} {s : Shared} {vs : List Value} {ns : List Int} {cs : List (Addr × Addr)} (inK : K.In s.heap) (main : s.heap.Ns mainGlobals mg) (blt : s.heap.Ns builtinsNs mb) (boot : ∀ x : Str, x ≠ "__name__" → mb x = bootBuiltins x) (lim : s.heap.NoLimit) (gens : s.gens = #[])
    (isT : ∀ p ∈ cs, s.heap.get? p.2 = some { cls := .none, data := .fields #[] }) (notK : ∀ p ∈ cs, K.lookup p.2 = none) (codes : ∀ p ∈ cs, PySem.W.CodeHd s.heap p.1 p.2) (bmain : ∃ (bm : Addr) (ob : Obj), mg "__builtins__" = some (.ref bm) ∧ bm ≠ builtinsNs ∧ s.heap.get? bm = some ob ∧ ob.cls = .type "module" ∧ ob.dict = some builtinsNs ∧ ob.data = .plain)
    (obj : s.heap.get? a = some { cls := .type "list", data := .seq vs.toArray }) (allI : IntsAre vs ns) (small : ns.length ≤ sizeLine) (F : ∀ base : Heap, K.In base → base.Ns mainGlobals mg → (∀ p ∈ cs, LamX.TabB base mg p.1 p.2) → LawG P w K mg base fa fd x sp) (bi : ∀ (s : Shared) (u : Value), BindsTo s fd ⟨[u], []⟩ [(x, u)])
    (pre : ∀ H : Hp, (∀ p ∈ cs, H p.2 = some (.tbl #[])) → SqL K H a (ns.map V.int) → sp [.ref a] H (fun v _ => v = .bl true) fun _ _ _ => False) : codeAny (model P w) callerA (.call (.ref fa) ⟨[.ref a], []⟩) (fun r s' => r = .ok (.ret (.bool true)) ∧ OldK s.heap s'.heap ∧ s'.os = s.os ∧ AllBare s'.gens) s := by
  have vals := vals_ints allI
  have onT : ∀ b ∈ cs.map (·.2), s.heap.get? b = some { cls := .none, data := .fields #[] } := fun b hb => by
    obtain ⟨p, hp, rfl⟩ := List.mem_map.mp hb
    exact isT p hp
  have inT : ∀ p ∈ cs, p.2 ∈ cs.map (·.2) := fun p hp => List.mem_map.mpr ⟨p, hp, rfl⟩
  have aT : a ∉ cs.map (·.2) := fun z => by
    have e := obj.symm.trans (onT a z)
    cases (show Data.seq vs.toArray _ = Data.fields #[] from congrArg Obj.data (Option.some.inj e))
  have is : ∀ {b : Addr} {u : HO}, st0 K (cs.map (·.2)) a vs ns b = some u → (b ∈ cs.map (·.2) ∧ u = .tbl #[]) ∨ (b = a ∧ K.lookup a = none ∧ u = .frz { cls := .type "list", data := .seq vs.toArray } (.lst (ns.map V.int))) := by
    intro b u e
    unfold st0 at e
    split at e
    · next h => cases e; exact .inl ⟨h, rfl⟩
    · split at e
      · next h => cases e; exact .inr ⟨h.1, h.2, rfl⟩
      · cases e
  have hid : ∀ {b : Addr} {o : Obj}, s.heap.get? b = some o → (∀ ws n, o.data ≠ .seq ws n) → o.data ≠ .fields #[] → (hidT s.heap (st0 K (cs.map (·.2)) a vs ns)).get? b = some o := fun {b o} e h1 h2 => hidT_get e (by
    cases q : st0 K (cs.map (·.2)) a vs ns b with
    | none => rfl
    | some u =>
      rcases is q with ⟨h, _⟩ | ⟨rfl, _, _⟩
      · rw [onT b h] at e; cases e; exact absurd rfl h2
      · rw [obj] at e; cases e; exact absurd rfl (h1 _ _))
  have spaces : ∀ {b : Addr} {m : Str → Option Value}, s.heap.Ns b m → (hidT s.heap (st0 K (cs.map (·.2)) a vs ns)).Ns b m := by
    rintro b m ⟨o, es, ep, e, d, r⟩
    exact ⟨o, es, ep, hid e (fun ws n z => by rw [d] at z; cases z) (fun z => by rw [d] at z; cases z), d, r⟩
  have kept : K.In (hidT s.heap (st0 K (cs.map (·.2)) a vs ns)) := fun b o e => hidT_get (inK b o e) (by
    cases q : st0 K (cs.map (·.2)) a vs ns b with
    | none => rfl
    | some u =>
      rcases is q with ⟨h, _⟩ | ⟨rfl, n, _⟩
      · obtain ⟨p, hp, ep⟩ := List.mem_map.mp h
        rw [← ep, notK p hp] at e; cases e
      · rw [n] at e; cases e)
  have heapOk : HOk P w (st0 K (cs.map (·.2)) a vs ns) s.heap := by
    intro b u e
    rcases is e with ⟨h, rfl⟩ | ⟨rfl, _, rfl⟩
    · exact onT b h
    · exact ⟨obj, by rw [List.length_map]; exact small, vs, _, vals, obj⟩
  have seen : SqL K (st0 K (cs.map (·.2)) a vs ns) a (ns.map V.int) := by
    cases k : K.lookup a with
    | none => exact Or.inl (Or.inr ⟨_, (if_neg aT).trans (if_pos ⟨rfl, k⟩)⟩)
    | some o =>
      have same := (inK a o k).symm.trans obj
      cases same
      exact Or.inr ⟨_, vs.toArray, _, k, rfl, rfl, rfl, by rw [List.size_toArray, allI.length]; exact small, by simpa using vals⟩
  have tabs : ∀ p ∈ cs, LamX.TabB (hidT s.heap (st0 K (cs.map (·.2)) a vs ns)) mg p.1 p.2 := fun p hp => by
    have tp := isT p hp
    refine ⟨?_, ?_, fun z => ?_⟩
    · obtain ⟨o, us, file, tf, flags, tg, inF, text, tt, e1, r1, r2, r3, r4, r5, r6, r7, r8, ne⟩ := codes p hp
      refine ⟨o, us, file, tf, flags, tg, inF, text, tt, hid e1 (fun ws n z => by rw [r2] at z; cases z) (fun z => ?_), r1, r2, r3, r4, r5, r6, r7, r8, ne⟩
      rw [r2] at z
      cases z
      simp at r3
    · obtain ⟨bm, ob, b1, b2, b3, b4, b5, b6⟩ := bmain
      refine ⟨bm, ob, b1, b2, fun q => ?_, fun q => ?_, hid b3 (fun ws n z => by rw [b6] at z; cases z) (fun z => by rw [b6] at z; cases z), b4, b5, b6⟩
      · obtain ⟨o, es, ep, e, d, _⟩ := main
        rw [q, e] at b3
        cases b3
        rw [d] at b6
        cases b6
      · rw [q, tp] at b3
        cases b3
        cases b6
    · obtain ⟨o, es, ep, e, d, _⟩ := main
      rw [z, tp] at e
      cases e
      cases d
  have env : Env0 P w K mg (hidT s.heap (st0 K (cs.map (·.2)) a vs ns)) callerA [] s (st0 K (cs.map (·.2)) a vs ns) :=
    { frames := rfl, mod := ⟨kept, spaces main, ⟨mb, spaces blt, boot⟩, lim.elim fun mc h => ⟨mc, spaces h.1, h.2⟩⟩, bs := fun b o e => of_hidT e, bsz := Nat.le_of_eq (hidT_size _ _), funs := trivial, frf := fun b h => (nomatch (show b ∈ ([] : List Addr) from h)), hok := heapOk, bare := .of_eq gens }
  refine codeAny_mono (F _ kept (spaces main) tabs s _ (.ref a) (.ref a) _ env (bi s (.ref a)) rfl (pre _ (fun p hp => if_pos (inT p hp)) seen)) ?_
  intro r s' h
  match r, h with
  | .error _, h => exact False.elim h
  | .ok .next, h => exact False.elim h
  | .ok .brk, h => exact False.elim h
  | .ok .cont, h => exact False.elim h
  | .ok (.ret y), ⟨z, H', os, bare, un, ok', rel, q⟩ =>
    subst q
    cases rel
    have stays : ∀ b o, b ∉ cs.map (·.2) → s.heap.get? b = some o → s'.heap.get? b = some o := fun b o nb e => by
      cases c : st0 K (cs.map (·.2)) a vs ns b with
      | none => exact un.keep b o e c (fun m => nomatch (show b ∈ ([] : List Addr) from m)) (fun m => nomatch m)
      | some u =>
        rcases is c with ⟨h, _⟩ | ⟨rfl, _, rfl⟩
        · exact absurd h nb
        · have old := (heapOk b _ c).1
          have new := (ok' b _ (un.frzs b _ _ c)).1
          exact new.trans (old.symm.trans e)
    have more : ∀ p ∈ cs, ∃ m : Array Value, s'.heap.get? p.2 = some { cls := .none, data := .fields m } := fun p hp => by
      obtain ⟨m, z⟩ := un.tbls p.2 #[] (if_pos (inT p hp))
      exact ⟨_, ok' p.2 _ z⟩
    refine ⟨rfl, ⟨fun b o e => ?_, fun b o e => ?_⟩, os, bare⟩
    · by_cases hb : b ∈ cs.map (·.2)
      · obtain ⟨p, hp, ep⟩ := List.mem_map.mp hb
        obtain ⟨m, hm⟩ := more p hp
        rw [← ep] at e ⊢
        rw [isT p hp] at e
        cases e
        exact .inr (.inl ⟨((codes p hp).tab (isT p hp)).isCodeTable, rfl, #[], m, rfl, by rw [Array.empty_append]; exact hm⟩)
      · exact .inl (stays b o hb e)
    · by_cases hb : b ∈ cs.map (·.2)
      · obtain ⟨p, hp, ep⟩ := List.mem_map.mp hb
        obtain ⟨m, hm⟩ := more p hp
        rw [← ep]
        exact ⟨_, hm⟩
      · exact ⟨o, stays b o hb e⟩
/-- the facts about the def «law» at the head's heap -/
def LawAt (l : PySem.W.OpenLaw) (w : World) (K : PySem.W.Frag) (n : Nat) (x : Str) (mg : Str → Option Value) (fa : Addr) (h : Heap) : Prop :=
  ∃ (fd : FuncData) (cs : List (Addr × Addr)) (sp : Sp), (∀ p ∈ cs, h.get? p.2 = some { cls := .none, data := .fields #[] }) ∧ (∀ p ∈ cs, K.lookup p.2 = none) ∧ (∀ p ∈ cs, PySem.W.CodeHd h p.1 p.2) ∧ (∀ (s : Shared) (u : Value), BindsTo s fd ⟨[u], []⟩ [(x, u)]) ∧
    (∀ (H : Hp) (a : Addr) (ns : List Int), ns.length ≤ n → (∀ p ∈ cs, H p.2 = some (.tbl #[])) → SqL K H a (ns.map V.int) → sp [.ref a] H (fun v _ => v = .bl true) fun _ _ _ => False) ∧
    ∀ base : Heap, K.In base → base.Ns mainGlobals mg → (∀ p ∈ cs, LamX.TabB base mg p.1 p.2) → LawG l.prog w K mg base fa fd x sp
/-- the law's own code object and its table, in the head's heap -/
def OwnT (fa : Addr) (h : Heap) : Prop := ∃ (c P : Addr) (o : Obj) (fd : FuncData), h.get? fa = some o ∧ o.data = .func fd ∧ fd.code = .ref c ∧ h.get? P = some { cls := .none, data := .fields #[] } ∧ PySem.W.CodeHd h c P
theorem OwnT.at {K : PySem.W.Frag} {fa c P : Addr} {h : Heap} (own : OwnT fa h) (inK : K.In h) {oc kV doc pm ct : Value} {od an : Option Addr} {osl : Array (Option Value)} {name qual : Str} {params : Arguments} {body : List Stmt} {scope : Scope} (look : K.lookup fa = some ⟨oc, od, .func (PySem.W.fnOf name qual params body scope .none kV doc pm an (.ref c) ct), osl⟩)
    {e : Value} {dd : Option Addr} {vs : Array Value} {sl : Array (Option Value)} (lc : K.lookup c = some ⟨e, dd, .fields vs, sl⟩) (at_ : vs[11]? = some (.ref P)) : h.get? P = some { cls := .none, data := .fields #[] } ∧ PySem.W.CodeHd h c P := by
  obtain ⟨c2, P2, o, fd, h1, h2, h3, h4, h5⟩ := own
  cases (inK _ _ look).symm.trans h1
  cases h2
  cases (show Value.ref c = Value.ref c2 from h3)
  obtain ⟨o2, us, file, tf, flags, tg, inF, text, tt, e1, r1, r2, r3, r⟩ := id h5
  cases (inK _ _ lc).symm.trans e1
  cases (show Data.fields vs = Data.fields us from r2)
  cases at_.symm.trans r3
  exact ⟨h4, h5⟩
theorem walk_T {l : PySem.W.OpenLaw} {n : Nat} {q : Program} {loose : List Str} {XP : (Str → Option Value) → Heap → Prop} {YP : World → Heap → Prop} {d : DefRec} {x : Str} (most : l.most = some n) (small : n ≤ sizeLine) (noDef : d.params.defaults = []) (rec_ : ((recsOf q).any fun e => e.name == d.name) = true)
    (F : ∀ (w : World) (mg : Str → Option Value) (fa : Addr) (h : Heap), YP w h → h.Ns mainGlobals mg → mg d.name = some (.ref fa) → ∃ K : PySem.W.Frag, K.In h ∧ (OwnT fa h → LawAt l w K n x mg fa h)) :
    PySem.W.WalkO q loose XP YP l.row.toRowW d [] (fun f vs => PySem.call f vs) := by
  refine Att.attach_callB most noDef fun w s₀ s₁ mg mb fa o pm cd doc a vs ns G Y ho hd hcd hmg obj isI len bits gens => ?_
  obtain ⟨K, inK, go⟩ := F w mg fa _ Y G.T.g hmg
  have own : OwnT fa s₁.heap := by
    obtain ⟨dL, hm, hn⟩ := List.any_eq_true.mp rec_
    have hn2 : dL.name = d.name := beq_iff_eq.mp hn
    obtain ⟨a', o', fd', c', P', h1, h2, h3, h4, h5, h6⟩ := G.T.tab dL hm
    rw [hn2, hmg] at h1
    cases h1
    exact ⟨c', P', o', fd', h2, h3, h4, h6.2, PySem.W.CodeHd.of h5 h6⟩
  obtain ⟨fd, cs, sp, hT, nT, C, hb, hsp, hF⟩ := go own
  exact law_atT inK G.T.g G.T.b G.T.builtins G.T.nolimit gens hT nT C G.T.bmain obj isI (Nat.le_trans len small) hF hb fun H hH hS => hsp H a ns len hH hS
end Fw

set_option linter.all false
set_option maxRecDepth 100000
set_option maxHeartbeats 4000000
namespace Fw
open PySem PySem.Spec PyProof.Rows L2
/-! ### lists that are handed in and changed later: g = [.., ..]; x = f(g[0], ..); g[0][0], .. = .. -/
section
variable {G : Gm} {U : Hp} {pn : Pn} {E : XK} {e : Ev} {σ : L2.St} {H B H' B' H1 B1 : Hp}
theorem Base.subU {U1 : Hp} {p : PenS} (b : Base U pn p H B) (s : Same U1 U) : Base U1 pn p H B := by
  have no : ∀ c, U c = none → U1 c = none := fun c h => by
    cases h1 : U1 c with
    | none => rfl
    | some x => rw [s c x h1] at h; cases h
  refine ⟨b.bh, s.trans b.uh, fun c x h => no c (b.bu c x h), fun q hq => ?_, fun q hq => ?_⟩
  · obtain ⟨h1, h2, h3, h4⟩ := b.pen q hq
    exact ⟨h1, no _ h2, h3, h4⟩
  · obtain ⟨h1, h2⟩ := b.tab q hq
    exact ⟨fun t ht => ⟨(h1 t ht).1, no _ (h1 t ht).2⟩, h2⟩
theorem Rl.subU {U1 : Hp} (r : Rl G U pn e σ H B) (s : Same U1 U) : Rl G U1 pn e σ H B := by
  obtain ⟨b, os, ss, n, f⟩ := r
  refine ⟨b.subU s, os, ss, n, fun q hq => ⟨(f q hq).1, ?_, (f q hq).2.2⟩⟩
  cases h1 : U1 q with
  | none => rfl
  | some x => have := (f q hq).2.1; rw [s q x h1] at this; cases this
structure Nw (G : Gm) (B U U' : Hp) (ps : List Addr) (ds : List D) : Prop where
  len : ps.length = ds.length
  at_ : ∀ (k : Nat) (p : Addr) (d : D), ps[k]? = some p → ds[k]? = some d → U p = none ∧ ∃ xs es, d = .list es ∧ U' p = some (.lst xs) ∧ RzA G B xs es
def CN (G : Gm) (pn : Pn) (E : XK) (ta : TA) (fa : FG (List D)) : Prop := ∀ U e σ H B r p' Q, Rl G U pn e σ H B → fa e = some (r, p') →
  (match r with
    | .v ds => ∀ ps H' B' U', Rl G U' pn ⟨e.sl, p'⟩ σ H' B' → Same B B' → Keep pn H H' → Same U U' → Nw G B' U U' ps ds → Q (ps.map V.ref) H'
    | .x c ns ds => ∀ cls ao H' B', Base U pn p' H' B' → Same B B' → XAt G B' H' cls ao c ns ds → E cls ao H') → ta σ H Q
theorem cn_nil : CN G pn E tNil (retG []) := by
  intro U e σ H B r p' Q rl hf post
  cases hf
  exact post [] H B U rl (Same.refl _) Keep.refl (Same.refl _) ⟨rfl, fun k p d h => by simp at h⟩
def isLst : D → Bool
  | .list _ => true
  | _ => false
def lstOnly (f : FG D) : FG D := bindG f fun d => if isLst d = true then retG d else fun _ => none
theorem cn_cons {t : TE} {u : TA} {f : FG D} {g : FG (List D)} (h1 : CF G pn E t f) (h2 : CN G pn E u g) : CN G pn E (tCons t u) (consG (lstOnly f) g) := by
  intro U e σ H B r p' Q rl hf post
  rcases bind_inv hf with ⟨c, ns, ds, hx, rfl⟩ | ⟨a, q, hx, hg⟩
  · unfold lstOnly at hx
    rcases bind_inv hx with ⟨c', ns', ds', hx', hr⟩ | ⟨a', q', hx', hg'⟩
    · cases hr
      exact h1 U e σ H B _ _ _ rl hx' post
    · split at hg' <;> cases hg'
  · unfold lstOnly at hx
    rcases bind_inv hx with ⟨c', ns', ds', hx', hr⟩ | ⟨a', q', hx', hg'⟩
    · cases hr
    split at hg'
    · next hl =>
      cases hg'
      refine h1 U e σ H B _ _ _ rl hx' fun p H1 B1 fr s1 k1 => ?_
      obtain ⟨o, ho, hno⟩ := fr.o.atC
      obtain ⟨os, ss, nn, ff, np⟩ := fr.s
      obtain ⟨n1, n2, n3⟩ := fr.n
      obtain ⟨es, rfl⟩ : ∃ es, a = .list es := by cases a <;> first | exact ⟨_, rfl⟩ | cases hl
      obtain ⟨xs, hxs, rxs⟩ : ∃ xs, H1 p = some (.lst xs) ∧ RzA G B1 xs es := by
        have z := fr.o
        cases z with
        | lst h hs => exact ⟨_, h, hs⟩
      rw [hxs] at ho
      cases ho
      have rlU : Rl G (upd U p (.lst xs)) pn ⟨e.sl, q'⟩ σ H1 B1 := by
        refine ⟨⟨fr.b.bh, fun a x hx => ?_, fun a x hx => ?_, fun z hz => ?_, fun z hz => ?_⟩, os, ss, nn, fun z hz => ?_⟩
        · by_cases y : a = p
          · rw [y, upd_same] at hx; rw [y, hxs]; exact hx
          · rw [upd_ne y] at hx; exact fr.b.uh a x hx
        · rw [upd_ne (ne_of_none hx n1)]; exact fr.b.bu a x hx
        · obtain ⟨a1, a2, a3, a4⟩ := fr.b.pen z hz
          exact ⟨a1, (upd_ne (fun y => (n3 z hz).1 y.symm)).trans a2, a3, a4⟩
        · obtain ⟨a1, a2, a3⟩ := fr.b.tab z hz
          exact ⟨fun t ht => ⟨(a1 t ht).1, (upd_ne (fun y => (n3 z hz).2 t ht y.symm)).trans (a1 t ht).2⟩, a2, a3⟩
        · obtain ⟨a1, a2, a3⟩ := ff z hz
          exact ⟨a1, (upd_ne (fun y => np (by rw [← y]; exact hz))).trans a2, a3⟩
      have sU : Same U (upd U p (.lst xs)) := same_upd n2
      rcases bind_inv hg with ⟨c, ns, ds, hx2, rfl⟩ | ⟨as, q2, hx2, hg2⟩
      · exact h2 _ ⟨e.sl, q'⟩ σ H1 B1 _ _ _ rlU hx2 fun cls ao H' B' b s x => post cls ao H' B' (b.subU sU) (s1.trans s) x
      · cases hg2
        refine h2 _ ⟨e.sl, q'⟩ σ H1 B1 _ _ _ rlU hx2 fun ps H2 B2 U2 rl2 s2 k2 sU2 nw => ?_
        refine post (p :: ps) H2 B2 U2 rl2 (s1.trans s2) (k1.trans k2) (sU.trans sU2) ⟨congrArg (· + 1) nw.len, fun k p' d hp hd => ?_⟩
        cases k with
        | zero =>
          cases hp
          cases hd
          exact ⟨n2, xs, es, rfl, sU2 _ _ upd_same, rxs.same s2⟩
        | succ k =>
          obtain ⟨m1, m2⟩ := nw.at_ k p' d (by simpa using hp) (by simpa using hd)
          refine ⟨?_, m2⟩
          cases h : U p' with
          | none => rfl
          | some x => rw [sU _ _ h] at m1; cases m1
    · cases hg'
/-- data without lists does not look at lists -/
def cutB (ps : List Addr) (B : Hp) : Hp := fun a => if a ∈ ps then none else B a
theorem cutB_no {ps : List Addr} {a : Addr} (h : a ∉ ps) : cutB ps B a = B a := if_neg h
theorem cutB_sub {ps : List Addr} : Same (cutB ps B) B := fun a o h => by
  unfold cutB at h
  split at h
  · cases h
  · exact h
theorem noL_zip {ks ds : List D} : noLk (ks.zip ds) = true → ks.length = ds.length → noLA ds = true := by
  induction ks generalizing ds with
  | nil => intro _ hl; cases ds with
    | nil => intros; rfl
    | cons => cases hl
  | cons k ks ih =>
    intro h hl
    cases ds with
    | nil => cases hl
    | cons d ds =>
      have h' : (noL d && noLk (ks.zip ds)) = true := h
      simp only [Bool.and_eq_true] at h'
      show (noL d && noLA ds) = true
      rw [h'.1, ih h'.2 (by simpa using hl)]
      rfl
mutual
theorem Rz.drp {ps : List Addr} (hp : ∀ p ∈ ps, ∃ xs, B p = some (.lst xs)) : ∀ {v : V} {d : D}, Rz G B v d → noL d = true → Rz G (cutB ps B) v d
  | _, _, .non, _ => .non
  | _, _, .bl b, _ => .bl b
  | _, _, .int i, _ => .int i
  | _, _, .str x, _ => .str x
  | _, _, .lst h hs, n => by cases n
  | _, _, .tup h hs, n => by
    exact .tup ((cutB_no fun m => by obtain ⟨xs, e⟩ := hp _ m; rw [h] at e; cases e).trans h) (RzA.drp hp hs n)
  | _, _, .kt (ds := ds) h hs, n => .kt h (RzA.drp hp hs (by
      have n' : (noL (.tuple ds) && true) = true := n
      rw [Bool.and_true] at n'
      exact n'))
  | _, _, .dk (ks := ks) (ds := ds) h hs, n => .dk ((cutB_no fun m => by obtain ⟨xs, e⟩ := hp _ m; rw [h] at e; cases e).trans h) (RzA.drp hp hs (noL_vals n (by rw [← hs.length, List.length_map])))
  | _, _, .dt (ks := ks) (ds := ds) h hs, n => .dt ((cutB_no fun m => by obtain ⟨xs, e⟩ := hp _ m; rw [h] at e; cases e).trans h) (RzA.drp hp hs (noL_zip (ks := ks.map fun k => keyT k.1) (show noLk ((ks.map fun k => keyT k.1).zip ds) = true from n) (by rw [← hs.length, List.length_map, List.length_map])))
  | _, _, .ins (c := c0) (fs := fs) (ds := ds) h h2 h3 hs, n => .ins ((cutB_no fun m => by obtain ⟨xs, e⟩ := hp _ m; rw [h] at e; cases e).trans h) ((cutB_no fun m => by obtain ⟨xs, e⟩ := hp _ m; rw [h2] at e; cases e).trans h2) h3
      (RzA.drp hp hs (noL_zip (ks := (fs.map (·.1)).map PyData.str) (Bool.and_eq_true_iff.mp (show (noL (.str c0) && noLk (((fs.map (·.1)).map PyData.str).zip ds)) = true from n)).2 (by rw [← hs.length, List.length_map, List.length_map, List.length_map])))
  | _, _, .fn h, _ => .fn h
theorem RzA.drp {ps : List Addr} (hp : ∀ p ∈ ps, ∃ xs, B p = some (.lst xs)) : ∀ {vs : List V} {ds : List D}, RzA G B vs ds → noLA ds = true → RzA G (cutB ps B) vs ds
  | _, _, .nil, _ => .nil
  | _, _, .cons h t, n => by
    have n' := Bool.and_eq_true_iff.mp (show (noL _ && noLA _) = true from n)
    exact .cons (Rz.drp hp h n'.1) (RzA.drp hp t n'.2)
end
theorem ownA_two {x : Option V} {y y' : Slot} : ∀ (σ : L2.St) (ρ : List Slot) (i : Nat), isO (some y) = false → isO (some y') = false → ownA (σ.set i x) (ρ.set i y) = ownA (σ.set i x) (ρ.set i y')
  | [], _, _, _, _ => by rw [List.set_nil]; rfl
  | _ :: _, [], i, _, _ => by rw [List.set_nil, List.set_nil]
  | _ :: σ, _ :: ρ, 0, h, h' => (ownA1_no (x := x) (y := y) (r := ownA σ ρ) h).trans (ownA1_no (x := x) (y := y') (r := ownA σ ρ) h').symm
  | z :: σ, w :: ρ, i + 1, h, h' => congrArg (ownA1 z w) (ownA_two σ ρ i h h')
def okJ (ds : List D) (js : List (Nat × Nat)) : Bool := js.all fun x => match ds[x.1]? with
  | some (.list es) => decide (x.2 < es.length) && decide (es.length ≠ ds.length)
  | _ => false
theorem okJ_at {ds : List D} {js : List (Nat × Nat)} (h : okJ ds js = true) {x : Nat × Nat} (m : x ∈ js) : ∃ es, ds[x.1]? = some (.list es) ∧ x.2 < es.length ∧ es.length ≠ ds.length := by
  have z := List.all_eq_true.mp h x m
  split at z
  · next es he =>
    rw [Bool.and_eq_true, decide_eq_true_eq, decide_eq_true_eq] at z
    exact ⟨es, he, z.1, z.2⟩
  · cases z
def tgs (K : PySem.W.Frag) (i : Nat) : List (Nat × Nat) → TGs
  | [] => gNil
  | x :: r => gCons (gSub (tOp (uIx K) (tVar i) (tC (.int (x.1 : Int)))) (tC (.int (x.2 : Int))) rSetL) (tgs K i r)
def givenS (i j : Nat) (fa : FG (List D)) (fb : FG D) (js : List (Nat × Nat)) (fc : FG D) : FS := fun e => match fa e with
  | some (.v ds, p1) => if (i < e.sl.length ∧ j < e.sl.length ∧ i ≠ j) ∧ ds.length ≤ 1000 then (match fb ⟨e.sl.set i (.d (.list ds)), p1⟩ with
    | some (.v d, p2) => if noL d = true then (match fc ⟨(e.sl.set i .u).set j (.d d), p2⟩ with
      | some (.v (.tuple vs), p3) => if vs.length = js.length ∧ okJ ds js = true then some (.nx, ⟨(e.sl.set i .u).set j (.d d), p3⟩) else none
      | _ => none) else none
    | _ => none) else none
  | _ => none
/-- where the lists stand, while they are written -/
structure Tr (H : Hp) (p : Addr) (refs : List Addr) : Prop where
  p : H p = some (.lst (refs.map V.ref))
theorem at_ref {refs : List Addr} {k : Nat} {a : Addr} (h : refs[k]? = some a) : atI (refs.map V.ref) (k : Int) = some (.ref a) := by
  have l := (List.getElem?_eq_some_iff.mp h).1
  unfold atI ixN
  rw [List.length_map, if_pos (by omega), if_pos (by omega)]
  show (refs.map V.ref)[(k : Int).toNat]? = _
  rw [Int.toNat_natCast, List.getElem?_map, h]
  rfl
theorem ixN_nat {n m : Nat} (h : m < n) : ixN n (m : Int) = some m := by
  unfold ixN
  rw [if_pos (by omega), if_pos (by omega), Int.toNat_natCast]
theorem swap_at {p : Addr} {o o' : HO} (hno : NoC o) (h : U p = some o) (r : Rl G U pn e σ H B) : Rl G (upd U p o') pn e σ (upd H p o') B := by
  have z : U = upd U p o := by
    funext a
    by_cases y : a = p
    · rw [y, upd_same, h]
    · rw [upd_ne y]
  rw [z] at r
  exact (r.swapU (o' := o') hno).1
theorem stores {i : Nat} {p : Addr} {refs : List Addr} : ∀ (js : List (Nat × Nat)) (vs : List V) (U1 : Hp) (H1 : Hp) (Q : L2.St → Hp → Prop), vs.length = js.length → Rl G U1 pn e σ H1 B1 → Same U U1 → σ[i]? = some (some (.ref p)) → U p = none → U1 p = some (.lst (refs.map V.ref)) →
    (∀ x ∈ js, ∃ a ys, refs[x.1]? = some a ∧ a ≠ p ∧ U a = none ∧ U1 a = some (.lst ys) ∧ x.2 < ys.length) → (∀ U2 H2, Rl G U2 pn e σ H2 B1 → Same U U2 → Q σ H2) → tgs G.K i js vs σ H1 Q
  | [], [], U1, H1, Q, _, rl, sU, _, _, _, _, q => ⟨rfl, q U1 H1 rl sU⟩
  | x :: js, v :: vs, U1, H1, Q, hl, rl, sU, hs, hp, hp1, hx, q => by
    obtain ⟨a, ys, h1, h2, h3, h4, h5⟩ := hx x (.head _)
    refine ⟨v, vs, rfl, .ref p, hs, .inl ⟨p, _, _, _, rfl, rfl, SqL.of (rl.b.uh _ _ hp1), at_ref h1, a, ys, _, x.2, rfl, rfl, rl.b.uh _ _ h4, ixN_nat h5, ?_⟩⟩
    refine stores js vs (upd U1 a (.lst (ys.set x.2 v))) _ Q (by simpa using hl) (swap_at noC_lst h4 rl) (fun c o hc => ?_) hs hp (by rw [upd_ne h2.symm]; exact hp1) (fun y hy => ?_) q
    · have : c ≠ a := fun z => by rw [z, h3] at hc; cases hc
      rw [upd_ne this]
      exact sU _ _ hc
    · obtain ⟨b, zs, g1, g2, g3, g4, g5⟩ := hx y (.tail _ hy)
      by_cases hb : b = a
      · subst hb
        cases g4.symm.trans h4
        exact ⟨b, _, g1, g2, g3, upd_same, by rw [List.length_set]; exact g5⟩
      · exact ⟨b, zs, g1, g2, g3, (upd_ne hb).trans g4, g5⟩
  | [], _ :: _, _, _, _, hl, _, _, _, _, _, _, _ => by cases hl
  | _ :: _, [], _, _, _, hl, _, _, _, _, _, _, _ => by cases hl
theorem cs_given {i j : Nat} {ta : TA} {fa : FG (List D)} {tb tc : TE} {fb fc : FG D} {js : List (Nat × Nat)} (ha : CN G pn E ta fa) (hb : CE G pn E tb fb) (hc : CE G pn E tc fc) :
    CS G pn E (tSeq (tAsg (tLst ta) (gName i)) (tSeq (tAsg tb (gName j)) (tAsg tc (gTup G.K js.length (tgs G.K i js))))) (givenS i j fa fb js fc) := by
  intro U e σ H B r e' Dn rl hf post
  unfold givenS at hf
  split at hf
  · next ds p1 hfa =>
    split at hf
    · next hij =>
      obtain ⟨⟨hi, hj, hne⟩, hlen⟩ := hij
      split at hf
      · next d p2 hfb =>
        split at hf
        · next hnl =>
          split at hf
          · next vs p3 hfc =>
            split at hf
            · next hvs =>
              cases hf
              obtain ⟨hvl, hok⟩ := hvs
              refine ha U e σ H B _ _ _ rl hfa fun ps H4 B4 U4 rl4 s4 k4 sU4 nw => ⟨?_, fun p hp => ?_⟩
              · rw [List.length_map, nw.len]
                exact line_of (by omega)
              -- the lists as data, for the call
              have hls : ∀ {σ : L2.St} {ρ : List Slot} {os : List Addr} {H B : Hp}, Slots G pn B H σ ρ os → σ.length = ρ.length := fun s => s.len
              have isP : ∀ q ∈ ps, U q = none ∧ ∃ xs es, U4 q = some (.lst xs) ∧ RzA G B4 xs es := fun q hq => by
                obtain ⟨k, hk⟩ := List.getElem?_of_mem hq
                have hk' := (List.getElem?_eq_some_iff.mp hk).1
                obtain ⟨h1, xs, es, _, h2, h3⟩ := nw.at_ k q _ hk (List.getElem?_eq_getElem (by rw [← nw.len]; exact hk'))
                exact ⟨h1, xs, es, h2, h3⟩
              have bN : ∀ q ∈ ps, B4 q = none := fun q hq => by
                obtain ⟨_, xs, es, h2, _⟩ := isP q hq
                cases hB : B4 q with
                | none => rfl
                | some o => have := rl4.b.bu _ _ hB; rw [h2] at this; cases this
              have pB : B4 p = none := rl4.b.bh.free hp
              have pU4 : U4 p = none := rl4.b.uh.free hp
              have pU : U p = none := by
                cases hU : U p with
                | none => rfl
                | some o => have := sU4 _ _ hU; rw [pU4] at this; cases this
              have pps : p ∉ ps := fun m => by
                obtain ⟨_, xs, es, h2, _⟩ := isP p m
                rw [pU4] at h2; cases h2
              have rl5 : Rl G (upd U4 p (.lst (ps.map V.ref))) pn ⟨e.sl, p1⟩ σ (upd H4 p (.lst (ps.map V.ref))) B4 := rl4.addU hp
              obtain ⟨B5, hB5⟩ : ∃ B5 : Hp, B5 = fun a => if a = p then some (.lst (ps.map V.ref)) else if a ∈ ps then U4 a else B4 a := ⟨_, rfl⟩
              have b5 : ∀ {a o}, B4 a = some o → B5 a = some o := fun {a o} h => by
                rw [hB5]
                show (if a = p then _ else if a ∈ ps then U4 a else B4 a) = _
                rw [if_neg (ne_of_none h pB), if_neg (show ¬ a ∈ ps from fun m => by rw [bN a m] at h; cases h)]
                exact h
              have b5s : Same B4 B5 := fun a o h => b5 h
              have b5p : B5 p = some (.lst (ps.map V.ref)) := by rw [hB5]; exact if_pos rfl
              have b5q : ∀ q ∈ ps, B5 q = U4 q := fun q m => by
                rw [hB5]
                show (if q = p then _ else if q ∈ ps then U4 q else B4 q) = _
                rw [if_neg (show ¬ q = p from fun z => pps (z ▸ m)), if_pos m]
              have b5n : ∀ a, a ≠ p → a ∉ ps → B5 a = B4 a := fun a h1 h2 => by
                rw [hB5]
                show (if a = p then _ else if a ∈ ps then U4 a else B4 a) = _
                rw [if_neg h1, if_neg h2]
              have base5 : Base U pn p1 (upd H4 p (.lst (ps.map V.ref))) B5 := by
                have bb := rl5.b
                have np := bb.npU (a := p) upd_same
                have npq : ∀ q ∈ ps, NP pn q := fun q m => by
                  obtain ⟨_, xs, es, h2, _⟩ := isP q m
                  exact rl4.b.npU h2
                refine ⟨fun a o h => ?_, fun a o h => bb.uh a o ((upd_ne (ne_of_none (sU4 _ _ h) pU4)).trans (sU4 _ _ h)), fun a o h => ?_, fun q hq => ?_, fun q hq => ?_⟩
                · by_cases z : a = p
                  · rw [z, b5p] at h; rw [z, upd_same]; exact h
                  · rw [upd_ne z]
                    by_cases m : a ∈ ps
                    · rw [b5q a m] at h; exact rl4.b.uh a o h
                    · rw [b5n a z m] at h; exact rl4.b.bh a o h
                · by_cases z : a = p
                  · rw [z]; exact pU
                  · by_cases m : a ∈ ps
                    · exact (isP a m).1
                    · rw [b5n a z m] at h
                      cases hU : U a with
                      | none => rfl
                      | some x => have := sU4 _ _ hU; rw [rl4.b.bu _ _ h] at this; cases this
                · obtain ⟨h1, h2, h3, h4⟩ := bb.pen q hq
                  refine ⟨?_, ?_, h3, b5 h4⟩
                  · rw [b5n _ (fun z => (np q hq).1 z.symm) (fun m => (npq _ m q hq).1 rfl)]; exact h1
                  · cases hU : U q.1 with
                    | none => rfl
                    | some x => have := rl4.b.pen q hq; rw [sU4 _ _ hU] at this; cases this.2.1
                · obtain ⟨h1, h2, h3, h4⟩ := bb.tab q hq
                  refine ⟨fun t ht => ⟨?_, ?_⟩, h2, h3, h4.trans b5s⟩
                  · rw [b5n _ (fun z => (np q hq).2 t ht z.symm) (fun m => (npq _ m q hq).2 t ht rfl)]; exact (h1 t ht).1
                  · cases hU : U t.1 with
                    | none => rfl
                    | some x => have := ((rl4.b.tab q hq).1 t ht).2; rw [sU4 _ _ hU] at this; cases this
              obtain ⟨os, ss, nn, ff⟩ := rl5.s
              have onp : ∀ q ∈ os, q ≠ p ∧ q ∉ ps := fun q hq => by
                have hU := (ff q hq).2.1
                refine ⟨fun z => (by rw [z, upd_same] at hU; cases hU), fun m => ?_⟩
                obtain ⟨_, xs, es, h2, _⟩ := isP q m
                rw [upd_ne (fun z => by rw [z, upd_same] at hU; cases hU)] at hU
                rw [h2] at hU; cases hU
              have rz5 : Rz G B5 (.ref p) (.list ds) := by
                refine .lst b5p ?_
                have go : ∀ (qs : List Addr) (es : List D), qs.length = es.length → (∀ (k : Nat) (q : Addr) (d : D), qs[k]? = some q → es[k]? = some d → q ∈ ps ∧ ∃ xs fs, d = PyData.list fs ∧ U4 q = some (.lst xs) ∧ RzA G B4 xs fs) → RzA G B5 (qs.map V.ref) es := by
                  intro qs
                  induction qs with
                  | nil => intro es hl _; cases es with
                    | nil => exact .nil
                    | cons => cases hl
                  | cons q qs ih =>
                    intro es hl h
                    cases es with
                    | nil => cases hl
                    | cons d es =>
                      obtain ⟨m, xs, fs, rfl, h2, h3⟩ := h 0 q d rfl rfl
                      exact .cons (.lst ((b5q q m).trans h2) (h3.same b5s)) (ih es (by simpa using hl) fun k q' d' a b => h (k + 1) q' d' (by simpa using a) (by simpa using b))
                exact go ps ds nw.len fun k q d a b => ⟨List.mem_of_getElem? a, (nw.at_ k q d a b).2⟩
              have ss5 : Slots G pn B5 (upd H4 p (.lst (ps.map V.ref))) σ e.sl os := ss.grow b5s fun _ _ => rfl
              have rlB : Rl G U pn ⟨e.sl.set i (.d (.list ds)), p1⟩ (σ.set i (some (.ref p))) (upd H4 p (.lst (ps.map V.ref))) B5 := by
                have r0 : Rl G U pn ⟨e.sl, p1⟩ σ (upd H4 p (.lst (ps.map V.ref))) B5 := by
                  refine ⟨base5, os, ss5, nn, fun q hq => ⟨(b5n q (onp q hq).1 (onp q hq).2).trans (ff q hq).1, ?_, (ff q hq).2.2⟩⟩
                  cases hU : U q with
                  | none => rfl
                  | some x =>
                    have h1 := (ff q hq).2.1
                    rw [upd_ne (onp q hq).1] at h1
                    have := sU4 _ _ hU
                    rw [h1] at this
                    cases this
                exact r0.setD rz5 i
              refine hb U _ _ _ B5 _ _ _ rlB hfb fun v H6 B6 rl6 s6 k6 rz6 => ?_
              -- the lists are lists again
              have np := rl5.b.npU (a := p) upd_same
              have npq : ∀ q ∈ ps, NP pn q := fun q m => by
                obtain ⟨_, xs, es, h2, _⟩ := isP q m
                exact rl4.b.npU h2
              have at6 : ∀ q ∈ p :: ps, ∃ xs, B6 q = some (.lst xs) := fun q m => by
                rcases List.mem_cons.mp m with rfl | m
                · exact ⟨_, s6 _ _ b5p⟩
                · obtain ⟨_, xs, es, h2, _⟩ := isP q m
                  exact ⟨xs, s6 _ _ ((b5q q m).trans h2)⟩
              have c6 : Same B4 (cutB (p :: ps) B6) := fun a o h => by
                rw [cutB_no fun m => by
                  rcases List.mem_cons.mp m with rfl | m
                  · rw [pB] at h; cases h
                  · rw [bN a m] at h; cases h]
                exact s6 _ _ (b5 h)
              obtain ⟨U6, hU6⟩ : ∃ U6 : Hp, U6 = fun a => if a ∈ p :: ps then B6 a else U a := ⟨_, rfl⟩
              have u6i : ∀ a, a ∈ p :: ps → U6 a = B6 a := fun a m => by rw [hU6]; exact if_pos m
              have u6o : ∀ a, a ∉ p :: ps → U6 a = U a := fun a m => by rw [hU6]; exact if_neg m
              have uN : ∀ a ∈ p :: ps, U a = none := fun a m => by
                rcases List.mem_cons.mp m with rfl | m
                · exact pU
                · exact (isP a m).1
              have base6 : Base U6 pn p2 H6 (cutB (p :: ps) B6) := by
                have bb := rl6.b
                have npa : ∀ a ∈ p :: ps, NP pn a := fun a m => by
                  rcases List.mem_cons.mp m with rfl | m
                  · exact np
                  · exact npq a m
                refine ⟨cutB_sub.trans bb.bh, fun a o h => ?_, fun a o h => ?_, fun q hq => ?_, fun q hq => ?_⟩
                · by_cases m : a ∈ p :: ps
                  · rw [u6i a m] at h; exact bb.bh a o h
                  · rw [u6o a m] at h; exact bb.uh a o h
                · by_cases m : a ∈ p :: ps
                  · unfold cutB at h; rw [if_pos m] at h; cases h
                  · rw [u6o a m]; exact bb.bu a o (cutB_sub a o h)
                · obtain ⟨h1, h2, h3, h4⟩ := bb.pen q hq
                  have n1 : q.1 ∉ p :: ps := fun m => (npa _ m q hq).1 rfl
                  refine ⟨(cutB_no n1).trans h1, (u6o _ n1).trans h2, h3, c6 _ _ (rl4.b.pen q hq).2.2.2 |>.trans ?_⟩
                  have e1 := rl4.b.pen q hq
                  have e2 := s6 _ _ (b5 e1.2.2.2)
                  exact e2.symm.trans h4
                · obtain ⟨h1, h2, h3, h4⟩ := bb.tab q hq
                  refine ⟨fun t ht => ?_, h2, h3, (rl4.b.tab q hq).2.2.2.trans c6⟩
                  have n1 : t.1 ∉ p :: ps := fun m => (npa _ m q hq).2 t ht rfl
                  exact ⟨(cutB_no n1).trans (h1 t ht).1, (u6o _ n1).trans (h1 t ht).2⟩
              have keep6 : ∀ q ∈ os, H6 q = upd H4 p (.lst (ps.map V.ref)) q := fun q hq => by
                obtain ⟨o, ho⟩ := ss.there hq
                rw [ho]
                exact k6 _ _ ho (ff q hq).2.2
              obtain ⟨os2, ss2, sb2⟩ := Slots.setU (w := some (.ref p)) i ss
              obtain ⟨os', ss', nn', ff'⟩ := rl6.s
              have eo : os' = os2 := by
                rw [ss'.own, ss2.own]
                exact ownA_two σ e.sl i rfl rfl
              have r6 : Rl G U6 pn ⟨e.sl.set i .u, p2⟩ (σ.set i (some (.ref p))) H6 (cutB (p :: ps) B6) := ⟨base6, os2, ss2.grow c6 fun q hq => keep6 q (sb2.subset hq), sb2.nodup nn, fun q hq => by
                have hq0 := sb2.subset hq
                have nm : q ∉ p :: ps := fun m => (List.mem_cons.mp m).elim (onp q hq0).1 (onp q hq0).2
                obtain ⟨f1, f2, f3⟩ := ff' q (by rw [eo]; exact hq)
                exact ⟨(cutB_no nm).trans f1, (u6o q nm).trans f2, f3⟩⟩
              have rdz : Rz G (cutB (p :: ps) B6) v d := rz6.drp at6 hnl
              have r7 : Rl G U6 pn ⟨(e.sl.set i .u).set j (.d d), p2⟩ ((σ.set i (some (.ref p))).set j (some v)) H6 (cutB (p :: ps) B6) := r6.setD rdz j
              refine hc U6 _ _ H6 _ _ _ _ r7 hfc fun y H8 B8 rl8 s8 k8 rz8 => ?_
              obtain ⟨a, xs, rfl, hx, hr⟩ := rz8.tup_inv
              have hsl : i < σ.length := by rw [ss.len]; exact hi
              refine ⟨a, xs, rfl, same_t rl8.b.bh hx, by rw [hr.length, hvl], ?_⟩
              refine stores (U := U) (p := p) (refs := ps) js xs U6 H8 _ (by rw [hr.length, hvl]) rl8 (fun a o h => ?_) ?_ pU ?_ (fun x m => ?_) fun U9 H9 rl9 s9 => ?_
              · rw [u6o a fun m => by rw [uN a m] at h; cases h]; exact h
              · rw [List.getElem?_set_ne (Ne.symm hne), List.getElem?_set_self hsl]
              · rw [u6i p (.head _)]; exact s6 _ _ b5p
              · obtain ⟨es, h1, h2, h3⟩ := okJ_at hok m
                have hk : x.1 < ps.length := by rw [nw.len]; exact (List.getElem?_eq_some_iff.mp h1).1
                obtain ⟨g1, zs, fs, g2, g3, g4⟩ := nw.at_ x.1 ps[x.1] _ (List.getElem?_eq_getElem hk) h1
                cases g2
                have m2 : ps[x.1] ∈ ps := List.getElem_mem hk
                refine ⟨ps[x.1], zs, List.getElem?_eq_getElem hk, fun z => pps (z ▸ m2), g1, ?_, by rw [g4.length]; exact h2⟩
                rw [u6i _ (.tail _ m2)]
                exact s6 _ _ ((b5q _ m2).trans g3)
              · exact post _ H9 B8 (rl9.subU s9) (s4.trans (c6.trans s8))
            · cases hf
          · cases hf
        · cases hf
      · cases hf
    · cases hf
  · cases hf
theorem cs_seq3 {a b c u : TS} {f g : FS} (h1 : CS G pn E (tSeq a (tSeq b c)) f) (h2 : CS G pn E u g) : CS G pn E (tSeq a (tSeq b (tSeq c u))) (seqS f g) := by
  have h := cs_seq (t := tSeq a (tSeq b c)) h1 h2
  exact h
end
theorem cand_nil {X : Cx} {cx : CXT} : ∀ q ∈ ([] : List (Addr × Sp)), Cand X cx q := fun q h => by cases h
theorem cand_cons {X : Cx} {cx : CXT} {p : Addr × Sp} {L : List (Addr × Sp)} (h : Cand X cx p) (t : ∀ q ∈ L, Cand X cx q) : ∀ q ∈ p :: L, Cand X cx q := fun q m => (List.mem_cons.mp m).elim (fun z => z ▸ h) (t q)
theorem name_in {P : Addr} {q ql nm : Str} (h : q = ql) (hn : nm = ql ++ ("<lambda>" : Str)) : (P, q ++ ("<lambda>" : Str)) ∈ [(P, nm)] := by
  subst h; subst hn
  exact .head _
theorem name_one {P : Addr} {q ql nm : Str} (h : q = ql) (hn : nm = ql ++ ("<lambda>" : Str)) : ∀ p ∈ [(P, nm)], p.1 = P → p.2 = q ++ ("<lambda>" : Str) := fun p hp _ => by
  subst h; subst hn
  cases List.mem_singleton.mp hp
  rfl
theorem units80 {n : Nat} {A : Around} (r : Room n A) : A.units + 80 < cLine := by have := r.un; omega
theorem units70 {n : Nat} {A : Around} (r : Room n A) : A.units + 70 < cLine := by have := r.un; omega
end Fw

set_option linter.all false
set_option maxRecDepth 100000
set_option maxHeartbeats 8000000
namespace Fw
open PySem PySem.Spec PyProof.Rows L2
/-! ### how pieces are put together, at a place -/
section
variable {sl : List Slot} {p p1 p2 : PenS}
theorem cons_at {f : FG D} {g : FG (List D)} {a : D} {as : List D} (hf : f ⟨sl, p⟩ = some (.v a, p1)) (hg : g ⟨sl, p1⟩ = some (.v as, p2)) : consG f g ⟨sl, p⟩ = some (.v (a :: as), p2) := by
  unfold consG Fw.bindG; rw [hf]; dsimp only; rw [hg]; rfl
theorem op2_at {f g : FG D} {φ : D → D → Option D} {a b c : D} (hf : f ⟨sl, p⟩ = some (.v a, p1)) (hg : g ⟨sl, p1⟩ = some (.v b, p2)) (h : φ a b = some c) : op2 φ f g ⟨sl, p⟩ = some (.v c, p2) := by
  unfold op2 Fw.bindG; rw [hf]; dsimp only; rw [hg]; dsimp only; unfold optG; rw [h]; rfl
theorem lst_at {f : FG (List D)} {ds : List D} (hf : f ⟨sl, p⟩ = some (.v ds, p1)) (h : ds.length ≤ 1000000) : lstG f ⟨sl, p⟩ = some (.v (.list ds), p1) := by
  unfold lstG Fw.bindG; rw [hf]; dsimp only; unfold optG few; rw [if_pos h]; rfl
theorem tup_at {f : FG (List D)} {ds : List D} (hf : f ⟨sl, p⟩ = some (.v ds, p1)) (h : ds.length ≤ 1000000) : tupG f ⟨sl, p⟩ = some (.v (.tuple ds), p1) := by
  unfold tupG Fw.bindG; rw [hf]; dsimp only; unfold optG few; rw [if_pos h]; rfl
theorem callP_at {n i : Nat} {F : FF} {f : FG (List D)} {ds : List D} {x : D} (hf : f ⟨sl, p⟩ = some (.v ds, p1)) (hn : ds.length = n) (hp : Fw.isP ⟨sl, p⟩ i = true) (hF : F ds p1 = some (.v x, p2)) :
    callP n i F f ⟨sl, p⟩ = some (.v x, p2) := by
  unfold callP; rw [if_pos hp]; unfold Fw.bindG; rw [hf]; dsimp only; rw [if_pos hn, hF]
theorem asg_at {f : FG D} {x : D} (i : Nat) (hf : f ⟨sl, p⟩ = some (.v x, p1)) : asgS f (nameT i) ⟨sl, p⟩ = some (.nx, ⟨sl.set i (.d x), p1⟩) := by
  unfold asgS thenS; rw [hf]; rfl
theorem ret_at {f : FG D} {x : D} (hf : f ⟨sl, p⟩ = some (.v x, p1)) : retS f ⟨sl, p⟩ = some (.rt x, ⟨sl, p1⟩) := by
  unfold retS thenS; rw [hf]
end
theorem seq_at {f g : FS} {e e1 : Ev} {r : Option (Fl × Ev)} (h : f e = some (.nx, e1)) (h2 : g e1 = r) : seqS f g e = r := by
  unfold seqS; rw [h]; exact h2
theorem forL_nx {ft : FT} {body : FS} {d : D} {ds : List D} {e e1 : Ev} {sl : List Slot} {r : Option (Fl × Ev)} (h : ft d e.sl = some sl) (h1 : body ⟨sl, e.pen⟩ = some (.nx, e1)) (h2 : forL ft body ds e1 = r) : forL ft body (d :: ds) e = r := by
  show (match ft d e.sl with
    | none => none
    | some sl => match body ⟨sl, e.pen⟩ with
      | none => none
      | some (.nx, e') => forL ft body ds e'
      | some (.ct, e') => forL ft body ds e'
      | some (.bk, e') => some (.nx, e')
      | some (.rt d, e') => some (.rt d, e')
      | some (.x c ns xs, e') => some (.x c ns xs, e')) = r
  rw [h]
  dsimp only
  rw [h1]
  exact h2
theorem all_cons {P : D → Prop} {a : D} {l : List D} (h : P a) (h2 : ∀ x ∈ l, P x) : ∀ x ∈ a :: l, P x := fun x hx => by
  cases hx with
  | head => exact h
  | tail _ hx => exact h2 x hx
theorem all_nil {P : D → Prop} : ∀ x ∈ ([] : List D), P x := fun x hx => by cases hx
end Fw

set_option linter.all false
set_option maxRecDepth 100000
set_option maxHeartbeats 4000000
namespace Fw
open PySem PySem.Spec PyProof.Rows L2
/-! ### defs with defaults -/
section
variable {Pr : Program} {wo : World} {K : PySem.W.Frag} {mg : Str → Option Value} {base : Heap} {cx : CXT} {n m : Nat} {f : Addr} {fd : FuncData} {ps N : List Str} {sp : Sp}
theorem fnG_ofD {x qual : Str} {st : Stmt} {dvs : List V} {kws : List (Str × V)} (F : FunD K x qual (defArgs st) (defBody st) (defScope st) dvs kws f fd) (S : FnScope N ps (defScope st)) (len : ∀ ws H Q E, sp ws H Q E → ws.length = ps.length)
    (bd : ∀ (cdv : Value) (A : Around) (fr : List Env) (s : Shared) (H : Hp) (ws : List V) (Q : VK) (E : XK), RoomG n (A.deeper (envOfC qual (defScope st) s.heap.objs.size f cdv)) → sp ws H Q E →
      ∃ t, PSs (cxOf cx Pr wo K mg base N qual (defScope st) f cdv A fr s H E) (defBody st) t ∧ t { nx := fun _ H' => Q .non H', rt := Q } (L2.start N ws) H) : FnG Pr wo K mg base cx (n + 1) f fd ps sp := by
  obtain ⟨_, _, _, _, _, _, _, cdv, _, _, rfl, look, code, _, _⟩ := F.ex
  constructor
  · exact len
  intro A fr s H as us ws Q E room e0 bi rv pre
  have same := len _ _ _ _ pre
  have inK : K.In s.heap := e0.mod.kin.keeps fun b o e => And.left (e0.bs b o e)
  have kinds : ∀ z ∈ ps.zip us, (defScope st).names.lookup z.1 = some .local ∨ ((defScope st).names.lookup z.1 = some .cell ∧ ((cellsFrom (s.heap.objs.size + 1) (defScope st).names []).lookup z.1).isSome = true) := by
    rintro ⟨y, v⟩ hz
    exact (S.par y (List.of_mem_zip hz).1).imp id fun c => ⟨c, PySem.W.cellsFrom_some _ _ _ (Or.inl c)⟩
  refine codeAny_call_function room.r.depth (inK _ _ look) rfl S.co S.gen rfl (PySem.W.codeRec_of inK code) (bi _ _ _ _ (wpAny_newFunctionEnv_cells S.kind kinds ?_))
  rintro env rfl s1 born
  refine ⟨(e0.mod.nolimit.keeps fun b o e => And.left (e0.bs b o e)).keeps born.toInCall.keep, codeAny_func ?_⟩
  obtain ⟨t, runs, post⟩ := bd cdv A fr s H ws Q E (room.deeper _) pre
  have I := inv_start (CX := cx) (E := E) S room.r.hd e0 same rv born
  have out : ∀ (z : V) (y : Value) (σ : L2.St) (H' : Hp) (s' : Shared), Inv (cxOf cx Pr wo K mg base N qual (defScope st) f cdv A fr s H E) [] σ H' s' → RelV z y → Q z H' → L2.CE fr Pr wo H s Q y s' := fun z y σ H' s' J r q => ⟨z, H', J.os, J.bare, J.base, J.hok, r, q⟩
  refine wpAny_mono (runs.run [] s1 (L2.start N ws) H _ I post) (fun fl s' e => ?_) fun _ _ e => e
  match fl, e with
  | .ret y, ⟨z, σ, H', J, r, q⟩ => exact out z y σ H' s' J r q
  | .next, ⟨σ, H', J, q⟩ => exact out .non .none σ H' s' J rfl q
  | .brk, ⟨_, _, _, q⟩ => exact q.elim
  | .cont, ⟨_, _, _, q⟩ => exact q.elim
end
section
variable {G : Gm} {P : Program} {w : World} {K : PySem.W.Frag} {mg : Str → Option Value} {base : Heap}
theorem fn_nD {x qual : Str} {st : Stmt} {f : Addr} {fd : FuncData} {N ps : List Str} {k n : Nat} {pen : Bool} {F : FS} {dvs : List V} {kws : List (Str × V)} (Fn : FunD K x qual (defArgs st) (defBody st) (defScope st) dvs kws f fd) (S : FnScope N ps (defScope st)) (hl : ps.length = (if pen = true then 1 else 0) + n)
    (hbody : ∀ (cdv : Value) (A : Around) (outer : List Env) (s : Shared) (H : Hp) (E : XK), RoomG k (A.deeper (envOfC qual (defScope st) s.heap.objs.size f cdv)) →
      ∃ t, PSs (cxOf CX0 P w K mg base N qual (defScope st) f cdv A outer s H E).nox (defBody st) t ∧ ∀ pn, CS G pn E0 t F) : FnG P w K mg base CX0 (k + 1) f fd ps (spN G pen n (defF pen N.length F)) := by
  refine fnG_ofD Fn S (fun vs H Q E h => by rw [spN_len h, hl]) (fun cdv A outer s H vs Q E hr h => ?_)
  obtain ⟨t, h1, h2⟩ := hbody cdv A outer s H E hr
  exact ⟨t, h1.nox, run_n h2 h⟩
theorem Binds.none_of {fd : FuncData} {ps : List Str} (h : ∃ ds, Vals [] ds ∧ Binds K fd ps ds) : Binds K fd ps [] := by
  obtain ⟨ds, h1, h2⟩ := h
  cases h1
  exact h2
end
/-- the errors that a text catches, told apart -/
theorem Exm.of {G : Gm} (L : List (Str × Addr)) (hx : ∀ p ∈ L, G.X p.1 = some p.2) (h : ∀ p ∈ L, ∀ q ∈ L, PySem.W.exmOne G.K (.ref p.2) (.ref q.2) = some (decide (p.1 = q.1))) : Exm G (L.map (·.1)) := by
  intro c hc c' hc' C C' e e'
  obtain ⟨p, hp, rfl⟩ := List.mem_map.mp hc
  obtain ⟨q, hq, rfl⟩ := List.mem_map.mp hc'
  rw [hx p hp] at e
  rw [hx q hq] at e'
  cases e
  cases e'
  exact h p hp q hq
end Fw
namespace Sb
open PySem PySem.Spec PyProof.Rows L2
/-! ### the error classes of the text -/
abbrev veT : List Value := [.type "ValueError", .type "Exception", .type "BaseException", .type "object"]
structure Err (K : PySem.W.Frag) (mg : Str → Option Value) (bm : List Value) (nm : Str) (C : Addr) : Prop where
  g : mg nm = some (.ref C)
  lk : ∃ q N bs sn sub ab col dd k0 k1 k2 k3 k5, K.lookup C = some (excClassObj nm q C N bs bm true sn sub ab col dd k0 k1 k2 k3 k5 "ValueError.__new__")
  sa : PySem.W.findIn K (.ref C) "__setattr__" = some (some (.builtin "object.__setattr__"))
  ga : PySem.W.findIn K (.ref C) "__getattribute__" = some (some (.builtin "BaseException.__getattribute__"))
  gg : PySem.W.findIn K (.ref C) "__getattr__" = some none
  ha : PySem.W.findIn K (.ref C) "__class__" = some (some (.builtin "object.__class__"))
  kC : PySem.W.keepIn K (.ref C) = true
  hn : PySem.W.specialIn K (.builtin "object.__class__") "__get__" = some (some (.builtin "getset_descriptor.__get__"))
  ht : PySem.W.takesIn K (.builtin "object.__class__") = some true
section
variable {K : PySem.W.Frag} {mg : Str → Option Value} {bm bm2 : List Value} {nm nm2 : Str} {C D : Addr}
theorem Err.cls (T : Err K mg bm nm C) : ∃ cd, PySem.W.clsIn K C = some cd ∧ cd.mro = .ref C :: bm ∧ cd.hasDict = true ∧ cd.name = nm := by
  obtain ⟨q, N, bs, sn, sub, ab, col, dd, k0, k1, k2, k3, k5, h⟩ := T.lk
  refine ⟨{ name := nm, bases := bs, mro := .ref C :: bm, ns := N, qualname := q, hasDict := true, slotNames := sn, subclasses := sub, abstract := ab, collection := col, hasDel := false }, ?_, rfl, rfl, rfl⟩
  unfold PySem.W.clsIn
  rw [h] <;> rfl
theorem Err.mro (T : Err K mg bm nm C) (x : Value) : PySem.W.mroIn K C x = some ((Value.ref C :: bm).contains x) := by
  obtain ⟨cd, h, hm, _⟩ := T.cls
  unfold PySem.W.mroIn
  rw [h]
  show (if cd.mro.isEmpty then none else some (cd.mro.contains x)) = _
  rw [hm]
  rfl
theorem Err.isc (T : Err K mg bm nm C) : PySem.W.isClsIn K C = true := by
  obtain ⟨cd, h, _⟩ := T.cls
  unfold PySem.W.isClsIn
  rw [h]
  rfl
theorem Err.hd (T : Err K mg bm nm C) : PySem.W.hasDictIn K C = true := by
  obtain ⟨cd, h, _, hd, _⟩ := T.cls
  unfold PySem.W.hasDictIn
  rw [h]
  exact hd
theorem Err.ty (T : Err K mg bm nm C) : PySem.W.typeIn K (.ref C) = some (.type "type") := by
  obtain ⟨q, N, bs, sn, sub, ab, col, dd, k0, k1, k2, k3, k5, h⟩ := T.lk
  show (K.lookup C).map (·.cls) = _
  rw [h]
  rfl
theorem Err.su (T : Err K mg bm nm C) (h : bm.contains (.type "BaseException") = true) : PySem.W.subIn K (.ref C) (.type "BaseException") = some true := by
  show PySem.W.mroIn K C _ = _
  rw [T.mro, List.contains_cons, h, Bool.or_true]
theorem Err.oex (T : Err K mg bm nm C) (h : bm.contains (.type "BaseException") = true) (hr : PySem.HandSPX.refsVE bm = true) : OexC K C := by
  obtain ⟨q, N, bs, sn, sub, ab, col, dd, k0, k1, k2, k3, k5, h1⟩ := id T.lk
  exact ⟨⟨nm, q, N, bs, bm, sn, sub, ab, col, dd, k0, k1, k2, k3, k5, h1, hr⟩, T.sa, T.su h, T.ty, T.kC⟩
end
theorem hasB {S : Addr} : (Value.ref S :: veT).contains (.type "BaseException") = true := by rw [List.contains_cons, show veT.contains (.type "BaseException") = true from by decide +kernel, Bool.or_true]
theorem refsS {S : Addr} : PySem.HandSPX.refsVE (.ref S :: veT) = true := by
  show PySem.HandSPX.refsVE veT = true
  decide +kernel
theorem Err.xf {K : PySem.W.Frag} {mg : Str → Option Value} {bm : List Value} {nm : Str} {C : Addr} (T : Err K mg bm nm C) (h : bm.contains (.type "BaseException") = true) : XfC K C := ⟨T.ga, T.gg, T.su h, T.hd⟩
end Sb

set_option linter.all false
set_option maxRecDepth 100000
set_option maxHeartbeats 4000000
namespace Fw
open PySem PySem.Spec PyProof.Rows L2
/-! ### len(set(..)) of numbers: how many unlike ones -/
def ddI : List Int → List Int
  | [] => []
  | x :: xs => if x ∈ xs then ddI xs else x :: ddI xs
theorem ddI_mem {y : Int} : ∀ {xs : List Int}, y ∈ ddI xs ↔ y ∈ xs
  | [] => Iff.rfl
  | x :: xs => by
    unfold ddI
    split
    · next h =>
      rw [ddI_mem (xs := xs), List.mem_cons]
      exact ⟨.inr, fun z => z.elim (fun e => e ▸ h) id⟩
    · rw [List.mem_cons, List.mem_cons, ddI_mem (xs := xs)]
theorem ddI_nodup : ∀ {xs : List Int}, (ddI xs).Nodup
  | [] => List.nodup_nil
  | x :: xs => by
    unfold ddI
    split
    · exact ddI_nodup
    · next h => exact List.nodup_cons.mpr ⟨fun z => h (ddI_mem.mp z), ddI_nodup⟩
theorem ddI_only {ks ns : List Int} (h : ks.Nodup) (m : ∀ k, k ∈ ks ↔ k ∈ ns) : ks.length = (ddI ns).length :=
  ((List.perm_ext_iff_of_nodup h ddI_nodup).mpr fun a => (m a).trans ddI_mem.symm).length_eq
theorem met_nodup (f : Nat → Int) : ∀ n, (firstMet f n).Nodup
  | 0 => by rw [firstMet_zero]; exact List.nodup_nil
  | n + 1 => by
    rw [firstMet_succ]
    unfold step_dedup
    split
    · exact met_nodup f n
    · next h =>
      refine List.nodup_append.mpr ⟨met_nodup f n, List.nodup_cons.mpr ⟨fun z => (nomatch z), List.nodup_nil⟩, fun a ha b hb e => ?_⟩
      rw [List.mem_singleton.mp hb] at e
      exact h (List.any_eq_true.mpr ⟨a, ha, by rw [e]; exact beq_self_eq_true _⟩)
theorem any_mem {k : Int} {l : List Int} : l.any (· == k) = true ↔ k ∈ l := by
  rw [List.any_eq_true]
  exact ⟨fun ⟨x, h1, h2⟩ => eq_of_beq h2 ▸ h1, fun h => ⟨k, h, beq_self_eq_true _⟩⟩
theorem range_get (ns : List Int) : (List.range ns.length).map (fun i => ns.getD i 0) = ns := by
  apply List.ext_getElem
  · rw [List.length_map, List.length_range]
  · intro i h1 h2
    rw [List.getElem_map, List.getElem_range, List.getD_eq_getElem?_getD, List.getElem?_eq_getElem h2] <;> rfl
theorem met_mem {ns : List Int} {k : Int} : k ∈ firstMet (fun i => ns.getD i 0) ns.length ↔ k ∈ ns := by
  rw [← any_mem, firstMet_any, range_get, any_mem]
def uLenS (K : PySem.W.Frag) : List V → Hp → VK → Prop := fun xs H Q => ∃ (l : Addr) (ns : List Int), xs = [.ref l] ∧ (SqL K H l (ns.map V.int) ∨ SqT K H l (ns.map V.int)) ∧ ns.length ≤ 4000 ∧ Q (.int ((ddI ns).length : Nat)) H
theorem pe_lenS {X : Cx} {a : Expr} {ta : TE} {p p2 q pos : Pos} (hg : Gl X "len") (hm : X.mg "len" = none) (hg2 : Gl X "set") (hm2 : X.mg "set" = none) (ha : PE X a ta) (hc : X.calm = true := by rfl)
    (na : starEach [a] X.env = (false, eval a X.env) :: starEach [] X.env := by rfl) : PE X (.Call (.Name "len" p) [.Call (.Name "set" p2) [a] [] q] [] pos) (tCB (uLenS X.K) (tCons ta tNil)) := by
  constructor
  intro pins s σ H Q I h
  refine Call_ (ld_blt I hg hm boot_len ?_)
  refine PyProof.Rows.callWith_builtin1 (PyProof.Rows.args_cons ?_ rfl) rfl rfl
  refine Call_ (ld_blt I hg2 hm2 boot_set ?_)
  refine PyProof.Rows.callWith_type1 (PyProof.Rows.args_cons (thn (ha.run pins s σ H _ I h) fun v s1 => ?_) na) na rfl
  rintro ⟨x, H1, J, rx, l, ns, e, sq, most, post⟩
  cases e
  cases rx
  refine PyProof.Rows.args_nil ?_
  rcases sq with sq | sq
  · obtain ⟨its, rv, here, _⟩ := J.list sq
    have size : its.toArray.size = ns.length := by rw [List.size_toArray, ← rv.length, List.length_map]
    refine call_set_list (J.ok.hd hc) here.isList (by simpa using RZ.intsAre_vals rv) (by rw [size]; unfold scanBound; omega) fun h' tk made kept => ?_
    refine PyProof.Rows.args_nil ?_
    rw [size] at made
    obtain ⟨o, es, ep, t, get, ex, dat, _, _, _, fits, num⟩ := made
    have J2 : Inv X pins σ H1 { s1 with heap := h', toks := tk } := J.kept fun b o e => kept b o (Heap.lt_size e) e
    have len : (firstMet (fun i => ns.getD i 0) ns.length).length = (ddI ns).length := ddI_only (met_nodup _ _) fun k => met_mem
    have le : (firstMet (fun i => ns.getD i 0) ns.length).length ≤ ns.length := firstMet_length_le _ _
    exact call_len_set get ex dat fits (by rw [num] <;> omega) ⟨.int (ddI ns).length, H1, J2.tok _, ⟨_, by rw [num, len]⟩, post⟩
  · obtain ⟨its, rv, here, _⟩ := J.tuple sq
    have here2 := here
    refine call_set_tupI ns (J.ok.hd hc) here (by simpa using RZ.intsAre_vals rv) (by unfold scanBound; omega) fun h' tk c made le kept => ?_
    refine PyProof.Rows.args_nil ?_
    obtain ⟨o, es, ep, t, get, ex, dat, _, nodup, mem, bound, fits, num, _⟩ := made
    have J2 : Inv X pins σ H1 { s1 with heap := h', toks := tk } := J.kept fun b o e => kept b o e
    have len : es.size = (ddI ns).length := by
      rw [← ddI_only nodup fun k => (mem k).symm.trans ⟨of_decide_eq_true, decide_eq_true⟩, List.length_map, Array.length_toList]
    exact call_len_set get ex dat fits (by omega) ⟨.int (ddI ns).length, H1, J2.tok _, ⟨_, by rw [len]⟩, post⟩
def dLenS : D → Option D
  | .list ds => (intsD ds).bind fun ns => if ns.length ≤ 4000 then some (.int (ddI ns).length) else none
  | .tuple ds => (intsD ds).bind fun ns => if ns.length ≤ 4000 then some (.int (ddI ns).length) else none
  | _ => none
section
variable {G : Gm} {U : Hp} {pn : Pn} {E : XK} {e : Ev} {σ : L2.St} {H B H' B' H1 B1 : Hp}
theorem b_lenS : Cb1 G pn (uLenS G.K) dLenS := by
  intro U e σ H B x a c Q rl ra h q
  unfold dLenS at h
  split at h
  · obtain ⟨ns, hn, h2⟩ := Option.bind_eq_some_iff.mp h
    split at h2
    · next most =>
      cases h2
      obtain ⟨a1, xs, rfl, h1, n1, r1⟩ := ra.lst_inv
      obtain rfl := r1.ints_inv hn
      exact ⟨a1, ns, rfl, .inl (SqL.of h1), most, q _ H B rl (Same.refl _) Keep.refl (.int _)⟩
    · cases h2
  · obtain ⟨ns, hn, h2⟩ := Option.bind_eq_some_iff.mp h
    split at h2
    · next most =>
      cases h2
      obtain ⟨a1, xs, rfl, h1, r1⟩ := ra.tup_inv
      obtain rfl := r1.ints_inv hn
      exact ⟨a1, ns, rfl, .inr (same_t rl.b.bh h1), most, q _ H B rl (Same.refl _) Keep.refl (.int _)⟩
    · cases h2
  · cases h
end
/-! ### where self stands, in a comprehension -/
theorem wipe_sw {a : Addr} {sl : List Slot} : ∀ {vs : List Nat}, wipeS (sl.map (swS a)) vs = (wipeS sl vs).map (swS a)
  | [] => rfl
  | v :: vs => by
    show (wipeS (sl.map (swS a)) vs).set v .u = ((wipeS sl vs).set v .u).map (swS a)
    rw [wipe_sw, List.map_set]
    rfl
theorem isO_sw {a : Addr} {sl : List Slot} {v : Nat} : isO (sl.map (swS a))[v]? = isO sl[v]? := by
  rw [List.getElem?_map]
  cases sl[v]? with
  | none => rfl
  | some s => cases s <;> rfl
theorem mg_lcL {a : Addr} {sl : List Slot} {ft : FT} {test : FG Bool} {elt : FG D} (ht : Mt ft) (h1 : Mg test) (h2 : Mg elt) : ∀ (ds : List D) (p : PenS), lcL (sl.map (swS a)) ft test elt ds p = lcL sl ft test elt ds p
  | [], _ => rfl
  | d :: ds, p => by
    unfold lcL
    rw [ht a d sl]
    cases ft d sl with
    | none => rfl
    | some s2 =>
      rw [Option.map_some]
      dsimp only
      rw [show test ⟨s2.map (swS a), p⟩ = test ⟨s2, p⟩ from h1 a ⟨s2, p⟩]
      have e2 : ∀ p1, elt ⟨s2.map (swS a), p1⟩ = elt ⟨s2, p1⟩ := fun p1 => h2 a ⟨s2, p1⟩
      simp only [e2, mg_lcL ht h1 h2 ds]
theorem mg_lc {vs : List Nat} {fi : FG (List D)} {ft : FT} {test : FG Bool} {elt : FG D} (h : Mg fi) (ht : Mt ft) (h1 : Mg test) (h2 : Mg elt) : Mg (lcG vs fi ft test elt) := mg_bind h fun ds a e => by
  have e1 : (vs.any fun v => isO (sw a e).sl[v]?) = vs.any fun v => isO e.sl[v]? := by
    congr 1
    funext v
    exact isO_sw
  rw [e1]
  show (if _ then none else match lcL (wipeS (e.sl.map (swS a)) vs) ft test elt ds e.pen with | none => none | some (xs, p) => _) = _
  rw [wipe_sw, mg_lcL ht h1 h2]
  all_goals rfl
end Fw

set_option linter.all false
set_option maxRecDepth 100000
set_option maxHeartbeats 4000000
namespace Fw
open PySem PySem.Spec PyProof.Rows L2
/-! ### lists, and lists of lists, that are handed in and changed later -/
section
variable {G : Gm} {U : Hp} {pn : Pn} {E : XK} {e : Ev} {σ : L2.St} {H B H' B' H1 B1 : Hp}
inductive Jx where
  | flat (k l : Nat) | deep (k l n : Nat)
  deriving DecidableEq
def hdL : D → Bool
  | .list (.list _ :: _) => true
  | _ => false
def LF (G : Gm) (B U' : Hp) (p : Addr) (d : D) : Prop := ∃ xs es, d = .list es ∧ U' p = some (.lst xs) ∧ RzA G B xs es
def LN (G : Gm) (B U' : Hp) (qs : List Addr) (p : Addr) (d : D) : Prop := (hdL d = false ∧ LF G B U' p d) ∨ (hdL d = true ∧ ∃ (rs : List Addr) (es : List D), d = .list es ∧ U' p = some (.lst (rs.map V.ref)) ∧ rs.length = es.length ∧
  ∀ (k : Nat) (q : Addr) (d' : D), rs[k]? = some q → es[k]? = some d' → q ∈ qs ∧ LF G B U' q d')
structure Nw2 (G : Gm) (B U U' : Hp) (ps qs : List Addr) (ds : List D) : Prop where
  len : ps.length = ds.length
  fr : ∀ q ∈ ps ++ qs, U q = none ∧ ∃ xs, U' q = some (.lst xs)
  at_ : ∀ (k : Nat) (p : Addr) (d : D), ps[k]? = some p → ds[k]? = some d → LN G B U' qs p d
  nd : ps.Nodup
  dj : ∀ q ∈ qs, q ∉ ps
def CN2 (G : Gm) (pn : Pn) (E : XK) (ta : TA) (fa : FG (List D)) : Prop := ∀ U e σ H B r p' Q, Rl G U pn e σ H B → fa e = some (r, p') →
  (match r with
    | .v ds => ∀ ps qs H' B' U', Rl G U' pn ⟨e.sl, p'⟩ σ H' B' → Same B B' → Keep pn H H' → Same U U' → Nw2 G B' U U' ps qs ds → Q (ps.map V.ref) H'
    | .x c ns ds => ∀ cls ao H' B', Base U pn p' H' B' → Same B B' → XAt G B' H' cls ao c ns ds → E cls ao H') → ta σ H Q
theorem cn2_nil : CN2 G pn E tNil (retG []) := by
  intro U e σ H B r p' Q rl hf post
  cases hf
  exact post [] [] H B U rl (Same.refl _) Keep.refl (Same.refl _) ⟨rfl, (fun q h => by cases h), (fun k p d h => by simp at h), List.nodup_nil, fun q h => by cases h⟩
theorem LF.up {B2 U2 : Hp} {p : Addr} {d : D} (h : LF G B U p d) (s : Same B B2) (s2 : Same U U2) : LF G B2 U2 p d := by
  obtain ⟨xs, es, h1, h2, h3⟩ := h
  exact ⟨xs, es, h1, s2 _ _ h2, h3.same s⟩
theorem LN.more {qs rs : List Addr} {p : Addr} {d : D} (h : LN G B U qs p d) (s : ∀ q ∈ qs, q ∈ rs) : LN G B U rs p d := by
  rcases h with h | ⟨h0, a, es, h1, h2, h3, h4⟩
  · exact .inl h
  · exact .inr ⟨h0, a, es, h1, h2, h3, fun k q d' x y => ⟨s q (h4 k q d' x y).1, (h4 k q d' x y).2⟩⟩
theorem not_some {a : Addr} {U1 : Hp} (s : Same U U1) (h : U1 a = none) : U a = none := by
  cases z : U a with
  | none => rfl
  | some x => rw [s _ _ z] at h; cases h
def lstFlat (f : FG D) : FG D := bindG f fun d => if isLst d = true ∧ hdL d = false then retG d else fun _ => none
def nestG (f : FG (List D)) : FG D := bindG f fun ds => if 0 < ds.length ∧ ds.length ≤ 1000 then retG (.list ds) else fun _ => none
theorem cn2_flat {t : TE} {u : TA} {f : FG D} {g : FG (List D)} (h1 : CF G pn E t f) (h2 : CN2 G pn E u g) : CN2 G pn E (tCons t u) (consG (lstFlat f) g) := by
  intro U e σ H B r p' Q rl hf post
  rcases bind_inv hf with ⟨c, ns, ds, hx, rfl⟩ | ⟨a, q, hx, hg⟩
  · unfold lstFlat at hx
    rcases bind_inv hx with ⟨c', ns', ds', hx', hr⟩ | ⟨a', q', hx', hg'⟩
    · cases hr
      exact h1 U e σ H B _ _ _ rl hx' post
    · split at hg' <;> cases hg'
  · unfold lstFlat at hx
    rcases bind_inv hx with ⟨c', ns', ds', hx', hr⟩ | ⟨a', q', hx', hg'⟩
    · cases hr
    split at hg'
    · next hl =>
      cases hg'
      refine h1 U e σ H B _ _ _ rl hx' fun p H1 B1 fr s1 k1 => ?_
      obtain ⟨o, ho, hno⟩ := fr.o.atC
      obtain ⟨os, ss, nn, ff, np⟩ := fr.s
      obtain ⟨n1, n2, n3⟩ := fr.n
      obtain ⟨es, rfl⟩ : ∃ es, a = .list es := by cases a <;> first | exact ⟨_, rfl⟩ | cases hl.1
      obtain ⟨xs, hxs, rxs⟩ : ∃ xs, H1 p = some (.lst xs) ∧ RzA G B1 xs es := by
        have z := fr.o
        cases z with
        | lst h hs => exact ⟨_, h, hs⟩
      rw [hxs] at ho
      cases ho
      have rlU : Rl G (upd U p (.lst xs)) pn ⟨e.sl, q'⟩ σ H1 B1 := by
        refine ⟨⟨fr.b.bh, fun a x hx => ?_, fun a x hx => ?_, fun z hz => ?_, fun z hz => ?_⟩, os, ss, nn, fun z hz => ?_⟩
        · by_cases y : a = p
          · rw [y, upd_same] at hx; rw [y, hxs]; exact hx
          · rw [upd_ne y] at hx; exact fr.b.uh a x hx
        · rw [upd_ne (ne_of_none hx n1)]; exact fr.b.bu a x hx
        · obtain ⟨a1, a2, a3, a4⟩ := fr.b.pen z hz
          exact ⟨a1, (upd_ne (fun y => (n3 z hz).1 y.symm)).trans a2, a3, a4⟩
        · obtain ⟨a1, a2, a3⟩ := fr.b.tab z hz
          exact ⟨fun t ht => ⟨(a1 t ht).1, (upd_ne (fun y => (n3 z hz).2 t ht y.symm)).trans (a1 t ht).2⟩, a2, a3⟩
        · obtain ⟨a1, a2, a3⟩ := ff z hz
          exact ⟨a1, (upd_ne (fun y => np (by rw [← y]; exact hz))).trans a2, a3⟩
      have sU : Same U (upd U p (.lst xs)) := same_upd n2
      rcases bind_inv hg with ⟨c, ns, ds, hx2, rfl⟩ | ⟨as, q2, hx2, hg2⟩
      · exact h2 _ ⟨e.sl, q'⟩ σ H1 B1 _ _ _ rlU hx2 fun cls ao H' B' b s x => post cls ao H' B' (b.subU sU) (s1.trans s) x
      · cases hg2
        refine h2 _ ⟨e.sl, q'⟩ σ H1 B1 _ _ _ rlU hx2 fun ps qs H2 B2 U2 rl2 s2 k2 sU2 nw => ?_
        have ne : ∀ q ∈ ps ++ qs, q ≠ p := fun q m z => by
          have := (nw.fr q m).1
          rw [z, upd_same] at this; cases this
        refine post (p :: ps) qs H2 B2 U2 rl2 (s1.trans s2) (k1.trans k2) (sU.trans sU2) ⟨congrArg (· + 1) nw.len, fun q m => ?_, fun k p' d hp hd => ?_, List.nodup_cons.mpr ⟨fun m => ne p (List.mem_append_left _ m) rfl, nw.nd⟩, fun q m z => ?_⟩
        · rcases List.mem_cons.mp m with rfl | m
          · exact ⟨n2, xs, sU2 _ _ upd_same⟩
          · exact ⟨not_some sU (nw.fr q m).1, (nw.fr q m).2⟩
        · cases k with
          | zero =>
            cases hp
            cases hd
            exact .inl ⟨hl.2, xs, es, rfl, sU2 _ _ upd_same, rxs.same s2⟩
          | succ k => exact nw.at_ k p' d (by simpa using hp) (by simpa using hd)
        · rcases List.mem_cons.mp z with rfl | z
          · exact ne q (List.mem_append_right _ m) rfl
          · exact nw.dj q m z
    · cases hg'
theorem cn2_nest {tb u : TA} {fb g : FG (List D)} (h1 : CN G pn E tb fb) (hflat : ∀ e ds p, fb e = some (.v ds, p) → ∀ d ∈ ds, isLst d = true) (h2 : CN2 G pn E u g) : CN2 G pn E (tCons (tLst tb) u) (consG (nestG fb) g) := by
  intro U e σ H B r p' Q rl hf post
  rcases bind_inv hf with ⟨c, ns, ds, hx, rfl⟩ | ⟨a, q, hx, hg⟩
  · unfold nestG at hx
    rcases bind_inv hx with ⟨c', ns', ds', hx', hr⟩ | ⟨a', q', hx', hg'⟩
    · cases hr
      exact h1 U e σ H B _ _ _ rl hx' post
    · split at hg' <;> cases hg'
  · unfold nestG at hx
    rcases bind_inv hx with ⟨c', ns', ds', hx', hr⟩ | ⟨es, q', hx', hg'⟩
    · cases hr
    split at hg'
    · next hl =>
      cases hg'
      refine h1 U e σ H B _ _ _ rl hx' fun rs H1 B1 U1 rl1 s1 k1 sU1 nw => ⟨?_, fun p hp => ?_⟩
      · rw [List.length_map, nw.len]
        exact line_of (by omega)
      have pU1 : U1 p = none := rl1.b.uh.free hp
      have rl2 : Rl G (upd U1 p (.lst (rs.map V.ref))) pn ⟨e.sl, q'⟩ σ (upd H1 p (.lst (rs.map V.ref))) B1 := rl1.addU hp
      have sU2 : Same U1 (upd U1 p (.lst (rs.map V.ref))) := same_upd pU1
      have hin : ∀ r ∈ rs, U r = none ∧ ∃ xs, U1 r = some (.lst xs) := fun r m => by
        obtain ⟨k, hk⟩ := List.getElem?_of_mem m
        have hk' := (List.getElem?_eq_some_iff.mp hk).1
        obtain ⟨z1, xs, fs, _, z2, _⟩ := nw.at_ k r _ hk (List.getElem?_eq_getElem (by rw [← nw.len]; exact hk'))
        exact ⟨z1, xs, z2⟩
      have hh : hdL (.list es) = true := by
        cases es with
        | nil => cases hl.1
        | cons d es =>
          have := hflat _ _ _ hx' d (.head _)
          cases d <;> first | rfl | cases this
      rcases bind_inv hg with ⟨c, ns, ds, hx2, rfl⟩ | ⟨as, q2, hx2, hg2⟩
      · exact h2 _ ⟨e.sl, q'⟩ σ _ B1 _ _ _ rl2 hx2 fun cls ao H' B' b s x => post cls ao H' B' (b.subU (sU1.trans sU2)) (s1.trans s) x
      · cases hg2
        refine h2 _ ⟨e.sl, q'⟩ σ _ B1 _ _ _ rl2 hx2 fun ps qs H2 B2 U2 rl3 s2 k2 sU3 nw2 => ?_
        have ne : ∀ q ∈ ps ++ qs, q ≠ p := fun q m z => by
          have := (nw2.fr q m).1
          rw [z, upd_same] at this; cases this
        have rp : ∀ r ∈ rs, r ≠ p := fun r m z => by
          obtain ⟨_, xs, h⟩ := hin r m
          rw [z, pU1] at h; cases h
        have rn : ∀ r ∈ rs, r ∉ ps := fun r m z => by
          obtain ⟨_, xs, h⟩ := hin r m
          have := (nw2.fr r (List.mem_append_left _ z)).1
          rw [upd_ne (rp r m), h] at this; cases this
        have up : ∀ r xs, r ∈ rs → U1 r = some (.lst xs) → U2 r = some (.lst xs) := fun r xs m h => sU3 _ _ ((upd_ne (rp r m)).trans h)
        refine post (p :: ps) (rs ++ qs) H2 B2 U2 rl3 (s1.trans s2) (k1.trans ((Keep.of (same_upd hp)).trans k2)) (sU1.trans (sU2.trans sU3)) ⟨congrArg (· + 1) nw2.len, fun q m => ?_, fun k p' d hp' hd => ?_, List.nodup_cons.mpr ⟨fun m => ne p (List.mem_append_left _ m) rfl, nw2.nd⟩, fun q m z => ?_⟩
        · rcases List.mem_cons.mp m with rfl | m
          · exact ⟨not_some sU1 pU1, _, sU3 _ _ upd_same⟩
          · rcases List.mem_append.mp m with m | m
            · exact ⟨not_some (sU1.trans sU2) (nw2.fr q (List.mem_append_left _ m)).1, (nw2.fr q (List.mem_append_left _ m)).2⟩
            · rcases List.mem_append.mp m with m | m
              · obtain ⟨z1, xs, z2⟩ := hin q m
                exact ⟨z1, xs, up q xs m z2⟩
              · exact ⟨not_some (sU1.trans sU2) (nw2.fr q (List.mem_append_right _ m)).1, (nw2.fr q (List.mem_append_right _ m)).2⟩
        · cases k with
          | zero =>
            cases hp'
            cases hd
            refine .inr ⟨hh, rs, es, rfl, sU3 _ _ upd_same, nw.len, fun k q d' x y => ?_⟩
            have m : q ∈ rs := List.mem_of_getElem? x
            obtain ⟨_, xs, fs, z1, z2, z3⟩ := nw.at_ k q d' x y
            exact ⟨List.mem_append_left _ m, xs, fs, z1, up q xs m z2, z3.same s2⟩
          | succ k => exact (nw2.at_ k p' d (by simpa using hp') (by simpa using hd)).more fun q m => List.mem_append_right _ m
        · rcases List.mem_append.mp m with m | m
          · rcases List.mem_cons.mp z with rfl | z
            · exact rp q m rfl
            · exact rn q m z
          · rcases List.mem_cons.mp z with rfl | z
            · exact ne q (List.mem_append_right _ m) rfl
            · exact nw2.dj q m z
    · cases hg'
theorem allL_nil : ∀ (e : Ev) (ds : List D) (p : PenS), (retG [] : FG (List D)) e = some (.v ds, p) → ∀ d ∈ ds, isLst d = true := fun e ds p h d m => by
  cases h
  cases m
theorem allL_cons {f : FG D} {g : FG (List D)} (h : ∀ (e : Ev) (ds : List D) (p : PenS), g e = some (.v ds, p) → ∀ d ∈ ds, isLst d = true) : ∀ (e : Ev) (ds : List D) (p : PenS), consG (lstOnly f) g e = some (.v ds, p) → ∀ d ∈ ds, isLst d = true := fun e ds p hf d m => by
  rcases bind_inv hf with ⟨c, ns, xs, hx, hr⟩ | ⟨a, q, hx, hg⟩
  · cases hr
  · rcases bind_inv hg with ⟨c, ns, xs, hx2, hr⟩ | ⟨as, q2, hx2, hg2⟩
    · cases hr
    · cases hg2
      rcases List.mem_cons.mp m with rfl | m
      · unfold lstOnly at hx
        rcases bind_inv hx with ⟨c', ns', ds', hx', hr⟩ | ⟨a', q', hx', hg'⟩
        · cases hr
        · split at hg'
          · next hl => cases hg'; exact hl
          · cases hg'
      · exact h _ _ _ hx2 d m
theorem refsA {rs : List Addr} : ∀ {es : List D}, rs.length = es.length → (∀ (k : Nat) (q : Addr) (d : D), rs[k]? = some q → es[k]? = some d → Rz G B (.ref q) d) → RzA G B (rs.map V.ref) es := by
  induction rs with
  | nil => intro es hl _; cases es with
    | nil => exact .nil
    | cons => cases hl
  | cons q qs ih =>
    intro es hl h
    cases es with
    | nil => cases hl
    | cons d es => exact .cons (h 0 q d rfl rfl) (ih (by simpa using hl) fun k q' d' a b => h (k + 1) q' d' (by simpa using a) (by simpa using b))
def flatJ (js : List Jx) : List Nat := js.filterMap fun x => match x with
  | .flat k _ => some k
  | .deep _ _ _ => none
theorem flatJ_mem {js : List Jx} {k l : Nat} (h : Jx.flat k l ∈ js) : k ∈ flatJ js := List.mem_filterMap.mpr ⟨_, h, rfl⟩
def Jok (ds : List D) (fl : List Nat) : Jx → Prop
  | .flat k l => ∃ es, ds[k]? = some (.list es) ∧ l < es.length
  | .deep k l n => k ∉ fl ∧ ∃ es fs, ds[k]? = some (.list es) ∧ hdL (.list es) = true ∧ es[l]? = some (.list fs) ∧ n < fs.length
def jokB (ds : List D) (fl : List Nat) : Jx → Bool
  | .flat k l => match ds[k]? with
    | some (.list es) => decide (l < es.length)
    | _ => false
  | .deep k l n => decide (k ∉ fl) && (match ds[k]? with
    | some (.list es) => hdL (.list es) && (match es[l]? with
      | some (.list fs) => decide (n < fs.length)
      | _ => false)
    | _ => false)
def okJ2 (ds : List D) (js : List Jx) : Bool := js.all (jokB ds (flatJ js))
theorem okJ2_at {ds : List D} {js : List Jx} (h : okJ2 ds js = true) {x : Jx} (m : x ∈ js) : Jok ds (flatJ js) x := by
  have z := List.all_eq_true.mp h x m
  cases x with
  | flat k l =>
    dsimp only [jokB] at z
    split at z
    · next es he => exact ⟨es, he, of_decide_eq_true z⟩
    · cases z
  | deep k l n =>
    dsimp only [jokB] at z
    rw [Bool.and_eq_true] at z
    obtain ⟨z1, z⟩ := z
    split at z
    · next es he =>
      rw [Bool.and_eq_true] at z
      obtain ⟨z2, z⟩ := z
      split at z
      · next fs hf => exact ⟨of_decide_eq_true z1, es, fs, he, z2, hf, of_decide_eq_true z⟩
      · cases z
    · cases z
def tgs2 (K : PySem.W.Frag) (i : Nat) : List Jx → TGs
  | [] => gNil
  | .flat k l :: r => gCons (gSub (tOp (uIx K) (tVar i) (tC (.int (k : Int)))) (tC (.int (l : Int))) rSetL) (tgs2 K i r)
  | .deep k l n :: r => gCons (gSub (tOp (uIx K) (tOp (uIx K) (tVar i) (tC (.int (k : Int)))) (tC (.int (l : Int)))) (tC (.int (n : Int))) rSetL) (tgs2 K i r)
def givenS2 (i j : Nat) (fa : FG (List D)) (fb : FG D) (js : List Jx) (fc : FG D) : FS := fun e => match fa e with
  | some (.v ds, p1) => if (i < e.sl.length ∧ j < e.sl.length ∧ i ≠ j) ∧ ds.length ≤ 1000 then (match fb ⟨e.sl.set i (.d (.list ds)), p1⟩ with
    | some (.v d, p2) => if noL d = true then (match fc ⟨(e.sl.set i .u).set j (.d d), p2⟩ with
      | some (.v (.tuple vs), p3) => if vs.length = js.length ∧ okJ2 ds js = true then some (.nx, ⟨(e.sl.set i .u).set j (.d d), p3⟩) else none
      | _ => none) else none
    | _ => none) else none
  | _ => none
def WkJ (U U1 : Hp) (ps qs : List Addr) (fl : List Nat) : Jx → Prop
  | .flat k l => k ∈ fl ∧ ∃ a, ps[k]? = some a ∧ ∃ ys, U1 a = some (.lst ys) ∧ l < ys.length
  | .deep k l n => k ∉ fl ∧ ∃ a, ps[k]? = some a ∧ ∃ (rs : List Addr) (b : Addr), rs[l]? = some b ∧ b ∈ qs ∧ U1 a = some (.lst (rs.map V.ref)) ∧ ∃ ys, U1 b = some (.lst ys) ∧ n < ys.length
theorem wk_flat {U1 : Hp} {ps qs : List Addr} {fl : List Nat} {k : Nat} {a : Addr} {ys zs : List V} (nd : ps.Nodup) (dj : ∀ q ∈ qs, q ∉ ps) (hk : k ∈ fl) (ha : ps[k]? = some a) (h : U1 a = some (.lst ys)) (hz : zs.length = ys.length) {y : Jx} (w : WkJ U U1 ps qs fl y) : WkJ U (upd U1 a (.lst zs)) ps qs fl y := by
  have am : a ∈ ps := List.mem_of_getElem? ha
  cases y with
  | flat k' l' =>
    obtain ⟨w1, a', w2, ys', w3, w4⟩ := w
    refine ⟨w1, a', w2, ?_⟩
    by_cases z : a' = a
    · subst z
      cases w3.symm.trans h
      exact ⟨zs, upd_same, by omega⟩
    · exact ⟨ys', (upd_ne z).trans w3, w4⟩
  | deep k' l' n' =>
    obtain ⟨w1, a', w2, rs, b, w3, w4, w5, ys', w6, w7⟩ := w
    have n1 : a' ≠ a := fun z => by
      subst z
      have g1 := (List.getElem?_eq_some_iff.mp ha).1
      have : k = k' := (List.getElem?_inj g1 nd).mp (ha.trans w2.symm)
      subst this
      exact w1 hk
    have n2 : b ≠ a := fun z => dj b w4 (z ▸ am)
    exact ⟨w1, a', w2, rs, b, w3, w4, (upd_ne n1).trans w5, ys', (upd_ne n2).trans w6, w7⟩
theorem wk_deep {U1 : Hp} {ps qs : List Addr} {fl : List Nat} {b : Addr} {ys zs : List V} (dj : ∀ q ∈ qs, q ∉ ps) (hb : b ∈ qs) (h : U1 b = some (.lst ys)) (hz : zs.length = ys.length) {y : Jx} (w : WkJ U U1 ps qs fl y) : WkJ U (upd U1 b (.lst zs)) ps qs fl y := by
  have out : ∀ {k a}, ps[k]? = some a → a ≠ b := fun h z => dj b hb (z ▸ List.mem_of_getElem? h)
  cases y with
  | flat k' l' =>
    obtain ⟨w1, a', w2, ys', w3, w4⟩ := w
    exact ⟨w1, a', w2, ys', (upd_ne (out w2)).trans w3, w4⟩
  | deep k' l' n' =>
    obtain ⟨w1, a', w2, rs, b', w3, w4, w5, ys', w6, w7⟩ := w
    refine ⟨w1, a', w2, rs, b', w3, w4, (upd_ne (out w2)).trans w5, ?_⟩
    by_cases z : b' = b
    · subst z
      cases w6.symm.trans h
      exact ⟨zs, upd_same, by omega⟩
    · exact ⟨ys', (upd_ne z).trans w6, w7⟩
theorem stores2 {i : Nat} {p : Addr} {refs qs : List Addr} {fl : List Nat} (nd : refs.Nodup) (dj : ∀ q ∈ qs, q ∉ refs) (pr : p ∉ refs) (pq : p ∉ qs) (fr1 : ∀ q ∈ refs, U q = none) (fr2 : ∀ q ∈ qs, U q = none) : ∀ (js : List Jx) (vs : List V) (U1 : Hp) (H1 : Hp) (Q : L2.St → Hp → Prop), vs.length = js.length → Rl G U1 pn e σ H1 B1 → Same U U1 → σ[i]? = some (some (.ref p)) → U p = none → U1 p = some (.lst (refs.map V.ref)) →
    (∀ x ∈ js, WkJ U U1 refs qs fl x) → (∀ U2 H2, Rl G U2 pn e σ H2 B1 → Same U U2 → Q σ H2) → tgs2 G.K i js vs σ H1 Q
  | [], [], U1, H1, Q, _, rl, sU, _, _, _, _, q => ⟨rfl, q U1 H1 rl sU⟩
  | .flat k l :: js, v :: vs, U1, H1, Q, hl, rl, sU, hs, hp, hp1, hx, q => by
    obtain ⟨hk, a, h1, ys, h4, h5⟩ := hx (.flat k l) (.head _)
    have am : a ∈ refs := List.mem_of_getElem? h1
    refine ⟨v, vs, rfl, .ref p, hs, .inl ⟨p, _, _, _, rfl, rfl, SqL.of (rl.b.uh _ _ hp1), at_ref h1, a, ys, _, l, rfl, rfl, rl.b.uh _ _ h4, ixN_nat h5, ?_⟩⟩
    refine stores2 nd dj pr pq fr1 fr2 js vs (upd U1 a (.lst (ys.set l v))) _ Q (by simpa using hl) (swap_at noC_lst h4 rl) (fun c o hc => ?_) hs hp (by rw [upd_ne fun z => pr (by rw [z]; exact am)]; exact hp1) (fun y hy => wk_flat (U := U) nd dj hk h1 h4 List.length_set (hx y (.tail _ hy))) q
    have : c ≠ a := fun z => by rw [z, fr1 a am] at hc; cases hc
    rw [upd_ne this]
    exact sU _ _ hc
  | .deep k l n :: js, v :: vs, U1, H1, Q, hl, rl, sU, hs, hp, hp1, hx, q => by
    obtain ⟨hk, a, h1, rs, b, h2, hb, h3, ys, h4, h5⟩ := hx (.deep k l n) (.head _)
    refine ⟨v, vs, rfl, .ref p, hs, .inl ⟨p, _, _, _, rfl, rfl, SqL.of (rl.b.uh _ _ hp1), at_ref h1, .inl ⟨a, _, _, _, rfl, rfl, SqL.of (rl.b.uh _ _ h3), at_ref h2, b, ys, _, n, rfl, rfl, rl.b.uh _ _ h4, ixN_nat h5, ?_⟩⟩⟩
    refine stores2 nd dj pr pq fr1 fr2 js vs (upd U1 b (.lst (ys.set n v))) _ Q (by simpa using hl) (swap_at noC_lst h4 rl) (fun c o hc => ?_) hs hp (by rw [upd_ne fun z => pq (by rw [z]; exact hb)]; exact hp1) (fun y hy => wk_deep (U := U) dj hb h4 List.length_set (hx y (.tail _ hy))) q
    have : c ≠ b := fun z => by rw [z, fr2 b hb] at hc; cases hc
    rw [upd_ne this]
    exact sU _ _ hc
  | [], _ :: _, _, _, _, hl, _, _, _, _, _, _, _ => by cases hl
  | .flat _ _ :: _, [], _, _, _, hl, _, _, _, _, _, _, _ => by cases hl
  | .deep _ _ _ :: _, [], _, _, _, hl, _, _, _, _, _, _, _ => by cases hl
theorem cs_given2 {i j : Nat} {ta : TA} {fa : FG (List D)} {tb tc : TE} {fb fc : FG D} {js : List Jx} (ha : CN2 G pn E ta fa) (hb : CE G pn E tb fb) (hc : CE G pn E tc fc) :
    CS G pn E (tSeq (tAsg (tLst ta) (gName i)) (tSeq (tAsg tb (gName j)) (tAsg tc (gTup G.K js.length (tgs2 G.K i js))))) (givenS2 i j fa fb js fc) := by
  intro U e σ H B r e' Dn rl hf post
  unfold givenS2 at hf
  split at hf
  · next ds p1 hfa =>
    split at hf
    · next hij =>
      obtain ⟨⟨hi, hj, hne⟩, hlen⟩ := hij
      split at hf
      · next d p2 hfb =>
        split at hf
        · next hnl =>
          split at hf
          · next vs p3 hfc =>
            split at hf
            · next hvs =>
              cases hf
              obtain ⟨hvl, hok⟩ := hvs
              refine ha U e σ H B _ _ _ rl hfa fun ps qs H4 B4 U4 rl4 s4 k4 sU4 nw => ⟨?_, fun p hp => ?_⟩
              · rw [List.length_map, nw.len]
                exact line_of (by omega)
              obtain ⟨az, haz⟩ : ∃ az : List Addr, az = ps ++ qs := ⟨_, rfl⟩
              have inP : ∀ q ∈ ps, q ∈ az := fun q m => haz ▸ List.mem_append_left _ m
              have inQ : ∀ q ∈ qs, q ∈ az := fun q m => haz ▸ List.mem_append_right _ m
              have isP : ∀ q ∈ az, U q = none ∧ ∃ xs, U4 q = some (.lst xs) := fun q hq => nw.fr q (haz ▸ hq)
              have bN : ∀ q ∈ az, B4 q = none := fun q hq => by
                obtain ⟨_, xs, h2⟩ := isP q hq
                cases hB : B4 q with
                | none => rfl
                | some o => have := rl4.b.bu _ _ hB; rw [h2] at this; cases this
              have pB : B4 p = none := rl4.b.bh.free hp
              have pU4 : U4 p = none := rl4.b.uh.free hp
              have pU : U p = none := by
                cases hU : U p with
                | none => rfl
                | some o => have := sU4 _ _ hU; rw [pU4] at this; cases this
              have pps : p ∉ az := fun m => by
                obtain ⟨_, xs, h2⟩ := isP p m
                rw [pU4] at h2; cases h2
              have rl5 : Rl G (upd U4 p (.lst (ps.map V.ref))) pn ⟨e.sl, p1⟩ σ (upd H4 p (.lst (ps.map V.ref))) B4 := rl4.addU hp
              obtain ⟨B5, hB5⟩ : ∃ B5 : Hp, B5 = fun a => if a = p then some (.lst (ps.map V.ref)) else if a ∈ az then U4 a else B4 a := ⟨_, rfl⟩
              have b5 : ∀ {a o}, B4 a = some o → B5 a = some o := fun {a o} h => by
                rw [hB5]
                show (if a = p then _ else if a ∈ az then U4 a else B4 a) = _
                rw [if_neg (ne_of_none h pB), if_neg (show ¬ a ∈ az from fun m => by rw [bN a m] at h; cases h)]
                exact h
              have b5s : Same B4 B5 := fun a o h => b5 h
              have b5p : B5 p = some (.lst (ps.map V.ref)) := by rw [hB5]; exact if_pos rfl
              have b5q : ∀ q ∈ az, B5 q = U4 q := fun q m => by
                rw [hB5]
                show (if q = p then _ else if q ∈ az then U4 q else B4 q) = _
                rw [if_neg (show ¬ q = p from fun z => pps (z ▸ m)), if_pos m]
              have b5n : ∀ a, a ≠ p → a ∉ az → B5 a = B4 a := fun a h1 h2 => by
                rw [hB5]
                show (if a = p then _ else if a ∈ az then U4 a else B4 a) = _
                rw [if_neg h1, if_neg h2]
              have base5 : Base U pn p1 (upd H4 p (.lst (ps.map V.ref))) B5 := by
                have bb := rl5.b
                have np := bb.npU (a := p) upd_same
                have npq : ∀ q ∈ az, NP pn q := fun q m => by
                  obtain ⟨_, xs, h2⟩ := isP q m
                  exact rl4.b.npU h2
                refine ⟨fun a o h => ?_, fun a o h => bb.uh a o ((upd_ne (ne_of_none (sU4 _ _ h) pU4)).trans (sU4 _ _ h)), fun a o h => ?_, fun q hq => ?_, fun q hq => ?_⟩
                · by_cases z : a = p
                  · rw [z, b5p] at h; rw [z, upd_same]; exact h
                  · rw [upd_ne z]
                    by_cases m : a ∈ az
                    · rw [b5q a m] at h; exact rl4.b.uh a o h
                    · rw [b5n a z m] at h; exact rl4.b.bh a o h
                · by_cases z : a = p
                  · rw [z]; exact pU
                  · by_cases m : a ∈ az
                    · exact (isP a m).1
                    · rw [b5n a z m] at h
                      cases hU : U a with
                      | none => rfl
                      | some x => have := sU4 _ _ hU; rw [rl4.b.bu _ _ h] at this; cases this
                · obtain ⟨h1, h2, h3, h4⟩ := bb.pen q hq
                  refine ⟨?_, ?_, h3, b5 h4⟩
                  · rw [b5n _ (fun z => (np q hq).1 z.symm) (fun m => (npq _ m q hq).1 rfl)]; exact h1
                  · cases hU : U q.1 with
                    | none => rfl
                    | some x => have := rl4.b.pen q hq; rw [sU4 _ _ hU] at this; cases this.2.1
                · obtain ⟨h1, h2, h3, h4⟩ := bb.tab q hq
                  refine ⟨fun t ht => ⟨?_, ?_⟩, h2, h3, h4.trans b5s⟩
                  · rw [b5n _ (fun z => (np q hq).2 t ht z.symm) (fun m => (npq _ m q hq).2 t ht rfl)]; exact (h1 t ht).1
                  · cases hU : U t.1 with
                    | none => rfl
                    | some x => have := ((rl4.b.tab q hq).1 t ht).2; rw [sU4 _ _ hU] at this; cases this
              obtain ⟨os, ss, nn, ff⟩ := rl5.s
              have onp : ∀ q ∈ os, q ≠ p ∧ q ∉ az := fun q hq => by
                have hU := (ff q hq).2.1
                refine ⟨fun z => (by rw [z, upd_same] at hU; cases hU), fun m => ?_⟩
                obtain ⟨_, xs, h2⟩ := isP q m
                rw [upd_ne (fun z => by rw [z, upd_same] at hU; cases hU)] at hU
                rw [h2] at hU; cases hU
              have rz5 : Rz G B5 (.ref p) (.list ds) := by
                refine .lst b5p ?_
                have flat5 : ∀ q d, q ∈ az → LF G B4 U4 q d → Rz G B5 (.ref q) d := by
                  rintro q d m ⟨xs, es, rfl, h2, h3⟩
                  exact .lst ((b5q q m).trans h2) (h3.same b5s)
                refine refsA nw.len fun k q d a b => ?_
                have m : q ∈ ps := List.mem_of_getElem? a
                rcases nw.at_ k q d a b with ⟨_, h⟩ | ⟨_, rs, es, rfl, h2, hl, h3⟩
                · exact flat5 q d (inP q m) h
                · exact .lst ((b5q q (inP q m)).trans h2) (refsA hl fun k' q' d' a' b' => flat5 q' d' (inQ q' (h3 k' q' d' a' b').1) (h3 k' q' d' a' b').2)
              have ss5 : Slots G pn B5 (upd H4 p (.lst (ps.map V.ref))) σ e.sl os := ss.grow b5s fun _ _ => rfl
              have rlB : Rl G U pn ⟨e.sl.set i (.d (.list ds)), p1⟩ (σ.set i (some (.ref p))) (upd H4 p (.lst (ps.map V.ref))) B5 := by
                have r0 : Rl G U pn ⟨e.sl, p1⟩ σ (upd H4 p (.lst (ps.map V.ref))) B5 := by
                  refine ⟨base5, os, ss5, nn, fun q hq => ⟨(b5n q (onp q hq).1 (onp q hq).2).trans (ff q hq).1, ?_, (ff q hq).2.2⟩⟩
                  cases hU : U q with
                  | none => rfl
                  | some x =>
                    have h1 := (ff q hq).2.1
                    rw [upd_ne (onp q hq).1] at h1
                    have := sU4 _ _ hU
                    rw [h1] at this
                    cases this
                exact r0.setD rz5 i
              refine hb U _ _ _ B5 _ _ _ rlB hfb fun v H6 B6 rl6 s6 k6 rz6 => ?_
              -- the lists are lists again
              have np := rl5.b.npU (a := p) upd_same
              have npq : ∀ q ∈ az, NP pn q := fun q m => by
                obtain ⟨_, xs, h2⟩ := isP q m
                exact rl4.b.npU h2
              have at6 : ∀ q ∈ p :: az, ∃ xs, B6 q = some (.lst xs) := fun q m => by
                rcases List.mem_cons.mp m with rfl | m
                · exact ⟨_, s6 _ _ b5p⟩
                · obtain ⟨_, xs, h2⟩ := isP q m
                  exact ⟨xs, s6 _ _ ((b5q q m).trans h2)⟩
              have c6 : Same B4 (cutB (p :: az) B6) := fun a o h => by
                rw [cutB_no fun m => by
                  rcases List.mem_cons.mp m with rfl | m
                  · rw [pB] at h; cases h
                  · rw [bN a m] at h; cases h]
                exact s6 _ _ (b5 h)
              obtain ⟨U6, hU6⟩ : ∃ U6 : Hp, U6 = fun a => if a ∈ p :: az then B6 a else U a := ⟨_, rfl⟩
              have u6i : ∀ a, a ∈ p :: az → U6 a = B6 a := fun a m => by rw [hU6]; exact if_pos m
              have u6o : ∀ a, a ∉ p :: az → U6 a = U a := fun a m => by rw [hU6]; exact if_neg m
              have uN : ∀ a ∈ p :: az, U a = none := fun a m => by
                rcases List.mem_cons.mp m with rfl | m
                · exact pU
                · exact (isP a m).1
              have base6 : Base U6 pn p2 H6 (cutB (p :: az) B6) := by
                have bb := rl6.b
                have npa : ∀ a ∈ p :: az, NP pn a := fun a m => by
                  rcases List.mem_cons.mp m with rfl | m
                  · exact np
                  · exact npq a m
                refine ⟨cutB_sub.trans bb.bh, fun a o h => ?_, fun a o h => ?_, fun q hq => ?_, fun q hq => ?_⟩
                · by_cases m : a ∈ p :: az
                  · rw [u6i a m] at h; exact bb.bh a o h
                  · rw [u6o a m] at h; exact bb.uh a o h
                · by_cases m : a ∈ p :: az
                  · unfold cutB at h; rw [if_pos m] at h; cases h
                  · rw [u6o a m]; exact bb.bu a o (cutB_sub a o h)
                · obtain ⟨h1, h2, h3, h4⟩ := bb.pen q hq
                  have n1 : q.1 ∉ p :: az := fun m => (npa _ m q hq).1 rfl
                  refine ⟨(cutB_no n1).trans h1, (u6o _ n1).trans h2, h3, c6 _ _ (rl4.b.pen q hq).2.2.2 |>.trans ?_⟩
                  have e1 := rl4.b.pen q hq
                  have e2 := s6 _ _ (b5 e1.2.2.2)
                  exact e2.symm.trans h4
                · obtain ⟨h1, h2, h3, h4⟩ := bb.tab q hq
                  refine ⟨fun t ht => ?_, h2, h3, (rl4.b.tab q hq).2.2.2.trans c6⟩
                  have n1 : t.1 ∉ p :: az := fun m => (npa _ m q hq).2 t ht rfl
                  exact ⟨(cutB_no n1).trans (h1 t ht).1, (u6o _ n1).trans (h1 t ht).2⟩
              have keep6 : ∀ q ∈ os, H6 q = upd H4 p (.lst (ps.map V.ref)) q := fun q hq => by
                obtain ⟨o, ho⟩ := ss.there hq
                rw [ho]
                exact k6 _ _ ho (ff q hq).2.2
              obtain ⟨os2, ss2, sb2⟩ := Slots.setU (w := some (.ref p)) i ss
              obtain ⟨os', ss', nn', ff'⟩ := rl6.s
              have eo : os' = os2 := by
                rw [ss'.own, ss2.own]
                exact ownA_two σ e.sl i rfl rfl
              have r6 : Rl G U6 pn ⟨e.sl.set i .u, p2⟩ (σ.set i (some (.ref p))) H6 (cutB (p :: az) B6) := ⟨base6, os2, ss2.grow c6 fun q hq => keep6 q (sb2.subset hq), sb2.nodup nn, fun q hq => by
                have hq0 := sb2.subset hq
                have nm : q ∉ p :: az := fun m => (List.mem_cons.mp m).elim (onp q hq0).1 (onp q hq0).2
                obtain ⟨f1, f2, f3⟩ := ff' q (by rw [eo]; exact hq)
                exact ⟨(cutB_no nm).trans f1, (u6o q nm).trans f2, f3⟩⟩
              have rdz : Rz G (cutB (p :: az) B6) v d := rz6.drp at6 hnl
              have r7 : Rl G U6 pn ⟨(e.sl.set i .u).set j (.d d), p2⟩ ((σ.set i (some (.ref p))).set j (some v)) H6 (cutB (p :: az) B6) := r6.setD rdz j
              refine hc U6 _ _ H6 _ _ _ _ r7 hfc fun y H8 B8 rl8 s8 k8 rz8 => ?_
              obtain ⟨a, xs, rfl, hx, hr⟩ := rz8.tup_inv
              have hsl : i < σ.length := by rw [ss.len]; exact hi
              refine ⟨a, xs, rfl, same_t rl8.b.bh hx, by rw [hr.length, hvl], ?_⟩
              have at9 : ∀ q ∈ az, U6 q = U4 q := fun q m => by
                obtain ⟨_, xs, h2⟩ := isP q m
                rw [u6i q (.tail _ m), h2]
                exact s6 _ _ ((b5q q m).trans h2)
              refine stores2 (U := U) (p := p) (refs := ps) (qs := qs) (fl := flatJ js) nw.nd nw.dj (fun m => pps (inP _ m)) (fun m => pps (inQ _ m)) (fun q m => (isP q (inP q m)).1) (fun q m => (isP q (inQ q m)).1) js xs U6 H8 _ (by rw [hr.length, hvl]) rl8 (fun a o h => ?_) ?_ pU ?_ (fun x m => ?_) fun U9 H9 rl9 s9 => ?_
              · rw [u6o a fun m => by rw [uN a m] at h; cases h]; exact h
              · rw [List.getElem?_set_ne (Ne.symm hne), List.getElem?_set_self hsl]
              · rw [u6i p (.head _)]; exact s6 _ _ b5p
              · have z := okJ2_at hok m
                match x, z, m with
                | .flat k l, ⟨es, h1, h2⟩, m =>
                  have hk : k < ps.length := by rw [nw.len]; exact (List.getElem?_eq_some_iff.mp h1).1
                  have hk2 : ps[k]? = some ps[k] := List.getElem?_eq_getElem hk
                  have m2 : ps[k] ∈ ps := List.getElem_mem hk
                  refine ⟨flatJ_mem m, ps[k], hk2, ?_⟩
                  rw [at9 _ (inP _ m2)]
                  rcases nw.at_ k _ _ hk2 h1 with ⟨_, xs, es', g2, g3, g4⟩ | ⟨_, rs, es', g2, g3, g4, _⟩
                  · cases g2
                    exact ⟨xs, g3, by rw [g4.length]; exact h2⟩
                  · cases g2
                    exact ⟨_, g3, by rw [List.length_map, g4]; exact h2⟩
                | .deep k l n, ⟨hfl, es, fs, h1, h0, h2, h3⟩, m =>
                  have hk : k < ps.length := by rw [nw.len]; exact (List.getElem?_eq_some_iff.mp h1).1
                  have hk2 : ps[k]? = some ps[k] := List.getElem?_eq_getElem hk
                  have m2 : ps[k] ∈ ps := List.getElem_mem hk
                  refine ⟨hfl, ps[k], hk2, ?_⟩
                  rw [at9 _ (inP _ m2)]
                  rcases nw.at_ k _ _ hk2 h1 with ⟨g0, _⟩ | ⟨_, rs, es', g2, g3, g4, g5⟩
                  · exact absurd (g0.symm.trans h0) (by decide)
                  · cases g2
                    have hl : l < rs.length := by rw [g4]; exact (List.getElem?_eq_some_iff.mp h2).1
                    have hl2 : rs[l]? = some rs[l] := List.getElem?_eq_getElem hl
                    obtain ⟨m3, ys, fs', e3, y1, y2⟩ := g5 l _ _ hl2 h2
                    cases e3
                    exact ⟨rs, rs[l], hl2, m3, g3, ys, by rw [at9 _ (inQ _ m3)]; exact y1, by rw [y2.length]; exact h3⟩
              · exact post _ H9 B8 (rl9.subU s9) (s4.trans (c6.trans s8))
            · cases hf
          · cases hf
        · cases hf
      · cases hf
    · cases hf
  · cases hf
/-! ### is, is not, of True and False -/
def uIsB (neg : Bool) : R2 := fun x y H Q => ∃ b c : Bool, x = .bl b ∧ y = .bl c ∧ Q (.bl (if neg = true then !decide (b = c) else decide (b = c))) H
theorem op_isB {X : Cx} : OpR X (compareOp .Is) (uIsB false) := by
  intro pins s σ H x y v u Q I rx ry h
  obtain ⟨b, c, rfl, rfl, q⟩ := h
  cases rx
  cases ry
  show wpAny _ _ ((isSame (Value.bool b) (Value.bool c)) >>= fun z => pure (Value.bool z)) _ _ s
  exact wpAny_bind (wpAny_isSame_plain rfl (wpAny_pure (fin_bl I q (by cases b <;> cases c <;> rfl))))
theorem op_isnB {X : Cx} : OpR X (compareOp .IsNot) (uIsB true) := by
  intro pins s σ H x y v u Q I rx ry h
  obtain ⟨b, c, rfl, rfl, q⟩ := h
  cases rx
  cases ry
  show wpAny _ _ ((isSame (Value.bool b) (Value.bool c)) >>= fun z => pure (Value.bool (!z))) _ _ s
  exact wpAny_bind (wpAny_isSame_plain rfl (wpAny_pure (fin_bl I q (by cases b <;> cases c <;> rfl))))
def dIsB (neg : Bool) : D → D → Option D
  | .bool b, .bool c => some (.bool (if neg = true then !decide (b = c) else decide (b = c)))
  | _, _ => none
theorem ob_isB {neg : Bool} : OpB G pn (uIsB neg) (dIsB neg) := by
  intro U e σ H B x y a b c Q rl ra rb h q
  unfold dIsB at h
  split at h
  · cases h
    cases ra.bl_inv
    cases rb.bl_inv
    exact ⟨_, _, rfl, rfl, q _ H B rl (Same.refl _) Keep.refl (.bl _)⟩
  · cases h
end
end Fw

set_option linter.all false
set_option maxRecDepth 100000
set_option maxHeartbeats 4000000
namespace Fw
open PySem PySem.Spec PyProof.Rows L2
/-! ### comprehensions with two fors -/
theorem wipe_sub {σ : L2.St} {us vs : List Nat} (h : ∀ u ∈ us, u ∈ vs) : wipe (wipe σ us) vs = wipe σ vs := by
  induction us with
  | nil => rfl
  | cons u us ih =>
    show wipe ((wipe σ us).set u none) vs = _
    rw [wipe_set (h u (.head _))]
    exact ih fun w hw => h w (.tail _ hw)
theorem wipeS_sub {σ : List Slot} {us vs : List Nat} (h : ∀ u ∈ us, u ∈ vs) : wipeS (wipeS σ us) vs = wipeS σ vs := by
  induction us with
  | nil => rfl
  | cons u us ih =>
    show wipeS ((wipeS σ us).set u .u) vs = _
    rw [wipeS_set (h u (.head _))]
    exact ih fun w hw => h w (.tail _ hw)
def lc2L (slw : List Slot) (vs1 : List Nat) (ft : FT) (test : FG Bool) (fi1 : FG (List D)) (ft1 : FT) (test1 : FG Bool) (elt : FG D) : List D → PenS → Option (List D × PenS)
  | [], p => some ([], p)
  | d :: ds, p => match ft d slw with
    | none => none
    | some sl => match test ⟨sl, p⟩ with
      | some (.v true, p1) => (match fi1 ⟨sl, p1⟩ with
        | some (.v es, p2) => (match lcL (wipeS sl vs1) ft1 test1 elt es p2 with
          | some (xs, p3) => (lc2L slw vs1 ft test fi1 ft1 test1 elt ds p3).map fun r => (xs ++ r.1, r.2)
          | none => none)
        | _ => none)
      | some (.v false, p1) => lc2L slw vs1 ft test fi1 ft1 test1 elt ds p1
      | _ => none
theorem lc2L_inv {slw : List Slot} {vs1 : List Nat} {ft ft1 : FT} {test test1 : FG Bool} {fi1 : FG (List D)} {elt : FG D} {d : D} {ds xs : List D} {p q : PenS} (h : lc2L slw vs1 ft test fi1 ft1 test1 elt (d :: ds) p = some (xs, q)) :
    ∃ sl, ft d slw = some sl ∧ ((∃ p1 es p2 ys p3 zs, test ⟨sl, p⟩ = some (.v true, p1) ∧ fi1 ⟨sl, p1⟩ = some (.v es, p2) ∧ lcL (wipeS sl vs1) ft1 test1 elt es p2 = some (ys, p3) ∧ lc2L slw vs1 ft test fi1 ft1 test1 elt ds p3 = some (zs, q) ∧ xs = ys ++ zs) ∨
      ∃ p1, test ⟨sl, p⟩ = some (.v false, p1) ∧ lc2L slw vs1 ft test fi1 ft1 test1 elt ds p1 = some (xs, q)) := by
  unfold lc2L at h
  split at h
  · cases h
  · next sl hs =>
    refine ⟨sl, hs, ?_⟩
    split at h
    · next p1 ht =>
      split at h
      · next es p2 he =>
        split at h
        · next ys p3 hy =>
          obtain ⟨⟨zs, q'⟩, h1, h2⟩ := Option.map_eq_some_iff.mp h
          cases h2
          exact .inl ⟨p1, es, p2, ys, p3, zs, ht, he, hy, h1, rfl⟩
        · cases h
      · cases h
    · next p1 ht => exact .inr ⟨p1, ht, h⟩
    · cases h
def lc2G (vs vs1 : List Nat) (fi : FG (List D)) (ft : FT) (test : FG Bool) (fi1 : FG (List D)) (ft1 : FT) (test1 : FG Bool) (elt : FG D) : FG D := bindG fi fun ds e =>
  if vs.any (fun v => isO e.sl[v]?) = true then none else
  match lc2L (wipeS e.sl vs) vs1 ft test fi1 ft1 test1 elt ds e.pen with
  | none => none
  | some (xs, p) => if xs.length ≤ 1000000 then some (.v (.list xs), p) else none
section
variable {G : Gm} {U : Hp} {pn : Pn} {E : XK} {e : Ev} {σ : L2.St} {H B H' B' H1 B1 : Hp}
theorem cf_lc2 {vs vs1 : List Nat} {ti ti1 : TI} {g g1 : TG} {tt tt1 : TT} {te : TE} {fi fi1 : FG (List D)} {ft ft1 : FT} {test test1 : FG Bool} {elt : FG D} (sub : ∀ v ∈ vs1, v ∈ vs) (hi : CI G pn E ti fi) (hg : CTw G pn vs g ft) (hf' : FTw vs ft) (ht : CT G pn E tt test)
    (hi1 : CI G pn E ti1 fi1) (hg1 : CTw G pn vs1 g1 ft1) (hf1 : FTw vs1 ft1) (ht1 : CT G pn E tt1 test1) (he : CE G pn E te elt) : CF G pn E (tLc2 ti g tt ti1 g1 tt1 te vs vs1) (lc2G vs vs1 fi ft test fi1 ft1 test1 elt) := by
  refine CF.bind (t := ti) hi fun J ds U e σ H B r p' Q rl wk hf post => ?_
  intro D hD
  split at hf
  · cases hf
  next hv =>
  simp only [Bool.not_eq_true, Bool.not_eq_false', List.any_eq_false] at hv
  split at hf
  · cases hf
  next xs p hx =>
  split at hf
  · next hl =>
    cases hf
    have hv' : ∀ v ∈ vs, isO e.sl[v]? = false := fun v m => by simpa using hv v m
    have rl0 := (rl.addU (o := .lst []) hD).wipe vs
    refine ⟨fun i m H' => m = ds.length - i ∧ ∃ q1 B1 acc ws rest, Rl G (upd U D (.lst ws)) pn ⟨wipeS e.sl vs, q1⟩ (wipe σ vs) H' B1 ∧ Same B B1 ∧ Keep pn H H' ∧ RzA G B1 ws acc ∧ lc2L (wipeS e.sl vs) vs1 ft test fi1 ft1 test1 elt (ds.drop i) q1 = some (rest, p') ∧ acc ++ rest = xs,
      ⟨_, rfl, e.pen, B, [], [], xs, rl0, Same.refl _, Keep.of (same_upd hD), .nil, hx, rfl⟩, ?_⟩
    rintro i m H1 ⟨rfl, q1, B1, acc, ws, rest, rl1, s1, k1, rz1, h1, hxs⟩
    obtain ⟨w1, w2⟩ := wk i _ H1 B1 _ _ s1 rl1
    cases hd : ds.drop i with
    | nil =>
      rw [hd] at h1
      cases h1
      have hle : ds.length ≤ i := by
        rcases Nat.lt_or_ge i ds.length with z | z
        · rw [List.drop_eq_getElem_cons z] at hd; cases hd
        · exact z
      rw [List.append_nil] at hxs
      subst hxs
      exact .inl ⟨w1 hle, post D H1 B1 (rl.back hD hv' rl1 s1 k1 rz1) s1 k1⟩
    | cons d more =>
      rw [hd] at h1
      obtain ⟨g1', g2, g3⟩ := drop_cons hd
      obtain ⟨w3, w4⟩ := w2 d g1'
      refine .inr ⟨w3, fun H' => ∃ q1 B1 acc ws rest, Rl G (upd U D (.lst ws)) pn ⟨wipeS e.sl vs, q1⟩ (wipe σ vs) H' B1 ∧ Same B B1 ∧ Keep pn H H' ∧ RzA G B1 ws acc ∧ lc2L (wipeS e.sl vs) vs1 ft test fi1 ft1 test1 elt (ds.drop (i + 1)) q1 = some (rest, p') ∧ acc ++ rest = xs,
        fun H' q => ⟨ds.length - (i + 1), by omega, rfl, q⟩, fun x H2 hy => ?_⟩
      obtain ⟨B2, s2, sh, mv, rz⟩ := w4 x H2 hy
      rw [g2]
      obtain ⟨sl, hs, hcase⟩ := lc2L_inv h1
      have rl2 := mv _ _ _ rl1
      have k2 : Keep pn H H2 := k1.trans (.of sh)
      have s12 := s1.trans s2
      refine hg _ _ σ (wipe σ vs) H2 B2 x d sl _ rl2 rz hs (wipe_wipe vs) fun σ3 hw rl3 => ⟨hw, ?_⟩
      have hw' : wipe σ3 vs = wipe σ vs := hw
      have e2 : wipeS sl vs = wipeS e.sl vs := (hf' _ _ _ hs).trans (wipeS_wipe vs)
      rcases hcase with ⟨p1, es, p2, ys, p3, zs, h2, h3, h4, h5, rfl⟩ | ⟨p1, h2, h4⟩
      · refine ht _ _ σ3 H2 B2 _ _ _ rl3 h2 fun b H3 B3 rl4 s3 k3 hb => ?_
        subst hb
        rw [if_pos rfl]
        refine hi1 _ _ σ3 H3 B3 _ _ _ rl4 h3 fun J1 H4 B4 rl5 s4 k4 wk1 => ?_
        have k04 : Keep pn H H4 := k2.trans (k3.trans k4)
        have s04 : Same B B4 := s12.trans (s3.trans s4)
        have rzw : RzA G B4 ws acc := rz1.same (s2.trans (s3.trans s4))
        refine ⟨fun j k H' => k = es.length - j ∧ ∃ q2 B5 acc1 ws1 rest1, Rl G (upd U D (.lst ws1)) pn ⟨wipeS sl vs1, q2⟩ (wipe σ3 vs1) H' B5 ∧ Same B4 B5 ∧ Keep pn H H' ∧ RzA G B5 ws1 acc1 ∧ lcL (wipeS sl vs1) ft1 test1 elt (es.drop j) q2 = some (rest1, p3) ∧ acc1 ++ rest1 = acc ++ ys,
          ⟨_, rfl, p2, B4, acc, ws, ys, rl5.wipe vs1, Same.refl _, k04, rzw, h4, rfl⟩, ?_⟩
        rintro j k H5 ⟨rfl, q2, B5, acc1, ws1, rest1, rl6, s5, k5, rz5, h6, hacc⟩
        obtain ⟨v1, v2⟩ := wk1 j _ H5 B5 _ _ s5 rl6
        cases hd1 : es.drop j with
        | nil =>
          rw [hd1] at h6
          cases h6
          have hle : es.length ≤ j := by
            rcases Nat.lt_or_ge j es.length with z | z
            · rw [List.drop_eq_getElem_cons z] at hd1; cases hd1
            · exact z
          refine .inl ⟨v1 hle, _, B5, acc1, ws1, zs, ?_, s04.trans s5, k5, rz5, h5, ?_⟩
          · have z := rl6.wipe vs
            rw [wipe_sub sub, hw'] at z
            simp only [wipeS_sub sub, e2] at z
            exact z
          · rw [List.append_nil] at hacc
            rw [hacc, List.append_assoc]
            exact hxs
        | cons d1 more1 =>
          rw [hd1] at h6
          obtain ⟨f1, f2, f3⟩ := drop_cons hd1
          obtain ⟨v3, v4⟩ := v2 d1 f1
          refine .inr ⟨v3, fun H' => ∃ q2 B5 acc1 ws1 rest1, Rl G (upd U D (.lst ws1)) pn ⟨wipeS sl vs1, q2⟩ (wipe σ3 vs1) H' B5 ∧ Same B4 B5 ∧ Keep pn H H' ∧ RzA G B5 ws1 acc1 ∧ lcL (wipeS sl vs1) ft1 test1 elt (es.drop (j + 1)) q2 = some (rest1, p3) ∧ acc1 ++ rest1 = acc ++ ys,
            fun H' q => ⟨es.length - (j + 1), by omega, rfl, q⟩, fun x1 H6 hy1 => ?_⟩
          obtain ⟨B6, s6, sh6, mv6, rz6⟩ := v4 x1 H6 hy1
          rw [f2]
          obtain ⟨sl1, hs1, hcase1⟩ := lcL_inv h6
          have rl7 := mv6 _ _ _ rl6
          have k6 : Keep pn H H6 := k5.trans (.of sh6)
          refine hg1 _ _ σ3 (wipe σ3 vs1) H6 B6 x1 d1 sl1 _ rl7 rz6 hs1 (wipe_wipe vs1) fun σ5 hw1 rl8 => ⟨hw1, ?_⟩
          have hw1' : wipe σ5 vs1 = wipe σ3 vs1 := hw1
          have e3 : wipeS sl1 vs1 = wipeS sl vs1 := (hf1 _ _ _ hs1).trans (wipeS_wipe vs1)
          rcases hcase1 with ⟨p4, y, p5, us, c1, c2, c3, rfl⟩ | ⟨p4, c1, c3⟩
          · refine ht1 _ _ σ5 H6 B6 _ _ _ rl8 c1 fun b H7 B7 rl9 s7 k7 hb => ?_
            subst hb
            rw [if_pos rfl]
            refine he _ _ σ5 H7 B7 _ _ _ rl9 c2 fun v H8 B8 rl10 s8 k8 rv => ?_
            obtain ⟨rl11, hp, hB8, np⟩ := rl10.swapU (o' := .lst (ws1 ++ [v])) noC_lst
            have r8 : RzA G B8 (ws1 ++ [v]) (acc1 ++ [y]) := (rz5.same (s6.trans (s7.trans s8))).app (.cons rv .nil)
            have hlen : ws1.length < sizeLine := by
              rw [rz5.length]
              have a1 := congrArg List.length hacc
              have a2 := congrArg List.length hxs
              simp only [List.length_append, List.length_cons] at a1 a2
              exact line_lt (by omega)
            refine ⟨ws1, hp, hlen, p5, B8, acc1 ++ [y], ws1 ++ [v], us, ?_, s5.trans (s6.trans (s7.trans s8)), ?_, r8, c3, by rw [← hacc]; simp⟩
            · have z := rl11.wipe vs1
              rw [hw1'] at z
              simp only [e3] at z
              exact z
            · intro a o ha hn
              have hne : a ≠ D := fun z => by rw [z, hD] at ha; cases ha
              rw [upd_ne hne]
              exact (k6.trans (k7.trans k8)) a o ha hn
          · refine ht1 _ _ σ5 H6 B6 _ _ _ rl8 c1 fun b H7 B7 rl9 s7 k7 hb => ?_
            subst hb
            rw [if_neg (by simp)]
            refine ⟨p4, B7, acc1, ws1, rest1, ?_, s5.trans (s6.trans s7), k6.trans k7, rz5.same (s6.trans s7), c3, hacc⟩
            have z := rl9.wipe vs1
            rw [hw1'] at z
            simp only [e3] at z
            exact z
      · refine ht _ _ σ3 H2 B2 _ _ _ rl3 h2 fun b H3 B3 rl4 s3 k3 hb => ?_
        subst hb
        rw [if_neg (by simp)]
        refine ⟨p1, B3, acc, ws, rest, ?_, s12.trans s3, k2.trans k3, rz1.same (s2.trans s3), h4, hxs⟩
        have z := rl4.wipe vs
        rw [hw'] at z
        simp only [e2] at z
        exact z
  · cases hf
end
end Fw

set_option linter.all false
set_option maxRecDepth 100000
set_option maxHeartbeats 4000000
namespace Fw
open PySem PySem.Spec PyProof.Rows L2
/-! ### a module's table, its keys texts: NAME[k] -/
structure Tab (K : PySem.W.Frag) (w : World) (XC : Str → Option Addr) (mg : Str → Option Value) (x : Str) (p : Addr) (L : List (Str × D)) : Prop where
  m : mg x = some (.ref p)
  at_ : ∀ z d, L.lookup z = some d → ∃ v, KDct K w p z v ∧ ∀ B, Rz ⟨K, XC⟩ B v d
def dTab (L : List (Str × D)) : D → Option D
  | .str z => L.lookup z
  | _ => none
theorem pe_tab {X : Cx} {XC : Str → Option Addr} {x : Str} {p : Addr} {L : List (Str × D)} {q pos : Pos} {e : Expr} {t : TE} (T : Tab X.K X.w XC X.mg x p L) (hg : Gl X x) (he : PE X e t) (hs : PlainIx e := by exact fun _ _ => rfl) (hd : (x == ("__debug__" : Str)) = false := by decide) :
    PE X (.Subscript (.Name x q) e pos) (tOp (rIxD X.K X.w) (tC (.ref p)) t) := pe_ix ix_kdict (pe_glob hg T.m rfl hd) he hs
section
variable {G : Gm} {U : Hp} {pn : Pn} {E : XK} {e : Ev} {σ : L2.St} {H B H' B' H1 B1 : Hp}
theorem ce_tab {K : PySem.W.Frag} {w : World} {XC : Str → Option Addr} {mg : Str → Option Value} {x : Str} {p : Addr} {L : List (Str × D)} {t : TE} {f : FG D} (T : Tab K w XC mg x p L) (h : CE ⟨K, XC⟩ pn E t f) : CE ⟨K, XC⟩ pn E (tOp (rIxD K w) (tC (.ref p)) t) (op1 (dTab L) f) := by
  refine CG.bind (t := t) h fun v a U e σ H B r p' Q rl rz hf post => ?_
  obtain ⟨c, hc, rfl, rfl⟩ := optG_eq hf
  unfold dTab at hc
  split at hc
  · next z =>
    obtain ⟨v0, kd, rv⟩ := T.at_ z c hc
    cases rz.str_inv
    exact ⟨p, z, v0, rfl, rfl, kd, post v0 H B rl (Same.refl _) Keep.refl (rv B)⟩
  · cases hc
end
end Fw

set_option linter.all false
set_option maxRecDepth 100000
set_option maxHeartbeats 4000000
namespace Fw
open PySem PySem.Spec PyProof.Rows L2
/-! ### what the written part holds, read by evaluation: constants and tables of the module -/
def mapO {α β : Type} (f : α → Option β) : List α → Option (List β)
  | [] => some []
  | x :: xs => match f x with
    | some y => (match mapO f xs with
      | some ys => some (y :: ys)
      | none => none)
    | none => none
def kTup (K : PySem.W.Frag) (a : Addr) : Option (List Value) := match K.lookup a with
  | some ⟨.type c, _, .seq its _, _⟩ => (match decide (c = "tuple") && decide (its.size ≤ sizeLine) with
    | true => some its.toList
    | false => none)
  | _ => none
def kRd (K : PySem.W.Frag) : Nat → Value → Option D
  | 0, _ => none
  | n + 1, u => match u with
    | .int i _ => some (.int i)
    | .str x _ => some (.str x)
    | .bool b => some (.bool b)
    | .none => some .none
    | .ref a => (match kTup K a with
      | some us => (match mapO (kRd K n) us with
        | some ds => some (kD ds)
        | none => none)
      | none => none)
    | _ => none
section
variable {K : PySem.W.Frag} {XC : Str → Option Addr} {mg : Str → Option Value} {w : World}
theorem kTup_ok {a : Addr} {us : List Value} {vs : List V} (h : kTup K a = some us) (r : Vals vs us) : KT K a vs := by
  unfold kTup at h
  split at h
  · next c od its n osl hl =>
    split at h
    · next z =>
      cases h
      obtain ⟨z1, z2⟩ := Bool.and_eq_true_iff.mp z
      exact ⟨_, its, n, hl, by rw [of_decide_eq_true z1], rfl, of_decide_eq_true z2, r⟩
    · cases h
  · cases h
theorem mapO_ok {f : Value → Option D} (hf : ∀ u d, f u = some d → ∃ v, RelV v u ∧ ∀ XC B, Rz ⟨K, XC⟩ B v d) : ∀ {us : List Value} {ds : List D}, mapO f us = some ds → ∃ vs, Vals vs us ∧ ∀ XC B, RzA ⟨K, XC⟩ B vs ds
  | [], _, h => by cases h; exact ⟨[], .nil, fun _ _ => .nil⟩
  | u :: us, ds, h => by
    unfold mapO at h
    split at h
    · next y hy =>
      split at h
      · next ys hys =>
        cases h
        obtain ⟨v, r, z⟩ := hf u y hy
        obtain ⟨vs, rs, zs⟩ := mapO_ok hf hys
        exact ⟨v :: vs, .cons r rs, fun XC B => .cons (z XC B) (zs XC B)⟩
      · cases h
    · cases h
theorem kRd_ok : ∀ {n : Nat} {u : Value} {d : D}, kRd K n u = some d → ∃ v, RelV v u ∧ ∀ XC B, Rz ⟨K, XC⟩ B v d
  | 0, _, _, h => by cases h
  | n + 1, u, d, h => by
    unfold kRd at h
    split at h
    · cases h; exact ⟨.int _, ⟨_, rfl⟩, fun _ _ => .int _⟩
    · cases h; exact ⟨.str _, ⟨_, rfl⟩, fun _ _ => .str _⟩
    · next b => cases h; exact ⟨.bl b, rfl, fun _ _ => .bl _⟩
    · cases h; exact ⟨.non, rfl, fun _ _ => .non⟩
    · next a =>
      split at h
      · next us hu =>
        split at h
        · next ds hd =>
          cases h
          obtain ⟨vs, r, z⟩ := mapO_ok (fun u d => kRd_ok) hd
          exact ⟨.ref a, rfl, fun XC B => .kt (kTup_ok hu r) (z XC B)⟩
        · cases h
      · cases h
    · cases h
theorem Cst.of {x : Str} {u : Value} {d : D} (n : Nat) (hm : mg x = some u) (h : kRd K n u = some d) : ∃ v, Cst K XC mg x v d := by
  obtain ⟨v, r, z⟩ := kRd_ok h
  exact ⟨v, ⟨_, hm, r⟩, z XC⟩
def kAt (K : PySem.W.Frag) (p : Addr) (n : Nat) (x : Str) : Option D := match PySem.W.nsIn K p x with
  | some (some u) => kRd K n u
  | _ => none
theorem Tab.of {x : Str} {p : Addr} {L : List (Str × D)} (n : Nat) (hm : mg x = some (.ref p)) (h1 : He.dicW K p = some (He.keysIn w.params (L.map (·.1)))) (h2 : mapO (fun q : Str × D => kAt K p n q.1) L = some (L.map (·.2))) : Tab K w XC mg x p L := by
  refine ⟨hm, fun z d hz => ?_⟩
  obtain ⟨es, n', k⟩ := He.dicW_ok (w := w) h1
  have hmem : ∀ {l : List (Str × D)}, mapO (fun q : Str × D => kAt K p n q.1) l = some (l.map (·.2)) → ∀ {z d}, l.lookup z = some d → kAt K p n z = some d := by
    intro l
    induction l with
    | nil => intro _ z d h; cases h
    | cons q l ih =>
      intro h z d hl
      unfold mapO at h
      split at h
      · next y hy =>
        split at h
        · next ys hys =>
          rw [List.map_cons] at h
          obtain ⟨e1, e2⟩ := List.cons.inj (Option.some.inj h)
          obtain ⟨q1, q2⟩ := q
          rw [List.lookup_cons] at hl
          split at hl
          · next hb => cases hl; rw [beq_iff_eq.mp hb]; exact hy.trans (by rw [e1])
          · exact ih (by rw [hys, e2]) hl
        · cases h
      · cases h
  have e := hmem h2 hz
  unfold kAt at e
  split at e
  · next u hu =>
    obtain ⟨v, r, zz⟩ := kRd_ok e
    exact ⟨v, ⟨es, n', u, k.1, k.lit, hu, r⟩, zz XC⟩
  · cases e
end
end Fw

set_option linter.all false
namespace Sb
open PySem PySem.Spec PyProof.Rows L2
def top (i : Nat) : Stmt := PySem.Challenge.pw_sparkboard_k17_whole_shapes_and_rows.main.body.getD i (.Pass ⟨0, 0, 0, 0⟩)
end Sb

set_option linter.all false
set_option maxRecDepth 100000
set_option maxHeartbeats 4000000
/-! sorted of lists of pairs: pairs of ints, pairs of pairs of ints -/
namespace SrtD
open PySem PySem.W PyProof.Rows SrtO
section
variable {prog : Program} {w : World} {A : Around} {s : Shared} {β γ : Type} [DecidableEq β] [DatumOrd β] [DecidableEq γ] [DatumOrd γ]
theorem pair_back {h : Heap} {v : Value} {x : β × γ} (H : Holds h v x) : ∃ a o f g n, v = .ref a ∧ h.get? a = some o ∧ o.cls = .type "tuple" ∧ o.data = .seq #[f, g] n ∧ Holds h f x.1 ∧ Holds h g x.2 := by
  obtain ⟨as, r⟩ := H
  have r : Reads h v (.tuple [Datum.toD x.1, Datum.toD x.2]) as := r
  cases r with
  | @tuple a o vs n _ _ ho hc hd rs =>
    obtain ⟨l⟩ := vs
    cases rs with
    | cons r1 t =>
      cases t with
      | cons r2 t2 =>
        cases t2
        exact ⟨a, o, _, _, n, rfl, ho, hc, hd, ⟨_, r1⟩, ⟨_, r2⟩⟩
/-- what first items are: their type, how two of them are told apart -/
structure Fst (β : Type) [DecidableEq β] [DatumOrd β] (T : Value) : Prop where
  ty : ∀ (h : Heap) (v : Value) (x : β) (M : Model), Holds h v x → Looks M h (typeOf v) T
  one : ∀ (prog : Program) (w : World) (A : Around) (s : Shared) (p q : Value) (x y : β) (Q : Bool → Shared → Prop) (E : Value → Shared → Prop), A.units + 64 < cLine → Holds s.heap p x → Holds s.heap q y → Q (DatumOrd.lt x y) s → wpAny (model prog w) A (oneLt' (T != .type "tuple") p q) Q E s
  tt : (T == T) = true
  dp : Datum.depth β ≤ 30
theorem fst_int : Fst Int (.type "int") where
  ty h v x M H := by
    obtain ⟨as, r⟩ := H
    have r : Reads h v (.int x) as := r
    cases r
    exact Looks.now
  one prog w A s p q x y Q E hu H1 H2 hq := by
    obtain ⟨as, r⟩ := H1
    have r : Reads s.heap p (.int x) as := r
    obtain ⟨bs, r2⟩ := H2
    have r2 : Reads s.heap q (.int y) bs := r2
    cases r
    cases r2
    rw [show ((Value.type "int") != Value.type "tuple") = true by first | decide +kernel | rfl | decide]
    exact oneLt_int hq
  tt := by rfl
  dp := Nat.zero_le _
theorem one_gen {p q : Value} {x y : β} {Q : Bool → Shared → Prop} {E : Value → Shared → Prop} (hd : Datum.depth β ≤ 30) (hu : A.units + 64 < cLine) (H1 : Holds s.heap p x) (H2 : Holds s.heap q y) (hq : Q (DatumOrd.lt x y) s) : wpAny (model prog w) A (oneLt' false p q) Q E s :=
  kat_one _ _ (lt_datum H1 H2 (by omega) hq)
theorem fst_pair (hd : Datum.depth (β × γ) ≤ 30) : Fst (β × γ) (.type "tuple") where
  ty h v x M H := by
    obtain ⟨a, o, f, g, n, rfl, ho, hc, _⟩ := pair_back H
    exact fun A Q E s k q => wpAny_typeOf_ref (k _ _ ho) (by rw [hc]; exact q)
  one prog w A s p q x y Q E hu H1 H2 hq := by
    rw [show ((Value.type "tuple") != Value.type "tuple") = false by first | decide +kernel | rfl | decide]
    exact one_gen hd hu H1 H2 hq
  tt := by rfl
  dp := hd
theorem eq_at {p q : Value} {x y : β} (hd : Datum.depth β ≤ 30) (hu : A.units + 64 < cLine) (H1 : Holds s.heap p x) (H2 : Holds s.heap q y) : SeqAt.EqAt A s p q (decide (x = y)) := by
  obtain ⟨as, r⟩ := H1
  obtain ⟨bs, r2⟩ := H2
  rw [← Datum.eqv]
  refine eqAt_alike _ _ A s p q as bs r r2 (DatumOrd.alike x y) ?_
  have := Datum.depth_le x
  omega
theorem lt_pair {x y : β × γ} : DatumOrd.lt x y = if x.1 = y.1 then DatumOrd.lt x.2 y.2 else DatumOrd.lt x.1 y.1 := rfl
theorem ltD_self (x : β) : DatumOrd.lt x x = false := by
  rw [← DatumOrd.lt_eq]
  exact dataLt_self _
theorem cmp_pairs {T : Value} (F : Fst β T) (hg : Datum.depth γ ≤ 30) (hu : A.units + 64 < cLine) {vs : List Value} {k : Value → β × γ} (hp : ∀ v ∈ vs, Holds s.heap v (k v)) : SrtO.Cmp prog w A s (tuples' (T != .type "tuple")) (fun p => p.1 ∈ vs) (lt2 fun v u => DatumOrd.lt (k v) (k u)) := by
  intro p q hm hm'
  have h1 := hp _ hm
  have h2 := hp _ hm'
  show wpAny (model prog w) A (keyLt' (tuples' (T != .type "tuple")) p.1 q.1) (fun r s' => s' = s ∧ r = DatumOrd.lt (k p.1) (k q.1)) (fun _ _ => False) s
  generalize k p.1 = x at h1 ⊢
  generalize k q.1 = y at h2 ⊢
  obtain ⟨a, o, f, g, n, e, ho, hc, hd, hf, hgg⟩ := pair_back h1
  obtain ⟨a', o', f', g', n', e', ho', hc', hd', hf', hg'⟩ := pair_back h2
  rw [e, e']
  refine kat_lt ho hd ho' hd' ?_
  show KatLex prog w A _ (decide (2 < 2)) _ [(f, f'), (g, g')] 0 s
  refine kat_cons (eq_at F.dp hu hf hf' prog w _ _ ?_)
  refine kat_go (fun e1 => ?_) (fun e1 => ?_)
  · have ex : x.1 = y.1 := by simpa using e1
    refine kat_yes (kat_cons (eq_at hg hu hgg hg' prog w _ _ ?_))
    refine kat_go (fun e2 => ?_) (fun e2 => ?_)
    · have ey : x.2 = y.2 := by simpa using e2
      refine kat_yes (kat_nil ⟨rfl, ?_⟩)
      rw [show x = y from Prod.ext ex ey, ltD_self]
      rfl
    · refine kat_no ?_
      rw [show ((T != Value.type "tuple") && (0 + 1 == 0)) = false by cases (T != Value.type "tuple") <;> rfl]
      refine one_gen hg hu hgg hg' ⟨rfl, ?_⟩
      rw [lt_pair, if_pos ex]
  · have ex : ¬ x.1 = y.1 := by simpa using e1
    refine kat_no ?_
    rw [show ((T != Value.type "tuple") && (0 == 0)) = (T != Value.type "tuple") by cases (T != Value.type "tuple") <;> rfl]
    refine F.one prog w A s f f' x.1 y.1 _ _ hu hf hf' ⟨rfl, ?_⟩
    rw [lt_pair, if_neg ex]
theorem firsts_pairs {h : Heap} {k : Value → β × γ} : ∀ {vs : List Value}, (∀ v ∈ vs, Holds h v (k v)) → ∃ fs : List Value, KatTups h vs fs ∧ fs.length = vs.length ∧ ∀ f ∈ fs, ∃ x : β, Holds h f x
  | [], _ => ⟨[], KatTups.nil, rfl, fun _ hm => nomatch hm⟩
  | v :: vs, hp => by
    obtain ⟨fs, h1, h2, h3⟩ := firsts_pairs (vs := vs) fun v' hm => hp v' (List.mem_cons_of_mem _ hm)
    obtain ⟨a, o, f, g, n, e, ho, hc, hd, hf, hg⟩ := pair_back (hp v (List.mem_cons_self ..))
    rw [e]
    refine ⟨f :: fs, KatTups.cons ho hc hd rfl h1, congrArg Nat.succ h2, fun z hm => ?_⟩
    rcases List.mem_cons.mp hm with rfl | hm
    · exact ⟨_, hf⟩
    · exact h3 z hm
theorem sorts {T : Value} (F : Fst β T) (hg : Datum.depth γ ≤ 30) (hu : A.units + 64 < cLine) {a : Addr} {vs : List Value} {k : Value → β × γ} (h0 : 0 < vs.length) (hp : ∀ (h' : Heap), (∀ b o, b ≠ a → s.heap.get? b = some o → h'.get? b = some o) → ∀ v ∈ vs, Holds h' v (k v)) : SortableO prog w A s a vs fun v u => DatumOrd.lt (k v) (k u) := by
  intro h' keep
  have hp' := hp h' keep
  obtain ⟨fs, h1, h2, h3⟩ := firsts_pairs hp'
  refine ⟨tuples' (T != .type "tuple"), fun Q E hq => ?_, cmp_pairs (s := { s with heap := h' }) F hg hu hp'⟩
  refine kat_kind (s := { s with heap := h' }) (T := T) h1 (by omega) (fun f hm => ?_) F.tt hq
  obtain ⟨x, hx⟩ := h3 f hm
  exact F.ty _ _ x _ hx
end
end SrtD
namespace SrtD
open PySem PySem.W PyProof.Rows SrtO
/-- a whole order -/
class Whole (α : Type) [DecidableEq α] [DatumOrd α] : Prop where
  asym : ∀ x y : α, DatumOrd.lt x y = true → DatumOrd.lt y x = false
  tri : ∀ x y : α, DatumOrd.lt x y = false → DatumOrd.lt y x = false → x = y
  tr : ∀ x y z : α, DatumOrd.lt x y = true → DatumOrd.lt y z = true → DatumOrd.lt x z = true
theorem lt_intD (x y : Int) : DatumOrd.lt x y = decide (x < y) := rfl
instance : Whole Int where
  asym x y h := by
    rw [lt_intD] at h ⊢
    have := of_decide_eq_true h
    exact decide_eq_false (by omega)
  tri x y h k := by
    rw [lt_intD] at h k
    have := of_decide_eq_false h
    have := of_decide_eq_false k
    omega
  tr x y z h k := by
    rw [lt_intD] at h k ⊢
    have := of_decide_eq_true h
    have := of_decide_eq_true k
    exact decide_eq_true (by omega)
section
variable {α β γ : Type} [DecidableEq α] [DatumOrd α] [Whole α] [DecidableEq β] [DatumOrd β] [Whole β] [DecidableEq γ] [DatumOrd γ] [Whole γ]
instance : Whole (β × γ) where
  asym x y h := by
    rw [lt_pair] at h ⊢
    by_cases e : x.1 = y.1
    · rw [if_pos e] at h
      rw [if_pos e.symm]
      exact Whole.asym _ _ h
    · rw [if_neg e] at h
      rw [if_neg (fun z => e z.symm)]
      exact Whole.asym _ _ h
  tri x y h k := by
    rw [lt_pair] at h k
    by_cases e : x.1 = y.1
    · rw [if_pos e] at h
      rw [if_pos e.symm] at k
      exact Prod.ext e (Whole.tri _ _ h k)
    · rw [if_neg e] at h
      rw [if_neg (fun z => e z.symm)] at k
      exact absurd (Whole.tri _ _ h k) e
  tr x y z h k := by
    rw [lt_pair] at h k ⊢
    by_cases e : x.1 = y.1
    · rw [if_pos e] at h
      by_cases e2 : y.1 = z.1
      · rw [if_pos e2] at k
        rw [if_pos (e.trans e2)]
        exact Whole.tr _ _ _ h k
      · rw [if_neg e2] at k
        rw [if_neg (fun q => e2 (e.symm.trans q)), e]
        exact k
    · rw [if_neg e] at h
      by_cases e2 : y.1 = z.1
      · rw [if_neg (fun q => e (q.trans e2.symm)), ← e2]
        exact h
      · rw [if_neg e2] at k
        have t := Whole.tr _ _ _ h k
        rw [if_neg (fun q => by rw [← q] at k; have := Whole.asym _ _ h; rw [k] at this; cases this)]
        exact t
theorem Whole.no {x y : α} (h : DatumOrd.lt x y = false) : x = y ∨ DatumOrd.lt y x = true := by
  cases e : DatumOrd.lt y x with
  | true => exact .inr rfl
  | false => exact .inl (Whole.tri _ _ h e)
theorem whole_swo {δ : Type} (k : δ → α) : Swo fun v u => DatumOrd.lt (k v) (k u) := by
  refine ⟨fun x y h => Whole.asym _ _ h, fun x y z h1 h2 => ?_⟩
  rcases Whole.no h1 with e | h1
  · rw [e] at h2
    exact h2
  rcases Whole.no h2 with e | h2
  · rw [e]
    exact Whole.asym _ _ h1
  exact Whole.asym _ _ (Whole.tr _ _ _ h1 h2)
def insO (x : α) : List α → List α
  | [] => [x]
  | y :: ys => if DatumOrd.lt y x = true then y :: insO x ys else x :: y :: ys
def sortO : List α → List α
  | [] => []
  | x :: xs => insO x (sortO xs)
theorem insO_perm {x : α} : ∀ {ys : List α}, (insO x ys).Perm (x :: ys)
  | [] => .refl _
  | y :: ys => by
    unfold insO
    split
    · exact (insO_perm.cons y).trans (.swap ..)
    · exact .refl _
theorem insO_pw {x : α} : ∀ {ys : List α}, Srtd DatumOrd.lt ys → Srtd DatumOrd.lt (insO x ys)
  | [], _ => List.pairwise_singleton _ _
  | y :: ys, h => by
    obtain ⟨h1, h2⟩ := List.pairwise_cons.mp h
    unfold insO
    split
    · next c =>
      refine List.pairwise_cons.mpr ⟨fun z hz => ?_, insO_pw h2⟩
      rcases List.mem_cons.mp ((insO_perm (x := x) (ys := ys)).mem_iff.mp hz) with rfl | hz
      · exact Whole.asym _ _ c
      · exact h1 z hz
    · next c =>
      have c : DatumOrd.lt y x = false := by simpa using c
      refine List.pairwise_cons.mpr ⟨fun z hz => ?_, h⟩
      rcases List.mem_cons.mp hz with rfl | hz
      · exact c
      · exact (whole_swo (fun v : α => v)).tr x y z c (h1 z hz)
theorem sortO_perm : ∀ {xs : List α}, (sortO xs).Perm xs
  | [] => .refl _
  | _ :: _ => insO_perm.trans (.cons _ sortO_perm)
theorem sortO_pw : ∀ {xs : List α}, Srtd DatumOrd.lt (sortO xs)
  | [] => .nil
  | _ :: _ => insO_pw sortO_pw
theorem sortO_only {xs ys : List α} (p : ys.Perm xs) (h : Srtd DatumOrd.lt ys) : ys = sortO xs :=
  (p.trans sortO_perm.symm).eq_of_pairwise (fun a b _ _ h1 h2 => Whole.tri _ _ h2 h1) h sortO_pw
end
end SrtD
namespace L2
open PySem PySem.Spec PyProof.Rows
open PySem.W (Datum DatumOrd Holds)
section
variable {β γ : Type} [DecidableEq β] [DatumOrd β] [SrtD.Whole β] [DecidableEq γ] [DatumOrd γ] [SrtD.Whole γ]
/-- each value with what it reads as -/
def Goes (K : PySem.W.Frag) (H : Hp) (z : List (V × (β × γ))) : Prop := ∀ x ∈ z, (∃ t, x.1 = V.ref t) ∧ Dp K H x.1 (Datum.toD x.2)
/-- sorted(xs) of a list of pairs -/
def rSortedDt (β γ : Type) [DecidableEq β] [DatumOrd β] [DecidableEq γ] [DatumOrd γ] (K : PySem.W.Frag) : List V → Hp → VK → Prop := fun vs H Q => ∃ (a : Addr) (z : List (V × (β × γ))), vs = [V.ref a] ∧ SqL K H a (z.map (·.1)) ∧ Goes K H z ∧
  ∀ (y : List (V × (β × γ))) p, y.Perm z → SrtO.Srtd DatumOrd.lt (y.map (·.2)) → H p = none → Q (.ref p) (upd H p (.lst (y.map (·.1))))
theorem cr_sortedDt [Inhabited β] [Inhabited γ] {X : Cx} {T : Value} (F : SrtD.Fst β T) (hg : Datum.depth γ ≤ 30) (hu : X.A.units + 66 < cLine) : CallR X (.builtin "sorted") (rSortedDt β γ X.K) := by
  intro pins s σ H vs us Q I r h
  obtain ⟨a, z, rfl, hs, hx, q⟩ := h
  obtain ⟨its, rv, hl, hz⟩ := I.list hs
  obtain ⟨u, rfl, ru⟩ := vals1 r
  obtain rfl : u = Value.ref a := ru
  obtain ⟨e1, e2⟩ := refs_back rv fun x m => by
    obtain ⟨p, hp, rfl⟩ := List.mem_map.mp m
    exact (hx p hp).1
  -- what a value reads as
  have rd : ∀ p ∈ z, ∀ u, RelV p.1 u → Holds s.heap u p.2 := fun p hp u hu => Dp.reads I _ _ _ (hx p hp).2 hu
  have one : ∀ (u : Value) (x y : β × γ), Holds s.heap u x → Holds s.heap u y → x = y := fun u x y h1 h2 => by
    obtain ⟨as, r1⟩ := h1
    obtain ⟨bs, r2⟩ := h2
    have e := (PySem.Reads.unique r1 _ _ r2).1
    have e3 : PyData.eqv (Datum.toD x) (Datum.toD y) = true := by
      rw [← e, Datum.eqv]
      exact decide_eq_true rfl
    rw [Datum.eqv] at e3
    exact of_decide_eq_true e3
  obtain ⟨k, hk⟩ : ∃ k : Value → β × γ, ∀ p ∈ z, ∀ u, RelV p.1 u → k u = p.2 := by
    classical
    refine ⟨fun u => if c : ∃ x, Holds s.heap u x then c.choose else default, fun p hp u hu => ?_⟩
    have c : ∃ x, Holds s.heap u x := ⟨_, rd p hp u hu⟩
    show (if c : ∃ x, Holds s.heap u x then c.choose else default) = _
    rw [dif_pos c]
    exact one u _ _ c.choose_spec (rd p hp u hu)
  have zw : ∀ u ∈ its, ∃ p ∈ z, RelV p.1 u := fun u hu => by
    obtain ⟨b, rfl⟩ := e2 u hu
    have m : backV (.ref b) ∈ z.map (·.1) := by rw [e1]; exact List.mem_map_of_mem hu
    obtain ⟨p, hp, e⟩ := List.mem_map.mp m
    exact ⟨p, hp, by rw [e]; rfl⟩
  have zeq : z = its.map fun u => (backV u, k u) := by
    refine List.ext_getElem (by have := congrArg List.length e1; simpa using this) fun i h1 h2 => ?_
    have hi : i < its.length := by simpa using h2
    have e3 : (z[i]).1 = backV its[i] := by
      have := congrArg (fun l : List V => l[i]?) e1
      simp only [List.getElem?_map, List.getElem?_eq_getElem h1, List.getElem?_eq_getElem hi, Option.map_some, Option.some.injEq] at this
      exact this
    rw [List.getElem_map]
    obtain ⟨b, hb⟩ := e2 its[i] (List.getElem_mem hi)
    have e4 := hk z[i] (List.getElem_mem h1) its[i] (by rw [e3, hb]; rfl)
    exact Prod.ext e3 e4.symm
  have hh : ∀ u ∈ its, Holds s.heap u (k u) := fun u hu => by
    obtain ⟨p, hp, r⟩ := zw u hu
    rw [hk p hp u r]
    exact rd p hp u r
  refine SrtO.sorted_ord (SrtD.whole_swo k) hl.isList (by rw [← rv.length]; exact hz) (fun h2 h₁ a1 ha kk => ?_) fun out hs hb => ?_
  · have hu2 : X.A.in1.in1.units + 64 < cLine := by show X.A.units + 1 + 1 + 64 < cLine; omega
    exact SrtD.sorts F hg hu2 (by omega) fun h' keep v hv => (hh v hv).keeps fun b o e => keep b o (kk b o e).1 (kk b o e).2
  · have h3 : ∀ u ∈ out, ∃ a, u = Value.ref a := fun u hu => e2 u (hb.perm.mem_iff.mp hu)
    have fresh : H (s.heap.objs.size + 1) = none := I.hok.fresh (Nat.le_succ _)
    have ly : (out.map fun u => (backV u, k u)).map (·.1) = out.map backV := by rw [List.map_map]; rfl
    obtain ⟨n, hn⟩ := sortedAll_at s.heap its out.toArray
    refine ⟨.ref (s.heap.objs.size + 1), upd H (s.heap.objs.size + 1) (.lst (out.map backV)), I.laid (t' := s.toks) (fun b o e => sortedAll_old e) (Nat.le_succ _) ⟨?_, out, n, vals_back h3, hn⟩, rfl, ?_⟩
    · show (out.map backV).length ≤ sizeLine
      rw [List.length_map, hb.len]
      have := congrArg List.length e1
      rw [List.length_map, List.length_map] at this
      rw [List.length_map] at hz
      omega
    · have qq := q (out.map fun u => (backV u, k u)) (s.heap.objs.size + 1) (by rw [zeq]; exact hb.perm.map _) (by rw [List.map_map]; exact List.pairwise_map.mpr hs) fresh
      rw [ly] at qq
      exact qq
end
end L2
namespace Fw
open PySem PySem.Spec PyProof.Rows L2
open PySem.W (Datum DatumOrd)
/-! ### sorted of ints, of pairs of ints, of pairs of pairs -/
abbrev I2 := Int × Int
def i2D : D → Option I2
  | .tuple [.int a, .int b] => some (a, b)
  | _ => none
def i22D : D → Option (I2 × I2)
  | .tuple [a, b] => (i2D a).bind fun x => (i2D b).map fun y => (x, y)
  | _ => none
theorem i2D_eq {d : D} {x : I2} (h : i2D d = some x) : d = Datum.toD x := by
  unfold i2D at h
  split at h
  · cases h; rfl
  · cases h
theorem i22D_eq {d : D} {x : I2 × I2} (h : i22D d = some x) : d = Datum.toD x := by
  unfold i22D at h
  split at h
  · next a b =>
    obtain ⟨y, hy, h⟩ := Option.bind_eq_some_iff.mp h
    obtain ⟨z, hz, h⟩ := Option.map_eq_some_iff.mp h
    cases h
    rw [i2D_eq hy, i2D_eq hz]
    rfl
  · cases h
def allO {α : Type} (f : D → Option α) : List D → Option (List α)
  | [] => some []
  | d :: ds => (f d).bind fun x => (allO f ds).map fun xs => x :: xs
theorem allO_eq {α : Type} {f : D → Option α} {e : α → D} (h : ∀ d x, f d = some x → d = e x) : ∀ {ds : List D} {xs : List α}, allO f ds = some xs → ds = xs.map e
  | [], xs, q => by cases q; rfl
  | d :: ds, xs, q => by
    obtain ⟨x, hx, q⟩ := Option.bind_eq_some_iff.mp q
    obtain ⟨ys, hy, q⟩ := Option.map_eq_some_iff.mp q
    cases q
    rw [h d x hx, allO_eq h hy]
    rfl
def sortD2 (ds : List D) : Option (List D) := match allO i2D ds with
  | some xs => some ((SrtD.sortO xs).map Datum.toD)
  | none => (allO i22D ds).map fun xs => (SrtD.sortO xs).map Datum.toD
def dSort : D → Option D
  | .list ds => match intsD ds with
    | some ns => some (.list ((sortI ns).map PyData.int))
    | none => (sortD2 ds).map .list
  | _ => none
def uSort (K : PySem.W.Frag) : List V → Hp → VK → Prop := fun vs H Q => rSortedI K vs H Q ∨ rSortedDt Int Int K vs H Q ∨ rSortedDt I2 I2 K vs H Q
theorem c_sort {X : Cx} (hu : X.A.units + 70 < cLine) : CallR X (.builtin "sorted") (uSort X.K) := by
  intro pins s σ H vs us Q I r h
  rcases h with h | h | h
  · exact cr_sortedI pins s σ H vs us Q I r h
  · exact cr_sortedDt SrtD.fst_int (by decide) (by omega) pins s σ H vs us Q I r h
  · exact cr_sortedDt (SrtD.fst_pair (by decide)) (by decide) (by omega) pins s σ H vs us Q I r h
section
variable {G : Gm} {U : Hp} {pn : Pn} {E : XK} {e : Ev} {σ : L2.St} {H B H' B' H1 B1 : Hp}
theorem RzA.ofZip {α : Type} {f : α → D} : ∀ {y : List (V × α)}, (∀ p ∈ y, Rz G B p.1 (f p.2)) → RzA G B (y.map (·.1)) ((y.map (·.2)).map f)
  | [], _ => .nil
  | p :: y, h => .cons (h p (.head _)) (RzA.ofZip fun q hq => h q (.tail _ hq))
theorem RzA.zipO {α : Type} {f : α → D} : ∀ {xs : List V} {as : List α}, RzA G B xs (as.map f) → ∃ z : List (V × α), z.map (·.1) = xs ∧ z.map (·.2) = as ∧ ∀ p ∈ z, Rz G B p.1 (f p.2)
  | _, [], h => by cases h; exact ⟨[], rfl, rfl, fun p hp => nomatch hp⟩
  | _, a :: as, h => by
    cases h with
    | @cons v vs _ _ h1 t =>
      obtain ⟨z, e1, e2, h3⟩ := RzA.zipO t
      refine ⟨(v, a) :: z, by rw [← e1]; rfl, by rw [← e2]; rfl, fun p hp => ?_⟩
      rcases List.mem_cons.mp hp with rfl | hp
      · exact h1
      · exact h3 p hp
theorem f_sortDt {β γ : Type} [DecidableEq β] [DatumOrd β] [SrtD.Whole β] [DecidableEq γ] [DatumOrd γ] [SrtD.Whole γ] {a1 : Addr} {xs : List V} {as : List (β × γ)} {Q : VK}
    (pl : ∀ x : β × γ, plain (Datum.toD x) = true) (rl : Rl G U pn e σ H B) (h1 : H a1 = some (.lst xs)) (r1 : RzA G B xs (as.map Datum.toD)) (rf : ∀ x ∈ xs, ∃ t, x = V.ref t)
    (q : ∀ p H' B', Fresh G U pn ⟨e.sl, e.pen⟩ σ H' B' p (.list ((SrtD.sortO as).map Datum.toD)) → Same B B' → Keep pn H H' → Q (.ref p) H') : rSortedDt β γ G.K [.ref a1] H Q := by
  obtain ⟨z, e1, e2, h3⟩ := RzA.zipO r1
  refine ⟨a1, z, rfl, by rw [e1]; exact SqL.of h1, fun p hp => ⟨rf _ (by rw [← e1]; exact List.mem_map_of_mem hp), Rz.dp (pl _) ((h3 p hp).same rl.b.bh)⟩, fun y p hy hs hq => ?_⟩
  have e3 : y.map (·.2) = SrtD.sortO as := SrtD.sortO_only (by rw [← e2]; exact hy.map _) hs
  have e4 : RzA G B (y.map (·.1)) ((SrtD.sortO as).map Datum.toD) := by
    rw [← e3]
    exact RzA.ofZip fun p hp => h3 p (hy.mem_iff.mp hp)
  exact q p _ B (rl.fresh hq (.lst upd_same e4)) (Same.refl _) (Keep.of (same_upd hq))
theorem RzA.refs {α : Type} {f : α → D} (h : ∀ a, ∃ ds, f a = .tuple ds) : ∀ {xs : List V} {as : List α}, RzA G B xs (as.map f) → ∀ x ∈ xs, ∃ t, x = V.ref t
  | _, [], r, x, hx => by cases r; cases hx
  | _, a :: as, r, x, hx => by
    cases r with
    | cons h1 t =>
      rcases List.mem_cons.mp hx with rfl | hx
      · obtain ⟨ds, e⟩ := h a
        rw [e] at h1
        obtain ⟨b, _, rfl, _⟩ := h1.tup_inv
        exact ⟨b, rfl⟩
      · exact RzA.refs h t x hx
theorem f_sort : Cf1 G pn (uSort G.K) dSort := by
  intro U e σ H B x a c Q rl ra h q
  unfold dSort at h
  split at h
  · next ds =>
    split at h
    · next ns hn =>
      exact .inl (f_sortI U e σ H B x (.list ds) c Q rl ra (by show Option.map (fun ns => PyData.list (List.map PyData.int (sortI ns))) (intsD ds) = some c; rw [hn]; exact h) q)
    · obtain ⟨es, hs, rfl⟩ := Option.map_eq_some_iff.mp h
      obtain ⟨a1, xs, rfl, h1, n1, r1⟩ := ra.lst_inv
      unfold sortD2 at hs
      split at hs
      · next as ha =>
        cases hs
        rw [allO_eq (fun d x => i2D_eq) ha] at r1
        exact .inr (.inl (f_sortDt (fun x => rfl) rl h1 r1 (RzA.refs (fun a => ⟨_, rfl⟩) r1) q))
      · obtain ⟨as, ha, rfl⟩ := Option.map_eq_some_iff.mp hs
        rw [allO_eq (fun d x => i22D_eq) ha] at r1
        exact .inr (.inr (f_sortDt (fun x => rfl) rl h1 r1 (RzA.refs (fun a => ⟨_, rfl⟩) r1) q))
  · cases h
end
end Fw

set_option linter.all false
set_option maxRecDepth 100000
set_option maxHeartbeats 4000000
namespace L2
open PySem PySem.Spec PyProof.Rows
/-! ### an empty dict is of both kinds -/
theorem empty_kt {P : Program} {w : World} {H H' : Hp} {h : Heap} {a : Addr} (x : ObjOk P w H h a (.dK [])) : ObjOk P w H' h a (.dT []) := by
  obtain ⟨hl, hd, vs, rel, dd⟩ := x
  cases rel
  obtain ⟨o, es, ep, h1, h2, h3, h4, h5, h6⟩ := dd
  refine ⟨hl, hd, [], .nil, o, es, ep, h1, h2, h3, ?_, .nil⟩
  generalize es.toList = l at h5 ⊢
  cases l with
  | nil => rfl
  | cons x l => cases h5
theorem empty_tk {P : Program} {w : World} {H H' : Hp} {h : Heap} {a : Addr} (x : ObjOk P w H h a (.dT [])) : ObjOk P w H' h a (.dK []) := by
  obtain ⟨hl, hd, xs, rel, o, es, ep, h1, h2, h3, h4⟩ := x
  cases rel
  obtain ⟨l⟩ := es
  have h4 : l = [] := h4.1
  subst h4
  exact ⟨hl, hd, [], .nil, o, _, ep, h1, h2, h3, (by intro i h; simp at h), .nil, .nil⟩
section
variable {X : Cx} {pins : List (Addr × Obj)} {σ : St} {H : Hp} {s : Shared} {a : Addr}
theorem there_k {P : Program} {w : World} {H : Hp} {h : Heap} {a : Addr} (x : ObjOk P w H h a (.dK [])) : ∃ q, h.get? a = some q := by
  obtain ⟨_, _, _, _, o, _, _, h1, _⟩ := x
  exact ⟨o, h1⟩
theorem there_t {P : Program} {w : World} {H : Hp} {h : Heap} {a : Addr} (x : ObjOk P w H h a (.dT [])) : ∃ q, h.get? a = some q := by
  obtain ⟨_, _, _, _, o, _, _, h1, _⟩ := x
  exact ⟨o, h1⟩
theorem Inv.swap {u o : HO} (I : Inv X pins σ H s) (e : H a = some u) (m : Mut (some u)) (th : ObjOk X.prog X.w H s.heap a u → ∃ q, s.heap.get? a = some q) (x : ObjOk X.prog X.w H s.heap a u → ObjOk X.prog X.w (upd H a o) s.heap a o) : Inv X pins σ (upd H a o) s := by
  have ok := I.hok a _ e
  obtain ⟨q, hq⟩ := th ok
  exact d_write (t' := s.toks) (h' := s.heap) I (by rw [e]; exact m) ⟨rfl, fun _ _ => rfl⟩ ⟨q, hq⟩ (x ok)
/-- a in the dict y: what it holds there -/
def DGetU (H : Hp) (a : Addr) (y : V) (r : Option V) : Prop := DGet H a y r ∨ (H a = some (.dK []) ∧ DGet (upd H a (.dT [])) a y r) ∨ (H a = some (.dT []) ∧ DGet (upd H a (.dK [])) a y r)
def DPutU (H : Hp) (a : Addr) (y v : V) (H' : Hp) : Prop := DPut H a y v H' ∨ (H a = some (.dK []) ∧ DPut (upd H a (.dT [])) a y v H') ∨ (H a = some (.dT []) ∧ DPut (upd H a (.dK [])) a y v H')
def rSetDU : TSet := fun o i v H Q => ∃ a H', o = .ref a ∧ DPutU H a i v H' ∧ Q H'
theorem upd_back {u o : HO} (e : H a = some u) : upd (upd H a o) a u = H := by
  funext b
  by_cases z : b = a
  · rw [z, upd_same, e]
  · rw [upd_ne z, upd_ne z]
theorem set_dictU (hu : X.A.units + 1 < cLine) : PSet X rSetDU := by
  intro pins s σ H o i v ov iv u Q I ro ri rv h
  obtain ⟨a, H', eo, g, q⟩ := h
  subst eo
  cases (show ov = Value.ref a from ro)
  rcases g with g | ⟨e, g⟩ | ⟨e, g⟩
  · exact d_setItem hu I g ri rv fun s' I' => ⟨H', I', q⟩
  · exact d_setItem hu (I.swap e trivial there_k empty_kt) g ri rv fun s' I' => ⟨H', I', q⟩
  · exact d_setItem hu (I.swap e trivial there_t empty_tk) g ri rv fun s' I' => ⟨H', I', q⟩
def rInU (neg : Bool) : R2 := fun x y H Q => ∃ a o, y = .ref a ∧ DGetU H a x o ∧ Q (.bl (if neg = true then !o.isSome else o.isSome)) H
theorem op_inU (hu : X.A.units + 1 < cLine) : OpR X (compareOp .In) (rInU false) := by
  intro pins s σ H x y v u Q I rx ry h
  obtain ⟨a, o, rfl, g, q⟩ := h
  cases (show u = Value.ref a from ry)
  rcases g with g | ⟨e, g⟩ | ⟨e, g⟩
  · exact d_in hu I g rx fun s' I' => ⟨.bl _, H, I', rfl, q⟩
  · refine d_in hu (I.swap e trivial there_k empty_kt) g rx fun s' I' => ⟨.bl _, H, ?_, rfl, q⟩
    have z := I'.swap upd_same trivial there_t (empty_tk (H' := upd (upd H a (.dT [])) a (.dK [])))
    rw [upd_back e] at z
    exact z
  · refine d_in hu (I.swap e trivial there_t empty_tk) g rx fun s' I' => ⟨.bl _, H, ?_, rfl, q⟩
    have z := I'.swap upd_same trivial there_k (empty_kt (H' := upd (upd H a (.dK [])) a (.dT [])))
    rw [upd_back e] at z
    exact z
theorem op_notInU (hu : X.A.units + 1 < cLine) : OpR X (compareOp .NotIn) (rInU true) := by
  intro pins s σ H x y v u Q I rx ry h
  obtain ⟨a, o, rfl, g, q⟩ := h
  cases (show u = Value.ref a from ry)
  rcases g with g | ⟨e, g⟩ | ⟨e, g⟩
  · exact d_notIn hu I g rx fun s' I' => ⟨.bl _, H, I', rfl, q⟩
  · refine d_notIn hu (I.swap e trivial there_k empty_kt) g rx fun s' I' => ⟨.bl _, H, ?_, rfl, q⟩
    have z := I'.swap upd_same trivial there_t (empty_tk (H' := upd (upd H a (.dT [])) a (.dK [])))
    rw [upd_back e] at z
    exact z
  · refine d_notIn hu (I.swap e trivial there_t empty_tk) g rx fun s' I' => ⟨.bl _, H, ?_, rfl, q⟩
    have z := I'.swap upd_same trivial there_k (empty_kt (H' := upd (upd H a (.dK [])) a (.dT [])))
    rw [upd_back e] at z
    exact z
end
end L2
namespace Fw
open PySem PySem.Spec PyProof.Rows L2
/-! ### dicts whose keys are ints, texts, or tuples of them -/
def keyLs : List D → Option (List Key)
  | [] => some []
  | d :: ds => (keyOf d).bind fun k => (keyLs ds).map fun ks => k :: ks
theorem keyLs_eq : ∀ {ds : List D} {ks : List Key}, keyLs ds = some ks → ds = ks.map keyD
  | [], ks, h => by cases h; rfl
  | d :: ds, ks, h => by
    obtain ⟨k, h1, h⟩ := Option.bind_eq_some_iff.mp h
    obtain ⟨l, h2, h⟩ := Option.map_eq_some_iff.mp h
    cases h
    rw [keyOf_eq h1, keyLs_eq h2]
    rfl
/-- which keys: of one sign, tuples -/
inductive KK where
  | one (k : Key) | many (ks : List Key)
def kkOf : D → Option KK
  | .int i => some (.one (.inl i))
  | .str s => some (.one (.inr s))
  | .tuple ds => (keyLs ds).map .many
  | _ => none
def isOne (d : D) : Bool := (keyOf d).isSome
def isMany : D → Bool
  | .tuple _ => true
  | _ => false
/-- whether the keys of a dict go with a key -/
def fits (kvs : List (D × D)) : KK → Bool
  | .one _ => kvs.all fun p => isOne p.1
  | .many _ => kvs.all fun p => isMany p.1
/-- what d holds at k, if d is such a dict -/
def dAt (d k : D) : Option (Option D) := match d with
  | .dict kvs => (kkOf k).bind fun kk => if fits kvs kk = true then some (getD' kvs k) else none
  | _ => none
section
variable {G : Gm} {U : Hp} {pn : Pn} {E : XK} {e : Ev} {σ : L2.St} {H B H' B' H1 B1 : Hp}
theorem kk_one {d : D} {k : Key} (h : kkOf d = some (.one k)) : d = keyD k := by
  unfold kkOf at h
  split at h
  · cases h; rfl
  · cases h; rfl
  · obtain ⟨_, _, h⟩ := Option.map_eq_some_iff.mp h; cases h
  · cases h
theorem kk_many {d : D} {ks : List Key} (h : kkOf d = some (.many ks)) : d = keyT ks := by
  unfold kkOf at h
  split at h
  · cases h
  · cases h
  · obtain ⟨l, h1, h⟩ := Option.map_eq_some_iff.mp h
    cases h
    rw [keyLs_eq h1]
    rfl
  · cases h
theorem keyV_many {v : V} {ks : List Key} (rl : Rl G U pn e σ H B) (h : RzB G pn B H v (keyT ks)) : ∃ b, v = .ref b ∧ B b = some (.tup (ks.map kV)) := by
  obtain ⟨b, xs, rfl, hb, hr⟩ := h.tup_inv
  have e1 : ∀ {ks : List Key} {xs : List V}, RzA G B xs (ks.map keyD) → xs = ks.map kV := by
    intro ks
    induction ks with
    | nil => intro xs h; cases h; rfl
    | cons k ks ih =>
      intro xs h
      cases h with
      | cons h1 h2 =>
        rw [ih h2]
        cases k with
        | inl i => rw [h1.int_inv]; rfl
        | inr s => rw [h1.str_inv]; rfl
  rw [e1 hr] at hb
  exact ⟨b, rfl, hb⟩
/-- a dict, seen from without -/
theorem dict_inv {v : V} {kvs : List (D × D)} {kk : KK} (h : RzB G pn B H v (.dict kvs)) (f : fits kvs kk = true) : ∃ p, v = .ref p ∧ NP pn p ∧
    ((∃ ks ds, H p = some (.dK ks) ∧ RzA G B (ks.map (·.2)) ds ∧ kvs = (ks.map fun k => keyD k.1).zip ds) ∨ ∃ ks ds, H p = some (.dT ks) ∧ RzA G B (ks.map (·.2)) ds ∧ kvs = (ks.map fun k => keyT k.1).zip ds) := by
  generalize hd : PyData.dict kvs = d at h
  cases h with
  | dk h n hs => cases hd; exact ⟨_, rfl, n, .inl ⟨_, _, h, hs, rfl⟩⟩
  | dt h n hs => cases hd; exact ⟨_, rfl, n, .inr ⟨_, _, h, hs, rfl⟩⟩
  | ins h h2 h3 hs => cases hd; cases kk <;> simp [fits, isOne, isMany, keyOf] at f
  | fn h => cases hd; cases kk <;> simp [fits, isOne, isMany, keyOf] at f
  | kt h hs => cases hd; cases kk <;> simp [fits, isOne, isMany, keyOf] at f
  | _ => cases hd
theorem getD_one {k : Key} {ks : List (Key × V)} {ds : List D} (hr : RzA G B (ks.map (·.2)) ds) : (getD' ((ks.map fun k => keyD k.1).zip ds) (keyD k)).isSome = (valV ks k).isSome := by
  cases h : getD' ((ks.map fun k => keyD k.1).zip ds) (keyD k) with
  | none => rw [get_none kEq_key hr h]; rfl
  | some d => obtain ⟨v, h1, _⟩ := get_some kEq_key hr h; rw [h1]; rfl
theorem getD_many {k : List Key} {ks : List (List Key × V)} {ds : List D} (hr : RzA G B (ks.map (·.2)) ds) : (getD' ((ks.map fun k => keyT k.1).zip ds) (keyT k)).isSome = (valV ks k).isSome := by
  cases h : getD' ((ks.map fun k => keyT k.1).zip ds) (keyT k) with
  | none => rw [get_none kEq_tup hr h]; rfl
  | some d => obtain ⟨v, h1, _⟩ := get_some kEq_tup hr h; rw [h1]; rfl
/-- what is held at a key: the machine's word -/
theorem dAt_run {v w : V} {d k : D} {r : Option D} (rl : Rl G U pn e σ H B) (rd : RzB G pn B H v d) (rk : RzB G pn B H w k) (h : dAt d k = some r) :
    ∃ p o, v = .ref p ∧ DGetU H p w o ∧ o.isSome = r.isSome ∧ ∀ x, r = some x → ∃ y, o = some y ∧ Rz G B y x := by
  unfold dAt at h
  split at h
  · next kvs =>
    obtain ⟨kk, hk, h⟩ := Option.bind_eq_some_iff.mp h
    split at h
    · next hf =>
      cases h
      obtain ⟨p, rfl, n, c⟩ := dict_inv rd hf
      cases kk with
      | one k1 =>
        cases kk_one hk
        cases rk.keyV
        rcases c with ⟨ks, ds, hp, hr, rfl⟩ | ⟨ks, ds, hp, hr, rfl⟩
        · refine ⟨p, _, rfl, .inl (DGet.k hp), (getD_one hr).symm, fun x hx => ?_⟩
          exact get_some kEq_key hr hx
        · have e1 : (ks.map fun k => keyT k.1).zip ds = [] := by
            cases ks with
            | nil => rfl
            | cons q ks => cases hr with
              | cons _ _ => simp [fits, isOne, keyT, keyOf] at hf
          have e2 : ks = [] := by
            cases ks with
            | nil => rfl
            | cons q ks => cases hr with
              | cons _ _ => cases e1
          subst e2
          rw [e1]
          exact ⟨p, none, rfl, .inr (.inr ⟨hp, DGet.k (kvs := []) upd_same⟩), rfl, fun x hx => nomatch hx⟩
      | many k1 =>
        cases kk_many hk
        obtain ⟨b, rfl, hb⟩ := keyV_many rl rk
        have hb := rl.b.bh _ _ hb
        rcases c with ⟨ks, ds, hp, hr, rfl⟩ | ⟨ks, ds, hp, hr, rfl⟩
        · have e1 : (ks.map fun k => keyD k.1).zip ds = [] := by
            cases ks with
            | nil => rfl
            | cons q ks => cases hr with
              | cons _ _ => obtain ⟨q, u⟩ := q; cases q <;> simp [fits, isMany, keyD] at hf
          have e2 : ks = [] := by
            cases ks with
            | nil => rfl
            | cons q ks => cases hr with
              | cons _ _ => cases e1
          subst e2
          rw [e1]
          refine ⟨p, none, rfl, .inr (.inl ⟨hp, DGet.t (kvs := []) (k := k1) upd_same ?_⟩), rfl, fun x hx => nomatch hx⟩
          rw [upd_ne (fun z => by rw [z, hp] at hb; cases hb)]
          exact hb
        · refine ⟨p, _, rfl, .inl (DGet.t hp hb), (getD_many hr).symm, fun x hx => ?_⟩
          exact get_some kEq_tup hr hx
    · cases h
  · cases h
def dInD (k d : D) : Option D := (dAt d k).map fun r => .bool r.isSome
def dInU (k d : D) : Option D := match dIn k d with
  | some r => some r
  | none => dInD k d
def dNotInU (k d : D) : Option D := match dNotIn k d with
  | some r => some r
  | none => (dAt d k).map fun r => .bool (!r.isSome)
def uInU (K : PySem.W.Frag) : R2 := fun x y H Q => uIn K x y H Q ∨ rInU false x y H Q
def uNotInU (K : PySem.W.Frag) : R2 := fun x y H Q => uNotIn K x y H Q ∨ rInU true x y H Q
theorem OpR.or2 {X : Cx} {f : Value → Value → Sem Value} {r r' : R2} (h : OpR X f r) (h' : OpR X f r') : OpR X f (fun x y H Q => r x y H Q ∨ r' x y H Q) :=
  fun pins s σ H x y v u Q I rx ry c => c.elim (h pins s σ H x y v u Q I rx ry) (h' pins s σ H x y v u Q I rx ry)
theorem o_inU {X : Cx} (hu : X.A.units + 65 < cLine) : OpR X (compareOp .In) (uInU X.K) := OpR.or2 (o_in hu) (op_inU (by omega))
theorem o_notInU {X : Cx} (hu : X.A.units + 65 < cLine) : OpR X (compareOp .NotIn) (uNotInU X.K) := OpR.or2 (o_notIn hu) (op_notInU (by omega))
theorem ob_inU : OpB G pn (uInU G.K) dInU := by
  intro U e σ H B x y a b c Q rl ra rb h q
  unfold dInU at h
  split at h
  · next r hr =>
    cases h
    exact .inl (ob_in U e σ H B x y a b c Q rl ra rb hr q)
  · obtain ⟨r, hr, rfl⟩ := Option.map_eq_some_iff.mp h
    obtain ⟨p, o, rfl, g, e1, _⟩ := dAt_run rl rb ra hr
    refine .inr ⟨p, o, rfl, g, ?_⟩
    rw [e1]
    exact q _ H B rl (Same.refl _) Keep.refl (.bl _)
theorem ob_notInU : OpB G pn (uNotInU G.K) dNotInU := by
  intro U e σ H B x y a b c Q rl ra rb h q
  unfold dNotInU at h
  split at h
  · next r hr =>
    cases h
    exact .inl (ob_notIn U e σ H B x y a b c Q rl ra rb hr q)
  · obtain ⟨r, hr, rfl⟩ := Option.map_eq_some_iff.mp h
    obtain ⟨p, o, rfl, g, e1, _⟩ := dAt_run rl rb ra hr
    refine .inr ⟨p, o, rfl, g, ?_⟩
    rw [e1]
    exact q _ H B rl (Same.refl _) Keep.refl (.bl _)
/-! ### d[k] = e, d one's own -/
def ownK (i : Nat) (e : Ev) : Option (List (D × D)) := match e.sl[i]? with
  | some (.o (.dict kvs)) => some kvs
  | _ => none
theorem ownK_eq {i : Nat} {e : Ev} {kvs : List (D × D)} (h : ownK i e = some kvs) : e.sl[i]? = some (.o (.dict kvs)) := by
  unfold ownK at h
  split at h
  · next hx => cases h; exact hx
  · cases h
/-- the store: a list's place, a dict's key -/
def subU (i : Nat) (fk : FG D) : FV := fun d e => match ownK i e with
  | none => subV i fk d e
  | some _ => match fk e with
    | some (.v k, p) => (ownK i ⟨e.sl, p⟩).bind fun kvs => (kkOf k).bind fun kk => if fits kvs kk = true ∧ kvs.length ≤ 1000000 then some ⟨e.sl.set i (.o (.dict (putD kvs k d))), p⟩ else none
    | _ => none
def rSetU : TSet := fun o i v H Q => rSetL o i v H Q ∨ rSetDU o i v H Q
theorem set_U {X : Cx} (hu : X.A.units + 65 < cLine) : PSet X rSetU := fun pins s σ H o i v ov iv u Q I ro ri rv h =>
  h.elim (set_list pins s σ H o i v ov iv u Q I ro ri rv) (set_dictU (by omega) pins s σ H o i v ov iv u Q I ro ri rv)
theorem own_dict {p : Addr} {kvs : List (D × D)} (h : OwnAt G B H p (.dict kvs)) : (∃ ks ds, H p = some (.dK ks) ∧ RzA G B (ks.map (·.2)) ds ∧ kvs = (ks.map fun k => keyD k.1).zip ds) ∨ ∃ ks ds, H p = some (.dT ks) ∧ RzA G B (ks.map (·.2)) ds ∧ kvs = (ks.map fun k => keyT k.1).zip ds := by
  generalize hd : PyData.dict kvs = d at h
  cases h with
  | lst h hs => cases hd
  | dk h hs => cases hd; exact .inl ⟨_, _, h, hs, rfl⟩
  | dt h hs => cases hd; exact .inr ⟨_, _, h, hs, rfl⟩
theorem putK_le1 {κ : Type} [DecidableEq κ] {ks : List (κ × V)} {ds : List D} {enc : κ → D} (hr : RzA G B (ks.map (·.2)) ds) (hl : ((ks.map fun k => enc k.1).zip ds).length ≤ 1000000) : ks.length < sizeLine := by
  have e := hr.length
  rw [List.length_map] at e
  rw [List.length_zip, List.length_map, ← e, Nat.min_self] at hl
  exact line_lt hl
theorem v_subU {i : Nat} {tk : TE} {fk : FG D} (hk : CE G pn E tk fk) : CV G pn (gSub (tVar i) tk rSetU) (subU i fk) := by
  intro U e σ H B v d e' Q rl rz h q
  unfold subU at h
  split at h
  · -- a list
    have h1 := v_sub (G := G) (pn := pn) (E := E) (i := i) hk U e σ H B v d e' Q rl rz h q
    obtain ⟨x, hx, h2⟩ := h1
    refine ⟨x, hx, ?_⟩
    obtain ⟨ds0, h0, h⟩ := Option.bind_eq_some_iff.mp h
    split at h
    · next k p hk' =>
      clear h2
      have h3 := v_sub (G := G) (pn := pn) (E := E) (i := i) hk U e σ H B v d e' Q rl rz (by unfold subV; rw [h0]; dsimp only [Option.bind_some]; rw [hk']; exact h) q
      obtain ⟨x', hx', h4⟩ := h3
      rw [hx] at hx'
      cases hx'
      obtain ⟨ds, h6, h7⟩ := Option.bind_eq_some_iff.mp h
      obtain ⟨j, h8, h9⟩ := Option.map_eq_some_iff.mp h7
      cases h9
      obtain ⟨p0, xs0, e0, e2, e3⟩ := rl.lst h0
      rw [hx] at e0
      cases e0
      refine hk U e σ H B _ _ _ rl hk' fun w H1 B1 rl1 s1 k1 rw => ?_
      obtain ⟨p', xs', e1', e2', e3'⟩ := rl1.lst (i := i) (ds := ds) h6
      rw [hx] at e1'
      cases e1'
      cases rw.int_inv
      exact .inl ⟨p0, xs', k, j, rfl, rfl, e2', by rw [e3'.length]; exact h8, q σ _ B1 (rl1.lstPut h6 hx (e3'.set (rz.same s1) j)) s1⟩
    · cases h
  · next kv0 hk0 =>
    split at h
    · next k p hk' =>
      obtain ⟨kvs, h1, h⟩ := Option.bind_eq_some_iff.mp h
      obtain ⟨kk, h2, h⟩ := Option.bind_eq_some_iff.mp h
      split at h
      · next hf =>
        cases h
        obtain ⟨p0, e0, _⟩ := rl.getO (ownK_eq hk0)
        refine ⟨_, e0, hk U e σ H B _ _ _ rl hk' fun w H1 B1 rl1 s1 k1 rw => ?_⟩
        have ho : (⟨e.sl, p⟩ : Ev).sl[i]? = some (.o (.dict kvs)) := ownK_eq h1
        obtain ⟨p', e1, ow, hB, hU, hn⟩ := rl1.getO ho
        rw [e0] at e1
        cases e1
        have rz1 := rz.same s1
        refine .inr ⟨p0, ?_⟩
        rcases own_dict ow with ⟨ks, ds, hp, hr, rfl⟩ | ⟨ks, ds, hp, hr, rfl⟩
        · have hl := putK_le1 hr hf.2
          cases kk with
          | one k1 =>
            cases kk_one h2
            cases (Rz.b rl1.b rw).keyV
            obtain ⟨ds', r1, r2⟩ := put_rz (k := k1) kEq_key rz1 hr
            refine ⟨_, rfl, .inl (DPut.k hp hl), q σ _ B1 ?_ s1⟩
            exact rl1.mut e0 ho (by rw [r2]; exact .dk upd_same r1)
          | many k1 =>
            cases kk_many h2
            obtain ⟨b, rfl, hb⟩ := keyV_many rl1 (Rz.b rl1.b rw)
            have hb := rl1.b.bh _ _ hb
            have e2 : ks = [] := by
              cases ks with
              | nil => rfl
              | cons q' ks => cases hr with
                | cons _ _ => obtain ⟨q', u⟩ := q'; have := hf.1; cases q' <;> simp [fits, isMany, keyD] at this
            subst e2
            cases hr
            have hb2 : upd H1 p0 (.dT []) b = some (.tup (k1.map kV)) := by
              rw [upd_ne (fun z => by rw [z, hp] at hb; cases hb)]
              exact hb
            have hq := q σ (upd (upd H1 p0 (.dT [])) p0 (.dT (putK [] k1 v))) B1 ?_ s1
            · exact ⟨_, rfl, .inr (.inl ⟨hp, DPut.t upd_same hb2 (by show 0 < sizeLine; decide)⟩), hq⟩
            · have e3 : upd (upd H1 p0 (.dT [])) p0 (.dT (putK [] k1 v)) = upd H1 p0 (.dT (putK [] k1 v)) := by
                funext c
                by_cases z : c = p0
                · rw [z, upd_same, upd_same]
                · rw [upd_ne z, upd_ne z, upd_ne z]
              rw [e3]
              exact rl1.mut e0 ho (OwnAt.dt (ks := [(k1, v)]) (ds := [d]) upd_same (.cons rz1 .nil))
        · have hl := putK_le1 hr hf.2
          cases kk with
          | one k1 =>
            cases kk_one h2
            cases (Rz.b rl1.b rw).keyV
            have e2 : ks = [] := by
              cases ks with
              | nil => rfl
              | cons q' ks => cases hr with
                | cons _ _ => have := hf.1; simp [fits, isOne, keyT, keyOf] at this
            subst e2
            cases hr
            have hq := q σ (upd (upd H1 p0 (.dK [])) p0 (.dK (putK [] k1 v))) B1 ?_ s1
            · exact ⟨_, rfl, .inr (.inr ⟨hp, DPut.k upd_same (by show 0 < sizeLine; decide)⟩), hq⟩
            · have e3 : upd (upd H1 p0 (.dK [])) p0 (.dK (putK [] k1 v)) = upd H1 p0 (.dK (putK [] k1 v)) := by
                funext c
                by_cases z : c = p0
                · rw [z, upd_same, upd_same]
                · rw [upd_ne z, upd_ne z, upd_ne z]
              rw [e3]
              exact rl1.mut e0 ho (OwnAt.dk (ks := [(k1, v)]) (ds := [d]) upd_same (.cons rz1 .nil))
          | many k1 =>
            cases kk_many h2
            obtain ⟨b, rfl, hb⟩ := keyV_many rl1 (Rz.b rl1.b rw)
            have hb := rl1.b.bh _ _ hb
            obtain ⟨ds', r1, r2⟩ := put_rz (k := k1) kEq_tup rz1 hr
            refine ⟨_, rfl, .inl (DPut.t hp hb hl), q σ _ B1 ?_ s1⟩
            exact rl1.mut e0 ho (by rw [r2]; exact .dt upd_same r1)
      · cases h
    · cases h
end
end Fw

set_option linter.all false
set_option maxRecDepth 100000
set_option maxHeartbeats 4000000
namespace L2
open PySem PySem.Spec PyProof.Rows
/-! ### t * 1 is t -/
theorem tuple_mul1 (l : Addr) (items : Array Value) (n : Nat) (dd : Option Addr) (sl : Array (Option Value)) (u : Tok) :
    Meets (Builtin.«tuple.__mul__» ⟨[.ref l, .int 1 u], []⟩) (fun _ R s => s.heap.get? l = some { cls := .type "tuple", dict := dd, data := .seq items n, slots := sl } ∧ R (.ok (.ret (Value.ref l))) s) :=
  .of_wp fun prog w A R s h => by
    obtain ⟨hp, g, d, tk, os⟩ := s
    obtain ⟨hl, h⟩ := h
    have f1 := AutoSeq1.idx_int
    wp_walk using wpAny_loadPart' hl
    exact ⟨_, rfl, h⟩
def rRepT1 (K : PySem.W.Frag) : R2 := fun x y H Q => ∃ l xs, x = .ref l ∧ y = .int 1 ∧ SqT K H l xs ∧ Q (.ref l) H
section
variable {X : Cx}
theorem op_repT1 : OpR X (binaryOp .Mult) (rRepT1 X.K) := by
  intro pins s σ H x y v u Q I rx ry h
  obtain ⟨l, xs, rfl, rfl, hT, q⟩ := h
  cases rx
  obtain ⟨t, rfl⟩ := ry
  obtain ⟨its, r, ⟨⟨cls, dd, data, sl⟩, ho, hc, n, hd⟩, hs⟩ := I.tuple hT
  simp only at hc hd
  subst hc hd
  exact wpAny_binaryOp_repeat_ref (T := "tuple") (U := "int") (by decide) ⟨_, ho, rfl⟩ (fun s' => typeIs_int s' 1 t) noFill_tuple_mul F.fills_int_mul F.slot_int_rmul repeat_tuple F.slot_int_index.lookup
    (call_meets F.slot_int_rmul (typeIs_int s 1 t) F.entry_int_rmul (F.args_int_rmul_2 _ _) (int_rmul_tuple 1 t l its.toArray n dd sl)
      ⟨ho, rfl, ⟨_, ho, rfl⟩, call_meets F.slot_tuple_mul ⟨_, ho, rfl⟩ F.entry_tuple_mul (F.args_tuple_mul_2 _ _) (tuple_mul1 l its.toArray n dd sl t) ⟨ho, ⟨.ref l, H, I, rfl, q⟩⟩⟩)
end
end L2
namespace Fw
open PySem PySem.Spec PyProof.Rows L2
def uMulU (K : PySem.W.Frag) : R2 := fun x y H Q => uMul x y H Q ∨ rRepT K x y H Q ∨ rRepT1 K x y H Q
def dMulU : D → D → Option D
  | .tuple a, .int k => if k = 1 then some (.tuple a) else if a ≠ [] ∧ 2 ≤ k ∧ k ≤ 1000 ∧ a.length ≤ 1000 then some (.tuple (List.replicate k.toNat a).flatten) else none
  | a, b => dMul a b
theorem o_mulU {X : Cx} : OpR X (binaryOp .Mult) (uMulU X.K) := OpR.or2 o_mul (OpR.or2 op_repT op_repT1)
section
variable {G : Gm} {U : Hp} {pn : Pn} {E : XK} {e : Ev} {σ : L2.St} {H B H' B' H1 B1 : Hp}
theorem ob_mulU : OpB G pn (uMulU G.K) dMulU := by
  intro U e σ H B x y a b c Q rl ra rb h q
  unfold dMulU at h
  split at h
  · next as k =>
    obtain ⟨p, xs, rfl, hp, hr⟩ := ra.tup_inv
    cases rb.int_inv
    split at h
    · next hk =>
      subst hk
      cases h
      exact .inr (.inr ⟨p, xs, rfl, rfl, same_t rl.b.bh hp, q _ H B rl (Same.refl _) Keep.refl (.tup hp hr)⟩)
    · split at h
      · next hk =>
        cases h
        refine .inr (.inl ⟨p, k, xs, rfl, rfl, same_t rl.b.bh hp, fun z => hk.1 (by subst z; cases hr; rfl), hk.2.1, hk.2.2.1, by rw [hr.length]; exact hk.2.2.2, fun r hr' => ?_⟩)
        have hB := rl.b.bh.free hr'
        exact q _ _ _ (rl.new hr') (same_upd hB) (Keep.of (same_upd hr')) (.tup upd_same ((hr.flat _).same (same_upd hB)))
      · cases h
  · exact .inl (ob_mul U e σ H B x y a b c Q rl ra rb h q)
theorem of_repU : OpF G pn (uMulU G.K) dRep := fun U e σ H B x y a b c Q rl ra rb h q => .inl (of_rep U e σ H B x y a b c Q rl ra rb h q)
end
end Fw

set_option linter.all false
set_option maxRecDepth 100000
set_option maxHeartbeats 4000000
namespace Fw
open PySem PySem.Spec PyProof.Rows L2
/-! ### repr of a list of what has no list beside a dict -/
def fitI (d : D) : Bool := !d.hasDict || noL d
def itemsI : D → Bool
  | .list ds => ds.all fitI
  | _ => false
def fitD2 (d : D) : Bool := repK d && (fitI d || itemsI d) && d.showable && decide (d.depth ≤ 64) && decide (d.shown.length ≤ 100000)
def dRepr2 (d : D) : Option D := if fitD2 d = true then some (.str (shw d)) else none
section
variable {X : Cx} {pins : List (Addr × Obj)} {σ : L2.St} {H : Hp} {s : Shared} {XC : Str → Option Addr}
theorem RzA.shows (I : Inv X pins σ H s) : ∀ {vs : List V} {ds : List D} {us : List Value}, RzA ⟨X.K, XC⟩ H vs ds → repKA ds = true → ds.all fitI = true → PyData.showableAll ds = true → (∀ t ∈ PyData.shownAll ds, t.length ≤ sizeLine) → Vals vs us →
    ∃ bs, ReadAtMost s.heap (PyData.depthAll ds) bs ∧ ReprAllK X.prog X.w bs s.heap (PyData.depthAll ds) us (PyData.shownAll ds)
  | _, _, _, .nil, _, _, _, _, r => by
    cases r
    exact ⟨[], (fun _ h => nomatch h), by simp only [PyData.shownAll]; exact .nil⟩
  | _, _, _, .cons (d := d) (ds := ds) h t, k, f, sh, sz, r => by
    obtain ⟨k1, k2⟩ := Bool.and_eq_true_iff.mp (show (repK d && repKA ds) = true from k)
    obtain ⟨f1, f2⟩ := Bool.and_eq_true_iff.mp (show (fitI d && ds.all fitI) = true from by rw [← List.all_cons]; exact f)
    obtain ⟨s1, s2⟩ : d.showable = true ∧ PyData.showableAll ds = true := by simpa [PyData.showableAll] using sh
    have m1 : d.shown.length ≤ sizeLine := sz _ (by rw [PyData.shownAll]; exact List.mem_cons_self ..)
    have m2 : ∀ t ∈ PyData.shownAll ds, t.length ≤ sizeLine := fun t ht => sz t (by rw [PyData.shownAll]; exact List.mem_cons_of_mem _ ht)
    cases r with
    | cons r1 r2 =>
      obtain ⟨as, rd, na⟩ := Rz.reads I h k1 r1
      have hsm : d.hasDict = true → sysModules ∉ as := fun y => na (by unfold fitI at f1; rw [y] at f1; simpa using f1)
      obtain ⟨b1, q1, n1⟩ := ReprK.of_reads (prog := X.prog) (w := X.w) rd s1 hsm m1
      obtain ⟨b2, q2, n2⟩ := RzA.shows I t k2 f2 s2 m2 r2
      refine ⟨b1 ++ b2, ?_, ?_⟩
      · rw [PyData.depthAll]
        exact (q1.mono (Nat.le_max_left _ _)).append (q2.mono (Nat.le_max_right _ _))
      · rw [PyData.depthAll, PyData.shownAll]
        exact .cons ((n1.more fun b hb => List.mem_append_left _ hb).level_le (Nat.le_max_left _ _)) (n2.more_le (fun b hb => List.mem_append_right _ hb) (Nat.le_max_right _ _))
end
def rRepr2 (G : Gm) : List V → Hp → VK → Prop := fun xs H Q => ∃ v d, xs = [v] ∧ Rz G H v d ∧ fitD2 d = true ∧ Q (.str (shw d)) H
theorem fitD_of {d : D} (f1 : repK d = true) (f0 : fitI d = true) (f2 : d.showable = true) (f3 : d.depth ≤ 64) (f4 : d.shown.length ≤ 100000) : fitD d = true := by
  unfold fitD
  unfold fitI at f0
  rw [f1, f0, f2, decide_eq_true f3, decide_eq_true f4]
  rfl
theorem call_repr2 {X : Cx} {XC : Str → Option Addr} (hg : X.A.guards = some []) (hu : X.A.units + 70 < cLine) : CallR X (.builtin "repr") (rRepr2 ⟨X.K, XC⟩) := by
  intro pins s σ H xs us Q I r h
  obtain ⟨v, d, e, hd, ft, q⟩ := h
  have ft' := ft
  unfold fitD2 at ft'
  simp only [Bool.and_eq_true, decide_eq_true_eq] at ft'
  obtain ⟨⟨⟨⟨f1, f0⟩, f2⟩, f3⟩, f4⟩ := ft'
  rcases Bool.or_eq_true_iff.mp f0 with f0 | f0
  · exact call_repr hg hu pins s σ H xs us Q I r ⟨v, d, e, hd, fitD_of f1 f0 f2 f3 f4, q⟩
  · subst e
    obtain ⟨u, rfl, ru⟩ := r.one
    cases hd with
    | lst h hs =>
      cases ru
      rename_i a vs ds _
      have fI : ds.all fitI = true := f0
      obtain ⟨its, rv, ⟨o, n, ho, hc, _, hdat⟩, _⟩ := I.list (SqL.of h)
      obtain ⟨l, rfl⟩ : ∃ l, its = l := ⟨_, rfl⟩
      have sz0 : (listText (PyData.shownAll ds)).length ≤ sizeLine := Nat.le_trans (by simpa only [PyData.shown] using f4) (by decide)
      obtain ⟨bs, hb, hk⟩ := RzA.shows I hs f1 fI (by simpa [PyData.showable] using f2) (fun t ht => Nat.le_trans (listText_mem_le ht) sz0) rv
      obtain ⟨as, rd, _⟩ := Rz.reads I (Rz.lst h hs) f1 (show RelV (.ref a) (.ref a) from rfl)
      have hna : a ∉ bs := not_mem_of_deeper rd (by simp only [PyData.depth]; omega) hb
      simp only [PyData.depth] at f3
      have e0 : (PyData.list ds).shown = listText (PyData.shownAll ds) := by simp only [PyData.shown]
      refine call_repr_slot (by omega) ⟨o, ho, hc⟩ F.slot_list_repr.toG ?_
      cases hI : its with
      | nil =>
        subst hI
        have e1 : PyData.shownAll ds = [] := List.length_eq_zero_iff.mp hk.length_eq
        exact call_list_repr_empty ⟨o, ho, hc⟩ ho hdat ⟨_, _, rfl, .str (shw _), H, I.tok _, ⟨_, by rw [← shw_eq, e0, e1]; rfl⟩, q⟩
      | cons x l =>
        subst hI
        exact call_list_reprK ho hc hdat hna (by simpa using hk.length_eq) (fun i y e => hk.item i y (by simpa using e)) hg (fun b _ => Clear.nil b) (by show X.A.units + 1 + (PyData.depthAll ds + 1) < cLine; omega) (fun b o e => e) (fun h' u tk kk => ⟨_, _, rfl, .str (shw _), H, I.kept kk, ⟨u, by rw [← shw_eq, e0]⟩, q⟩) sz0
    | non => cases f0
    | bl b => cases f0
    | int i => cases f0
    | str x => cases f0
    | tup h hs => cases f0
    | kt h hs => cases f0
    | dk h hs => cases f0
    | dt h hs => cases f0
    | ins h1 h2 h3 hs => cases f0
    | fn h => cases f0
section
variable {G : Gm} {U : Hp} {pn : Pn} {E : XK} {e : Ev} {σ : L2.St} {H B H' B' : Hp} {v : V} {d : D}
theorem b_repr2 : Cb1 G pn (rRepr2 G) dRepr2 := by
  intro U e σ H B v d c Q rl rb hc post
  unfold dRepr2 at hc
  split at hc
  · next hf =>
    cases hc
    exact ⟨v, d, rfl, rb.up rl.b.bh, hf, post _ H B rl (Same.refl _) Keep.refl (.str _)⟩
  · cases hc
end
end Fw

set_option linter.all false
set_option maxRecDepth 100000
set_option maxHeartbeats 4000000
namespace Sb
open PySem PySem.Spec PyProof.Rows L2 Fw
section
variable {P : Program} {w : World} {K : PySem.W.Frag} {mg : Str → Option Value} {base : Heap} {XC : Str → Option Addr}
theorem sc_BadNumber_init : FnScope ["self", "what", "number"] ["self", "what", "number"] (defScope (inClass (top 3) 0)) := ⟨rfl, rfl, rfl, by decide +kernel, rfl, by decide +kernel, by decide +kernel⟩
theorem ok_BadNumber_init {f C : Addr} {fd : FuncData} (F : Fun K "__init__" "BadNumber.__init__" (inClass (top 3) 0) f fd) (T : OexC K C) (n0 : PySem.W.findIn K (.ref C) "what" = some none) (n1 : PySem.W.findIn K (.ref C) "number" = some none) : FnOk P w K mg base CX0 1 f fd ["self", "what", "number"] (spEx C ["what", "number"]) := by
  refine F.ok sc_BadNumber_init (fun vs H Q E h => spEx_len h) (fun cdv A outer s H vs Q E hr h => ?_)
  exact ⟨_, (pss_cons (ps_ost (pv 0) (pv 1)) (pss_one (ps_ost (pv 0) (pv 2)))), ex_run2 T n0 n1 h⟩
theorem sc_BadRow_init : FnScope ["self", "row"] ["self", "row"] (defScope (inClass (top 4) 0)) := ⟨rfl, rfl, rfl, by decide +kernel, rfl, by decide +kernel, by decide +kernel⟩
theorem ok_BadRow_init {f C : Addr} {fd : FuncData} (F : Fun K "__init__" "BadRow.__init__" (inClass (top 4) 0) f fd) (T : OexC K C) (n0 : PySem.W.findIn K (.ref C) "row" = some none) : FnOk P w K mg base CX0 1 f fd ["self", "row"] (spEx C ["row"]) := by
  refine F.ok sc_BadRow_init (fun vs H Q E h => spEx_len h) (fun cdv A outer s H vs Q E hr h => ?_)
  exact ⟨_, (pss_one (ps_ost (pv 0) (pv 1))), ex_run1 T n0 h⟩
theorem sc_BadName_init : FnScope ["self", "name"] ["self", "name"] (defScope (inClass (top 5) 0)) := ⟨rfl, rfl, rfl, by decide +kernel, rfl, by decide +kernel, by decide +kernel⟩
theorem ok_BadName_init {f C : Addr} {fd : FuncData} (F : Fun K "__init__" "BadName.__init__" (inClass (top 5) 0) f fd) (T : OexC K C) (n0 : PySem.W.findIn K (.ref C) "name" = some none) : FnOk P w K mg base CX0 1 f fd ["self", "name"] (spEx C ["name"]) := by
  refine F.ok sc_BadName_init (fun vs H Q E h => spEx_len h) (fun cdv A outer s H vs Q E hr h => ?_)
  exact ⟨_, (pss_one (ps_ost (pv 0) (pv 1))), ex_run1 T n0 h⟩
def F_is_integer : FS := (retS (andV (isiG .int (slotD 0)) (notV (isiG .bool (slotD 0)))))
theorem sc_is_integer : FnScope ["value"] ["value"] (defScope (top 7)) := ⟨rfl, rfl, rfl, by decide +kernel, rfl, by decide +kernel, by decide +kernel⟩
theorem ok_is_integer {f : Addr} {fd : FuncData} (F : Fun K "is_integer" "is_integer" (top 7) f fd) (T : Bv mg) :
    FnG P w K mg base CX0 1 f fd ["value"] (spN ⟨K, XC⟩ false 1 (defF false 1 F_is_integer)) := by
  have sc := sc_is_integer
  refine fn_n (G := ⟨K, XC⟩) F sc_is_integer (by rfl) (fun cdv A outer s H E hr => ?_)
  refine ⟨_, (pss_one (ps_ret (pe_and (pe_callB (show CallR _ _ (rIsi K) from call_isi) (by rfl) T.isinstance (by decide +kernel) (pa_cons (pv 0) (pa_cons (pe_bltn (v := .ty "int") (by rfl) T.int (by decide +kernel) rfl) pa_nil))) (pe_one (pe_not (pe_callB (show CallR _ _ (rIsi K) from call_isi) (by rfl) T.isinstance (by decide +kernel) (pa_cons (pv 0) (pa_cons (pe_bltn (v := .ty "bool") (by rfl) T.bool (by decide +kernel) rfl) pa_nil)))))))), fun pn => ?_⟩
  exact (cs_ret (ce_and (ce_isi .int (CE.b (ce_var 0))) (ce_not (ce_isi .bool (CE.b (ce_var 0))))))
def F_is_below : FS := (retS (andV (callN 1 (defF false 1 F_is_integer) (consG (slotD 0) (retG []))) (chainG dLe dLt (retG (.int 0)) (slotD 0) (slotD 1))))
theorem sc_is_below : FnScope ["value", "end"] ["value", "end"] (defScope (top 8)) := ⟨rfl, rfl, rfl, by decide +kernel, rfl, by decide +kernel, by decide +kernel⟩
theorem ok_is_below {f a_is_integer : Addr} {fd e_is_integer : FuncData} (F : Fun K "is_below" "is_below" (top 8) f fd) (T : Bv mg) (H_is_integer : Fw.Fn K mg P w base CX0 "is_integer" 1 a_is_integer e_is_integer ["value"] (spN ⟨K, XC⟩ false 1 (defF false 1 F_is_integer))) :
    FnG P w K mg base CX0 2 f fd ["value", "end"] (spN ⟨K, XC⟩ false 2 (defF false 2 F_is_below)) := by
  have sc := sc_is_below
  refine fn_n (G := ⟨K, XC⟩) F sc_is_below (by rfl) (fun cdv A outer s H E hr => ?_)
  refine ⟨_, (pss_one (ps_ret (pe_and (Fw.pe_call H_is_integer.G (hr.mono (by decide)) (by rfl) H_is_integer.g H_is_integer.k H_is_integer.b .nil pass0 (pa_cons (pv 0) pa_nil)) (pe_one (pe_chain o_le o_lt pe_int (pv 0) (pv 1)))))), fun pn => ?_⟩
  exact (cs_ret (ce_and (ce_callN (ca_cons (ce_var 0) ca_nil)) (ce_chain ob_le ob_lt ce_int (ce_var 0) (ce_var 1))))
def F_is_row : FS := (retS (isi2G .tuple .list (slotD 0)))
theorem sc_is_row : FnScope ["value"] ["value"] (defScope (top 9)) := ⟨rfl, rfl, rfl, by decide +kernel, rfl, by decide +kernel, by decide +kernel⟩
theorem ok_is_row {f : Addr} {fd : FuncData} (F : Fun K "is_row" "is_row" (top 9) f fd) (T : Bv mg) :
    FnG P w K mg base CX0 1 f fd ["value"] (spN ⟨K, XC⟩ false 1 (defF false 1 F_is_row)) := by
  have sc := sc_is_row
  refine fn_n (G := ⟨K, XC⟩) F sc_is_row (by rfl) (fun cdv A outer s H E hr => ?_)
  refine ⟨_, (pss_one (ps_ret (pe_callB (show CallR _ _ (rIsiT K) from call_isiT) (by rfl) T.isinstance (by decide +kernel) (pa_cons (pv 0) (pa_cons (pe_tup (pa_cons (pe_bltn (v := .ty "tuple") (by rfl) T.tuple (by decide +kernel) rfl) (pa_cons (pe_bltn (v := .ty "list") (by rfl) T.list (by decide +kernel) rfl) pa_nil))) pa_nil))))), fun pn => ?_⟩
  exact (cs_ret (ce_isi2 .tuple .list (ce_var 0)))
def F_is_bits : FS := (retS (andV (callN 1 (defF false 1 F_is_row) (consG (slotD 0) (retG []))) (andV (op2 dEq (op1 dLen (slotD 0)) (slotD 1)) (op1 dAll (lcG [2] (seqI (slotD 0)) (nameT 2) (retG true) (callN 2 (defF false 2 F_is_below) (consG (slotD 2) (consG (retG (.int 2)) (retG [])))))))))
theorem sc_is_bits : FnScope ["value", "many", "bit"] ["value", "many"] (defScope (top 10)) := ⟨rfl, rfl, rfl, by decide +kernel, rfl, by decide +kernel, by decide +kernel⟩
theorem ok_is_bits {f a_is_row a_is_below : Addr} {fd e_is_row e_is_below : FuncData} (F : Fun K "is_bits" "is_bits" (top 10) f fd) (T : Bv mg) (H_is_row : Fw.Fn K mg P w base CX0 "is_row" 1 a_is_row e_is_row ["value"] (spN ⟨K, XC⟩ false 1 (defF false 1 F_is_row))) (H_is_below : Fw.Fn K mg P w base CX0 "is_below" 2 a_is_below e_is_below ["value", "end"] (spN ⟨K, XC⟩ false 2 (defF false 2 F_is_below))) :
    FnG P w K mg base CX0 3 f fd ["value", "many"] (spN ⟨K, XC⟩ false 2 (defF false 3 F_is_bits)) := by
  have sc := sc_is_bits
  refine fn_n (G := ⟨K, XC⟩) F sc_is_bits (by rfl) (fun cdv A outer s H E hr => ?_)
  refine ⟨_, (pss_one (ps_ret (pe_and (Fw.pe_call H_is_row.G (hr.mono (by decide)) (by rfl) H_is_row.g H_is_row.k H_is_row.b .nil pass0 (pa_cons (pv 0) pa_nil)) (pe_and (pe_cmpR (show OpR _ (compareOp .Eq) (rEqD K) from o_eq hr.r.units) (pe_callB (show CallR _ _ (uLen K) from c_len) (by rfl) T.len (by decide +kernel) (pa_cons (pv 0) pa_nil)) (pv 1) (nomark _)) (pe_one (pe_callB (show CallR _ _ (rAll K) from c_all rfl) (by rfl) T.all (by decide +kernel) (pa_cons (pe_lc (own := [("bit", 2)]) (g := gName 2) (tt := tYes) rfl sc.nd (show PI _ _ _ (iSeq K _) from pi_seq (pv 0)) (blkOk_by (N := ["value", "many", "bit"]) (sc := defScope (top 10)) (by decide +kernel)) (fun _ _ _ _ _ => (pg_name (i := 2) sc.nd rfl (.inl rfl))) (fun _ _ _ _ _ => pts_nil) (fun _ _ _ _ _ => (Fw.pe_call H_is_below.G (hr.mono (by decide)) (by rfl) H_is_below.g H_is_below.k H_is_below.b .nil pass0 (pa_cons (pv 2) (pa_cons pe_int pa_nil))))) pa_nil))))))), fun pn => ?_⟩
  exact (cs_ret (ce_and (ce_callN (ca_cons (ce_var 0) ca_nil)) (ce_and (ce_op ob_eq (CE.b (ce_cb1 b_len (CE.b (ce_var 0)))) (CE.b (ce_var 1))) (ce_cb1 b_all (CF.b (cf_lc (ci_seq (ce_var 0)) (tw_name 2 (by decide)) (fw_name 2 (by decide)) ct_yes (ce_callN (ca_cons (ce_var 2) (ca_cons ce_int ca_nil)))))))))
def F_is_kind : FS := (retS (andV (isiG .str (slotD 0)) (op2 dInU (slotD 0) (retG (kD [(.str "wire"), (.str "up"), (.str "down"), (.str "copy"), (.str "or"), (.str "xor"), (.str "but")])))))
theorem sc_is_kind : FnScope ["value"] ["value"] (defScope (top 27)) := ⟨rfl, rfl, rfl, by decide +kernel, rfl, by decide +kernel, by decide +kernel⟩
theorem ok_is_kind {f : Addr} {v_KINDS : V} {fd : FuncData} (F : Fun K "is_kind" "is_kind" (top 27) f fd) (T : Bv mg) (H_KINDS : Cst K XC mg "KINDS" v_KINDS (kD [(.str "wire"), (.str "up"), (.str "down"), (.str "copy"), (.str "or"), (.str "xor"), (.str "but")])) :
    FnG P w K mg base CX0 1 f fd ["value"] (spN ⟨K, XC⟩ false 1 (defF false 1 F_is_kind)) := by
  have sc := sc_is_kind
  refine fn_n (G := ⟨K, XC⟩) F sc_is_kind (by rfl) (fun cdv A outer s H E hr => ?_)
  refine ⟨_, (pss_one (ps_ret (pe_and (pe_callB (show CallR _ _ (rIsi K) from call_isi) (by rfl) T.isinstance (by decide +kernel) (pa_cons (pv 0) (pa_cons (pe_bltn (v := .ty "str") (by rfl) T.str (by decide +kernel) rfl) pa_nil))) (pe_one (pe_cmpR (show OpR _ (compareOp .In) (uInU K) from o_inU (hu65 hr.r)) (pv 0) (pe_cst (by rfl) H_KINDS) (by rfl)))))), fun pn => ?_⟩
  exact (cs_ret (ce_and (ce_isi .str (CE.b (ce_var 0))) (ce_op ob_inU (CE.b (ce_var 0)) (CE.b (ce_cst H_KINDS)))))
def F__check_kind : FS := (ifS (notG (testG (callN 1 (defF false 1 F_is_kind) (consG (slotD 0) (retG []))))) (raiseS "BadName" ["name"] (consG (slotD 0) (retG []))) nextS)
theorem sc__check_kind : FnScope ["kind"] ["kind"] (defScope (top 28)) := ⟨rfl, rfl, rfl, by decide +kernel, rfl, by decide +kernel, by decide +kernel⟩
theorem ok__check_kind {f a_is_kind C_BadName i_BadName : Addr} {fd e_is_kind e_BadName : FuncData} (F : Fun K "_check_kind" "_check_kind" (top 28) f fd) (T : Bv mg) (H_is_kind : Fw.Fn K mg P w base CX0 "is_kind" 1 a_is_kind e_is_kind ["value"] (spN ⟨K, XC⟩ false 1 (defF false 1 F_is_kind))) (H_BadName : Exn K XC mg P w base "BadName" ["name"] ["self", "name"] C_BadName i_BadName e_BadName) :
    FnG P w K mg base (L2.CX P w) 3 f fd ["kind"] (spX ⟨K, XC⟩ false 1 (defF false 1 F__check_kind)) := by
  have sc := sc__check_kind
  refine fn_x (G := ⟨K, XC⟩) F sc__check_kind (by rfl) (fun cdv A outer s H E hr tk => ?_)
  refine ⟨_, (pss_one (ps_if (pt_not (pt_val (Fw.pe_call H_is_kind.G (hr.mono (by decide)) (by rfl) H_is_kind.g H_is_kind.k H_is_kind.b .nil pass0 (pa_cons (pv 0) pa_nil)))) (pss_one (ps_raise rfl tk (pmk_oex H_BadName.T H_BadName.iC H_BadName.tI H_BadName.G (hr.r.mono (by decide)) H_BadName.b .nil pass0 (by rfl) H_BadName.m (pa_cons (pv 0) pa_nil)))) pss_nil)), fun pn => ?_⟩
  exact (cs_if (ct_not (ct_B (ce_callN (ca_cons (ce_var 0) ca_nil)))) (cs_raise H_BadName.X (by decide) (ca_cons (ce_var 0) ca_nil)) cs_next)
def F_kinds : FS := (retS (retG (kD [(.str "wire"), (.str "up"), (.str "down"), (.str "copy"), (.str "or"), (.str "xor"), (.str "but")])))
theorem sc_kinds : FnScope [] [] (defScope (top 29)) := ⟨rfl, rfl, rfl, by decide +kernel, rfl, by decide +kernel, by decide +kernel⟩
theorem ok_kinds {f : Addr} {v_KINDS : V} {fd : FuncData} (F : Fun K "kinds" "kinds" (top 29) f fd) (T : Bv mg) (H_KINDS : Cst K XC mg "KINDS" v_KINDS (kD [(.str "wire"), (.str "up"), (.str "down"), (.str "copy"), (.str "or"), (.str "xor"), (.str "but")])) :
    FnG P w K mg base CX0 1 f fd [] (spN ⟨K, XC⟩ false 0 (defF false 0 F_kinds)) := by
  have sc := sc_kinds
  refine fn_n (G := ⟨K, XC⟩) F sc_kinds (by rfl) (fun cdv A outer s H E hr => ?_)
  refine ⟨_, (pss_one (ps_ret (pe_cst (by rfl) H_KINDS))), fun pn => ?_⟩
  exact (cs_ret (ce_cst H_KINDS))
def F_ins_of : FS := (seqS (dropS (callX 1 (defF false 1 F__check_kind) (consG (slotD 0) (retG []))))
  (retS (op1 (dTab [("wire", (kD [(.int 0)])), ("up", (kD [(.int 1)])), ("down", (kD [(.int 0)])), ("copy", (kD [(.int 0)])), ("or", (kD [(.int 0), (.int 1)])), ("xor", (kD [(.int 0), (.int 1)])), ("but", (kD [(.int 0), (.int 1)]))]) (slotD 0))))
theorem sc_ins_of : FnScope ["kind"] ["kind"] (defScope (top 30)) := ⟨rfl, rfl, rfl, by decide +kernel, rfl, by decide +kernel, by decide +kernel⟩
theorem ok_ins_of {f a__check_kind : Addr} {p_INS : Addr} {fd e__check_kind : FuncData} (F : Fun K "ins_of" "ins_of" (top 30) f fd) (T : Bv mg) (H__check_kind : Fw.Fn K mg P w base (L2.CX P w) "_check_kind" 3 a__check_kind e__check_kind ["kind"] (spX ⟨K, XC⟩ false 1 (defF false 1 F__check_kind))) (H_INS : Tab K w XC mg "INS" p_INS [("wire", (kD [(.int 0)])), ("up", (kD [(.int 1)])), ("down", (kD [(.int 0)])), ("copy", (kD [(.int 0)])), ("or", (kD [(.int 0), (.int 1)])), ("xor", (kD [(.int 0), (.int 1)])), ("but", (kD [(.int 0), (.int 1)]))]) :
    FnG P w K mg base (L2.CX P w) 4 f fd ["kind"] (spX ⟨K, XC⟩ false 1 (defF false 1 F_ins_of)) := by
  have sc := sc_ins_of
  refine fn_x (G := ⟨K, XC⟩) F sc_ins_of (by rfl) (fun cdv A outer s H E hr tk => ?_)
  refine ⟨_, (pss_cons (ps_expr (Fw.pe_call H__check_kind.G (hr.mono (by decide)) (by rfl) H__check_kind.g H__check_kind.k H__check_kind.b .nil (passes_call tk (fun _ _ _ _ h => h)) (pa_cons (pv 0) pa_nil)))
      (pss_one (ps_ret (pe_tab H_INS (by rfl) (pv 0))))), fun pn => ?_⟩
  exact (cs_seq (cs_drop (ce_callX (ca_cons (ce_var 0) ca_nil)))
    (cs_ret (ce_tab H_INS (ce_var 0))))
def F_outs_of : FS := (seqS (dropS (callX 1 (defF false 1 F__check_kind) (consG (slotD 0) (retG []))))
  (retS (op1 (dTab [("wire", (kD [(.int 0)])), ("up", (kD [(.int 0)])), ("down", (kD [(.int 1)])), ("copy", (kD [(.int 0), (.int 1)])), ("or", (kD [(.int 0)])), ("xor", (kD [(.int 0)])), ("but", (kD [(.int 0)]))]) (slotD 0))))
theorem sc_outs_of : FnScope ["kind"] ["kind"] (defScope (top 31)) := ⟨rfl, rfl, rfl, by decide +kernel, rfl, by decide +kernel, by decide +kernel⟩
theorem ok_outs_of {f a__check_kind : Addr} {p_OUTS : Addr} {fd e__check_kind : FuncData} (F : Fun K "outs_of" "outs_of" (top 31) f fd) (T : Bv mg) (H__check_kind : Fw.Fn K mg P w base (L2.CX P w) "_check_kind" 3 a__check_kind e__check_kind ["kind"] (spX ⟨K, XC⟩ false 1 (defF false 1 F__check_kind))) (H_OUTS : Tab K w XC mg "OUTS" p_OUTS [("wire", (kD [(.int 0)])), ("up", (kD [(.int 0)])), ("down", (kD [(.int 1)])), ("copy", (kD [(.int 0), (.int 1)])), ("or", (kD [(.int 0)])), ("xor", (kD [(.int 0)])), ("but", (kD [(.int 0)]))]) :
    FnG P w K mg base (L2.CX P w) 4 f fd ["kind"] (spX ⟨K, XC⟩ false 1 (defF false 1 F_outs_of)) := by
  have sc := sc_outs_of
  refine fn_x (G := ⟨K, XC⟩) F sc_outs_of (by rfl) (fun cdv A outer s H E hr tk => ?_)
  refine ⟨_, (pss_cons (ps_expr (Fw.pe_call H__check_kind.G (hr.mono (by decide)) (by rfl) H__check_kind.g H__check_kind.k H__check_kind.b .nil (passes_call tk (fun _ _ _ _ h => h)) (pa_cons (pv 0) pa_nil)))
      (pss_one (ps_ret (pe_tab H_OUTS (by rfl) (pv 0))))), fun pn => ?_⟩
  exact (cs_seq (cs_drop (ce_callX (ca_cons (ce_var 0) ca_nil)))
    (cs_ret (ce_tab H_OUTS (ce_var 0))))
def F_word_of : FS := (seqS (dropS (callX 1 (defF false 1 F__check_kind) (consG (slotD 0) (retG []))))
  (seqS (ifS (notG (testG (callN 2 (defF false 3 F_is_bits) (consG (slotD 1) (consG (op1 dLen (op1 (dTab [("wire", (kD [(.int 0)])), ("up", (kD [(.int 1)])), ("down", (kD [(.int 0)])), ("copy", (kD [(.int 0)])), ("or", (kD [(.int 0), (.int 1)])), ("xor", (kD [(.int 0), (.int 1)])), ("but", (kD [(.int 0), (.int 1)]))]) (slotD 0))) (retG [])))))) (raiseS "BadRow" ["row"] (consG (slotD 1) (retG []))) nextS)
  noS))
theorem sc_word_of : FnScope ["kind", "bits"] ["kind", "bits"] (defScope (top 32)) := ⟨rfl, rfl, rfl, by decide +kernel, rfl, by decide +kernel, by decide +kernel⟩
theorem ok_word_of {f a__check_kind a_is_bits C_BadRow i_BadRow : Addr} {p_INS : Addr} {fd e__check_kind e_is_bits e_BadRow : FuncData} (F : Fun K "word_of" "word_of" (top 32) f fd) (T : Bv mg) (H__check_kind : Fw.Fn K mg P w base (L2.CX P w) "_check_kind" 3 a__check_kind e__check_kind ["kind"] (spX ⟨K, XC⟩ false 1 (defF false 1 F__check_kind))) (H_is_bits : Fw.Fn K mg P w base CX0 "is_bits" 3 a_is_bits e_is_bits ["value", "many"] (spN ⟨K, XC⟩ false 2 (defF false 3 F_is_bits))) (H_BadRow : Exn K XC mg P w base "BadRow" ["row"] ["self", "row"] C_BadRow i_BadRow e_BadRow) (H_INS : Tab K w XC mg "INS" p_INS [("wire", (kD [(.int 0)])), ("up", (kD [(.int 1)])), ("down", (kD [(.int 0)])), ("copy", (kD [(.int 0)])), ("or", (kD [(.int 0), (.int 1)])), ("xor", (kD [(.int 0), (.int 1)])), ("but", (kD [(.int 0), (.int 1)]))]) :
    FnG P w K mg base (L2.CX P w) 4 f fd ["kind", "bits"] (spX ⟨K, XC⟩ false 2 (defF false 2 F_word_of)) := by
  have sc := sc_word_of
  refine fn_x (G := ⟨K, XC⟩) F sc_word_of (by rfl) (fun cdv A outer s H E hr tk => ?_)
  refine ⟨_, (pss_cons (ps_expr (Fw.pe_call H__check_kind.G (hr.mono (by decide)) (by rfl) H__check_kind.g H__check_kind.k H__check_kind.b .nil (passes_call tk (fun _ _ _ _ h => h)) (pa_cons (pv 0) pa_nil)))
      (pss_cons (ps_if (pt_not (pt_val (Fw.pe_call H_is_bits.G (hr.mono (by decide)) (by rfl) H_is_bits.g H_is_bits.k H_is_bits.b .nil pass0 (pa_cons (pv 1) (pa_cons (pe_callB (show CallR _ _ (uLen K) from c_len) (by rfl) T.len (by decide +kernel) (pa_cons (pe_tab H_INS (by rfl) (pv 0)) pa_nil)) pa_nil))))) (pss_one (ps_raise rfl tk (pmk_oex H_BadRow.T H_BadRow.iC H_BadRow.tI H_BadRow.G (hr.r.mono (by decide)) H_BadRow.b .nil pass0 (by rfl) H_BadRow.m (pa_cons (pv 1) pa_nil)))) pss_nil)
      pss_no)), fun pn => ?_⟩
  exact (cs_seq (cs_drop (ce_callX (ca_cons (ce_var 0) ca_nil)))
    (cs_seq (cs_if (ct_not (ct_B (ce_callN (ca_cons (ce_var 1) (ca_cons (ce_cb1 b_len (CE.b (ce_tab H_INS (ce_var 0)))) ca_nil))))) (cs_raise H_BadRow.X (by decide) (ca_cons (ce_var 1) ca_nil)) cs_next)
    cs_no))
def F__run : FS := (seqS (asgS (ifG (testG (op2 dEq (slotD 3) (slotD 1))) (retG (.int 0)) (op2 dDiv (op2 dSub (slotD 3) (slotD 1)) (op1 dAbs (op2 dSub (slotD 3) (slotD 1))))) (nameT 4))
  (retS (lcG [5] (rgI rg1D (consG (op2 dAdd (op2 dSub (slotD 2) (slotD 0)) (retG (.int 1))) (retG []))) (nameT 5) (retG true) (tupG (consG (op2 dAdd (slotD 0) (slotD 5)) (consG (op2 dAdd (slotD 1) (op2 dMulU (slotD 4) (slotD 5))) (retG [])))))))
theorem sc__run : FnScope ["x", "y", "u", "v", "slope", "k"] ["x", "y", "u", "v"] (defScope (top 33)) := ⟨rfl, rfl, rfl, by decide +kernel, rfl, by decide +kernel, by decide +kernel⟩
theorem ok__run {f : Addr} {fd : FuncData} (F : Fun K "_run" "_run" (top 33) f fd) (T : Bv mg) :
    FnG P w K mg base CX0 1 f fd ["x", "y", "u", "v"] (spN ⟨K, XC⟩ false 4 (defF false 6 F__run)) := by
  have sc := sc__run
  refine fn_n (G := ⟨K, XC⟩) F sc__run (by rfl) (fun cdv A outer s H E hr => ?_)
  refine ⟨_, (pss_cons (ps_set (i := 4) sc.nd rfl (.inr rfl) (pe_ifExp (pt_cmpR (show OpR _ (compareOp .Eq) (rEqD K) from o_eq hr.r.units) (pv 3) (pv 1) (nomark _)) pe_int (pe_op o_div (pe_op o_sub (pv 3) (pv 1)) (pe_callB c_abs (by rfl) T.abs (by decide +kernel) (pa_cons (pe_op o_sub (pv 3) (pv 1)) pa_nil)))))
      (pss_one (ps_ret (pe_lc (own := [("k", 5)]) (g := gName 5) (tt := tYes) rfl sc.nd (pi_range1 (by rfl) T.range (pa_cons (pe_op (show OpR _ (binaryOp .Add) (uAdd K) from o_add) (pe_op o_sub (pv 2) (pv 0)) pe_int) pa_nil)) (blkOk_by (N := ["x", "y", "u", "v", "slope", "k"]) (sc := defScope (top 33)) (by decide +kernel)) (fun _ _ _ _ _ => (pg_name (i := 5) sc.nd rfl (.inl rfl))) (fun _ _ _ _ _ => pts_nil) (fun _ _ _ _ _ => (pe_tup (pa_cons (pe_op (show OpR _ (binaryOp .Add) (uAdd K) from o_add) (pv 0) (pv 5)) (pa_cons (pe_op (show OpR _ (binaryOp .Add) (uAdd K) from o_add) (pv 1) (pe_op (show OpR _ (binaryOp .Mult) (uMulU K) from o_mulU) (pv 4) (pv 5))) pa_nil)))))))), fun pn => ?_⟩
  exact (cs_seq (cs_asg (ce_if (ct_test (ce_op ob_eq (CE.b (ce_var 3)) (CE.b (ce_var 1)))) ce_int (ce_op ob_div (CE.b (ce_op ob_sub (CE.b (ce_var 3)) (CE.b (ce_var 1)))) (CE.b (ce_cb1 b_abs (CE.b (ce_op ob_sub (CE.b (ce_var 3)) (CE.b (ce_var 1)))))))) (tg_name 4))
    (cs_ret (CF.ce (cf_lc (ci_rg1 (ca_cons (ce_op ob_add (CE.b (ce_op ob_sub (CE.b (ce_var 2)) (CE.b (ce_var 0)))) (CE.b ce_int)) ca_nil)) (tw_name 5 (by decide)) (fw_name 5 (by decide)) ct_yes (ce_tup (ca_cons (ce_op ob_add (CE.b (ce_var 0)) (CE.b (ce_var 5))) (ca_cons (ce_op ob_add (CE.b (ce_var 1)) (CE.b (ce_op ob_mulU (CE.b (ce_var 4)) (CE.b (ce_var 5))))) ca_nil)))))))
def F_tile_cells : FS := (seqS (dropS (callX 1 (defF false 1 F__check_kind) (consG (slotD 0) (retG []))))
  (seqS (asgO (lstG (retG [])) 1)
  (seqS (forS (seqI (op1 (dTab [("wire", (kD [(kD [(.int 0), (.int 0), (.int 19), (.int 0)])])), ("up", (kD [(kD [(.int 0), (.int 8), (.int 5), (.int 8)]), (kD [(.int 6), (.int 7), (.int 13), (.int 0)]), (kD [(.int 14), (.int 0), (.int 19), (.int 0)])])), ("down", (kD [(kD [(.int 0), (.int 0), (.int 5), (.int 0)]), (kD [(.int 6), (.int 1), (.int 13), (.int 8)]), (kD [(.int 14), (.int 8), (.int 19), (.int 8)])])), ("copy", (kD [(kD [(.int 0), (.int 0), (.int 4), (.int 0)]), (kD [(.int 5), (.int (-1)), (.int 6), (.int (-1))]), (kD [(.int 7), (.int 0), (.int 19), (.int 0)]), (kD [(.int 5), (.int 1), (.int 12), (.int 8)]), (kD [(.int 13), (.int 8), (.int 19), (.int 8)])])), ("or", (kD [(kD [(.int 0), (.int 0), (.int 1), (.int 0)]), (kD [(.int 2), (.int 1), (.int 2), (.int 1)]), (kD [(.int 8), (.int 3), (.int 8), (.int 3)]), (kD [(.int 0), (.int 8), (.int 1), (.int 8)]), (kD [(.int 2), (.int 7), (.int 2), (.int 7)]), (kD [(.int 8), (.int 5), (.int 8), (.int 5)]), (kD [(.int 9), (.int 4), (.int 9), (.int 4)]), (kD [(.int 10), (.int 4), (.int 14), (.int 0)]), (kD [(.int 15), (.int 0), (.int 19), (.int 0)])])), ("xor", (kD [(kD [(.int 0), (.int 0), (.int 1), (.int 0)]), (kD [(.int 2), (.int 1), (.int 2), (.int 1)]), (kD [(.int 8), (.int 3), (.int 8), (.int 3)]), (kD [(.int 0), (.int 8), (.int 1), (.int 8)]), (kD [(.int 2), (.int 7), (.int 2), (.int 7)]), (kD [(.int 8), (.int 5), (.int 8), (.int 5)]), (kD [(.int 9), (.int 3), (.int 9), (.int 3)]), (kD [(.int 9), (.int 4), (.int 9), (.int 4)]), (kD [(.int 9), (.int 5), (.int 9), (.int 5)]), (kD [(.int 10), (.int 4), (.int 14), (.int 0)]), (kD [(.int 15), (.int 0), (.int 19), (.int 0)])])), ("but", (kD [(kD [(.int 0), (.int 0), (.int 3), (.int 0)]), (kD [(.int 9), (.int 2), (.int 10), (.int 3)]), (kD [(.int 0), (.int 8), (.int 1), (.int 8)]), (kD [(.int 2), (.int 7), (.int 3), (.int 6)]), (kD [(.int 9), (.int 5), (.int 10), (.int 5)]), (kD [(.int 11), (.int 4), (.int 11), (.int 4)]), (kD [(.int 11), (.int 5), (.int 11), (.int 5)]), (kD [(.int 11), (.int 6), (.int 11), (.int 6)]), (kD [(.int 12), (.int 5), (.int 17), (.int 0)]), (kD [(.int 18), (.int 0), (.int 19), (.int 0)])]))]) (slotD 0))) (tupT 4 (consT (nameT 2) (consT (nameT 3) (consT (nameT 4) (consT (nameT 5) nilT))))) (extS 1 (callN 4 (defF false 6 F__run) (consG (slotD 2) (consG (slotD 3) (consG (slotD 4) (consG (slotD 5) (retG []))))))))
  (seqS (forS (seqI (op1 (dTab [("wire", (kD [])), ("up", (kD [])), ("down", (kD [])), ("copy", (kD [])), ("or", (kD [(kD [(.int 3), (.int 2)]), (kD [(.int 3), (.int 6)])])), ("xor", (kD [(kD [(.int 3), (.int 2)]), (kD [(.int 3), (.int 6)])])), ("but", (kD [(kD [(.int 4), (.int 1)]), (kD [(.int 4), (.int 5)])]))]) (slotD 0))) (tupT 2 (consT (nameT 2) (consT (nameT 3) nilT))) (extS 1 (lcG [6, 7] (seqI (retG (kD [(kD [(.int 0), (.int 0)]), (kD [(.int 1), (.int 0)]), (kD [(.int 2), (.int (-1))]), (kD [(.int 2), (.int 0)]), (kD [(.int 2), (.int 1)]), (kD [(.int 3), (.int (-1))]), (kD [(.int 3), (.int 1)]), (kD [(.int 4), (.int 0)])]))) (tupT 2 (consT (nameT 6) (consT (nameT 7) nilT))) (retG true) (tupG (consG (op2 dAdd (slotD 2) (slotD 6)) (consG (op2 dAdd (slotD 3) (slotD 7)) (retG [])))))))
  (retS (op1 dTup (op1 dSort (slotB 1))))))))
theorem sc_tile_cells : FnScope ["kind", "found", "x", "y", "u", "v", "dx", "dy"] ["kind"] (defScope (top 34)) := ⟨rfl, rfl, rfl, by decide +kernel, rfl, by decide +kernel, by decide +kernel⟩
theorem ok_tile_cells {f a__check_kind a__run : Addr} {v_ONE_WAY : V} {p_ONE_WAYS p_RUNS : Addr} {fd e__check_kind e__run : FuncData} (F : Fun K "tile_cells" "tile_cells" (top 34) f fd) (T : Bv mg) (H__check_kind : Fw.Fn K mg P w base (L2.CX P w) "_check_kind" 3 a__check_kind e__check_kind ["kind"] (spX ⟨K, XC⟩ false 1 (defF false 1 F__check_kind))) (H__run : Fw.Fn K mg P w base CX0 "_run" 1 a__run e__run ["x", "y", "u", "v"] (spN ⟨K, XC⟩ false 4 (defF false 6 F__run))) (H_ONE_WAY : Cst K XC mg "ONE_WAY" v_ONE_WAY (kD [(kD [(.int 0), (.int 0)]), (kD [(.int 1), (.int 0)]), (kD [(.int 2), (.int (-1))]), (kD [(.int 2), (.int 0)]), (kD [(.int 2), (.int 1)]), (kD [(.int 3), (.int (-1))]), (kD [(.int 3), (.int 1)]), (kD [(.int 4), (.int 0)])])) (H_ONE_WAYS : Tab K w XC mg "ONE_WAYS" p_ONE_WAYS [("wire", (kD [])), ("up", (kD [])), ("down", (kD [])), ("copy", (kD [])), ("or", (kD [(kD [(.int 3), (.int 2)]), (kD [(.int 3), (.int 6)])])), ("xor", (kD [(kD [(.int 3), (.int 2)]), (kD [(.int 3), (.int 6)])])), ("but", (kD [(kD [(.int 4), (.int 1)]), (kD [(.int 4), (.int 5)])]))]) (H_RUNS : Tab K w XC mg "RUNS" p_RUNS [("wire", (kD [(kD [(.int 0), (.int 0), (.int 19), (.int 0)])])), ("up", (kD [(kD [(.int 0), (.int 8), (.int 5), (.int 8)]), (kD [(.int 6), (.int 7), (.int 13), (.int 0)]), (kD [(.int 14), (.int 0), (.int 19), (.int 0)])])), ("down", (kD [(kD [(.int 0), (.int 0), (.int 5), (.int 0)]), (kD [(.int 6), (.int 1), (.int 13), (.int 8)]), (kD [(.int 14), (.int 8), (.int 19), (.int 8)])])), ("copy", (kD [(kD [(.int 0), (.int 0), (.int 4), (.int 0)]), (kD [(.int 5), (.int (-1)), (.int 6), (.int (-1))]), (kD [(.int 7), (.int 0), (.int 19), (.int 0)]), (kD [(.int 5), (.int 1), (.int 12), (.int 8)]), (kD [(.int 13), (.int 8), (.int 19), (.int 8)])])), ("or", (kD [(kD [(.int 0), (.int 0), (.int 1), (.int 0)]), (kD [(.int 2), (.int 1), (.int 2), (.int 1)]), (kD [(.int 8), (.int 3), (.int 8), (.int 3)]), (kD [(.int 0), (.int 8), (.int 1), (.int 8)]), (kD [(.int 2), (.int 7), (.int 2), (.int 7)]), (kD [(.int 8), (.int 5), (.int 8), (.int 5)]), (kD [(.int 9), (.int 4), (.int 9), (.int 4)]), (kD [(.int 10), (.int 4), (.int 14), (.int 0)]), (kD [(.int 15), (.int 0), (.int 19), (.int 0)])])), ("xor", (kD [(kD [(.int 0), (.int 0), (.int 1), (.int 0)]), (kD [(.int 2), (.int 1), (.int 2), (.int 1)]), (kD [(.int 8), (.int 3), (.int 8), (.int 3)]), (kD [(.int 0), (.int 8), (.int 1), (.int 8)]), (kD [(.int 2), (.int 7), (.int 2), (.int 7)]), (kD [(.int 8), (.int 5), (.int 8), (.int 5)]), (kD [(.int 9), (.int 3), (.int 9), (.int 3)]), (kD [(.int 9), (.int 4), (.int 9), (.int 4)]), (kD [(.int 9), (.int 5), (.int 9), (.int 5)]), (kD [(.int 10), (.int 4), (.int 14), (.int 0)]), (kD [(.int 15), (.int 0), (.int 19), (.int 0)])])), ("but", (kD [(kD [(.int 0), (.int 0), (.int 3), (.int 0)]), (kD [(.int 9), (.int 2), (.int 10), (.int 3)]), (kD [(.int 0), (.int 8), (.int 1), (.int 8)]), (kD [(.int 2), (.int 7), (.int 3), (.int 6)]), (kD [(.int 9), (.int 5), (.int 10), (.int 5)]), (kD [(.int 11), (.int 4), (.int 11), (.int 4)]), (kD [(.int 11), (.int 5), (.int 11), (.int 5)]), (kD [(.int 11), (.int 6), (.int 11), (.int 6)]), (kD [(.int 12), (.int 5), (.int 17), (.int 0)]), (kD [(.int 18), (.int 0), (.int 19), (.int 0)])]))]) :
    FnG P w K mg base (L2.CX P w) 4 f fd ["kind"] (spX ⟨K, XC⟩ false 1 (defF false 8 F_tile_cells)) := by
  have sc := sc_tile_cells
  refine fn_x (G := ⟨K, XC⟩) F sc_tile_cells (by rfl) (fun cdv A outer s H E hr tk => ?_)
  refine ⟨_, (pss_cons (ps_expr (Fw.pe_call H__check_kind.G (hr.mono (by decide)) (by rfl) H__check_kind.g H__check_kind.k H__check_kind.b .nil (passes_call tk (fun _ _ _ _ h => h)) (pa_cons (pv 0) pa_nil)))
      (pss_cons (ps_set (i := 1) sc.nd rfl (.inl rfl) (pe_lst pa_nil))
      (pss_cons (ps_for (passes_of rfl) rfl (show PI _ _ _ (iSeq K _) from pi_seq (pe_tab H_RUNS (by rfl) (pv 0))) (show PG _ _ (gTup K 4 _) from pg_tup (by rfl) (pgs_cons (pg_name (i := 2) sc.nd rfl (.inr rfl)) (pgs_cons (pg_name (i := 3) sc.nd rfl (.inr rfl)) (pgs_cons (pg_name (i := 4) sc.nd rfl (.inl rfl)) (pgs_cons (pg_name (i := 5) sc.nd rfl (.inl rfl)) pgs_nil))))) (pss_one (ps_expr (pe_bm PySem.F.plainAttrs_list PySem.F.slot_list_extend PySem.F.type_list_extend mt_ext (pv 1) (pa_cons (Fw.pe_call H__run.G (hr.mono (by decide)) (by rfl) H__run.g H__run.k H__run.b .nil pass0 (pa_cons (pv 2) (pa_cons (pv 3) (pa_cons (pv 4) (pa_cons (pv 5) pa_nil))))) pa_nil)))))
      (pss_cons (ps_for (passes_of rfl) rfl (show PI _ _ _ (iSeq K _) from pi_seq (pe_tab H_ONE_WAYS (by rfl) (pv 0))) (show PG _ _ (gTup K 2 _) from pg_tup (by rfl) (pgs_cons (pg_name (i := 2) sc.nd rfl (.inr rfl)) (pgs_cons (pg_name (i := 3) sc.nd rfl (.inr rfl)) pgs_nil))) (pss_one (ps_expr (pe_bm PySem.F.plainAttrs_list PySem.F.slot_list_extend PySem.F.type_list_extend mt_ext (pv 1) (pa_cons (pe_lc (own := [("dx", 6), ("dy", 7)]) (tt := tYes) rfl sc.nd (show PI _ _ _ (iSeq K _) from pi_seq (pe_cst (by rfl) H_ONE_WAY)) (blkOk_by (N := ["kind", "found", "x", "y", "u", "v", "dx", "dy"]) (sc := defScope (top 34)) (by decide +kernel)) (fun _ _ _ _ _ => (show PG _ _ (gTup K 2 _) from pg_tup (by rfl) (pgs_cons (pg_name (i := 6) sc.nd rfl (.inl rfl)) (pgs_cons (pg_name (i := 7) sc.nd rfl (.inl rfl)) pgs_nil)))) (fun _ _ _ _ _ => pts_nil) (fun _ _ _ _ _ => (pe_tup (pa_cons (pe_op (show OpR _ (binaryOp .Add) (uAdd K) from o_add) (pv 2) (pv 6)) (pa_cons (pe_op (show OpR _ (binaryOp .Add) (uAdd K) from o_add) (pv 3) (pv 7)) pa_nil))))) pa_nil)))))
      (pss_one (ps_ret (pe_callTy (show CallR _ _ (uTup K) from c_tuple) (by rfl) T.tuple (by decide +kernel) (pa_cons (pe_callB (show CallR _ _ (uSort K) from c_sort (by exact units70 hr.r)) (by rfl) T.sorted (by decide +kernel) (pa_cons (pv 1) pa_nil)) pa_nil)))))))), fun pn => ?_⟩
  exact (cs_seq (cs_drop (ce_callX (ca_cons (ce_var 0) ca_nil)))
    (cs_seq (cs_asgO (cf_lst ca_nil))
    (cs_seq (cs_for (ci_seq (ce_tab H_RUNS (ce_var 0))) (tg_tup (tg_cons (tg_name 2) (tg_cons (tg_name 3) (tg_cons (tg_name 4) (tg_cons (tg_name 5) tg_nil))))) (cs_ext (ce_callN (ca_cons (ce_var 2) (ca_cons (ce_var 3) (ca_cons (ce_var 4) (ca_cons (ce_var 5) ca_nil)))))))
    (cs_seq (cs_for (ci_seq (ce_tab H_ONE_WAYS (ce_var 0))) (tg_tup (tg_cons (tg_name 2) (tg_cons (tg_name 3) tg_nil))) (cs_ext (CF.ce (cf_lc (ci_seq (ce_cst H_ONE_WAY)) (tw_tup (tw_cons (tw_name 6 (by decide)) (tw_cons (tw_name 7 (by decide)) tw_nil))) (fw_tup (fw_cons (fw_name 6 (by decide)) (fw_cons (fw_name 7 (by decide)) fw_nil))) ct_yes (ce_tup (ca_cons (ce_op ob_add (CE.b (ce_var 2)) (CE.b (ce_var 6))) (ca_cons (ce_op ob_add (CE.b (ce_var 3)) (CE.b (ce_var 7))) ca_nil)))))))
    (cs_ret (ce_cb1 b_tuple (CF.b (cf_cb1 f_sort (cb_var 1)))))))))
def F_upper : FS := (seqS (asgV (slotD 0) (tupV 2 (consV (nameV 1) (consV (nameV 2) nilV))))
  (retS (ifG (testG (op2 dEq (slotD 1) (retG (.str "up")))) (op2 dSub (slotD 2) (retG (.int 1))) (slotD 2))))
theorem sc_upper : FnScope ["tile", "kind", "row"] ["tile"] (defScope (top 35)) := ⟨rfl, rfl, rfl, by decide +kernel, rfl, by decide +kernel, by decide +kernel⟩
theorem ok_upper {f : Addr} {fd : FuncData} (F : Fun K "upper" "upper" (top 35) f fd) (T : Bv mg) :
    FnG P w K mg base CX0 1 f fd ["tile"] (spN ⟨K, XC⟩ false 1 (defF false 3 F_upper)) := by
  have sc := sc_upper
  refine fn_n (G := ⟨K, XC⟩) F sc_upper (by rfl) (fun cdv A outer s H E hr => ?_)
  refine ⟨_, (pss_cons (ps_asg (pv 0) (pg_tup (by rfl) (pgs_cons (pg_name (i := 1) sc.nd rfl (.inl rfl)) (pgs_cons (pg_name (i := 2) sc.nd rfl (.inl rfl)) pgs_nil))))
      (pss_one (ps_ret (pe_ifExp (pt_cmpR (show OpR _ (compareOp .Eq) (rEqD K) from o_eq hr.r.units) (pv 1) pe_str (nomark _)) (pe_op o_sub (pv 2) pe_int) (pv 2))))), fun pn => ?_⟩
  exact (cs_seq (cs_asgV (ce_var 0) (v_tup (v_cons (v_name 1) (v_cons (v_name 2) v_nil))))
    (cs_ret (ce_if (ct_test (ce_op ob_eq (CE.b (ce_var 1)) (CE.b ce_str))) (ce_op ob_sub (CE.b (ce_var 2)) (CE.b ce_int)) (ce_var 2))))
def F_rows_of : FS := (seqS (asgS (callN 1 (defF false 3 F_upper) (consG (slotD 0) (retG []))) (nameT 1))
  (retS (ifG (testG (op2 dEq (op2 dIx (slotD 0) (retG (.int 0))) (retG (.str "wire")))) (tupG (consG (slotD 1) (retG []))) (tupG (consG (slotD 1) (consG (op2 dAdd (slotD 1) (retG (.int 1))) (retG [])))))))
theorem sc_rows_of : FnScope ["tile", "top"] ["tile"] (defScope (top 36)) := ⟨rfl, rfl, rfl, by decide +kernel, rfl, by decide +kernel, by decide +kernel⟩
theorem ok_rows_of {f a_upper : Addr} {fd e_upper : FuncData} (F : Fun K "rows_of" "rows_of" (top 36) f fd) (T : Bv mg) (H_upper : Fw.Fn K mg P w base CX0 "upper" 1 a_upper e_upper ["tile"] (spN ⟨K, XC⟩ false 1 (defF false 3 F_upper))) :
    FnG P w K mg base CX0 2 f fd ["tile"] (spN ⟨K, XC⟩ false 1 (defF false 2 F_rows_of)) := by
  have sc := sc_rows_of
  refine fn_n (G := ⟨K, XC⟩) F sc_rows_of (by rfl) (fun cdv A outer s H E hr => ?_)
  refine ⟨_, (pss_cons (ps_set (i := 1) sc.nd rfl (.inl rfl) (Fw.pe_call H_upper.G (hr.mono (by decide)) (by rfl) H_upper.g H_upper.k H_upper.b .nil pass0 (pa_cons (pv 0) pa_nil)))
      (pss_one (ps_ret (pe_ifExp (pt_cmpR (show OpR _ (compareOp .Eq) (rEqD K) from o_eq hr.r.units) (pe_ix (show IxR _ (uIx K) from o_ix) (pv 0) pe_int (fun _ _ => rfl)) pe_str (nomark _)) (pe_tup (pa_cons (pv 1) pa_nil)) (pe_tup (pa_cons (pv 1) (pa_cons (pe_op (show OpR _ (binaryOp .Add) (uAdd K) from o_add) (pv 1) pe_int) pa_nil))))))), fun pn => ?_⟩
  exact (cs_seq (cs_asg (ce_callN (ca_cons (ce_var 0) ca_nil)) (tg_name 1))
    (cs_ret (ce_if (ct_test (ce_op ob_eq (CE.b (ce_op ob_ix (CE.b (ce_var 0)) (CE.b ce_int))) (CE.b ce_str))) (ce_tup (ca_cons (ce_var 1) ca_nil)) (ce_tup (ca_cons (ce_var 1) (ca_cons (ce_op ob_add (CE.b (ce_var 1)) (CE.b ce_int)) ca_nil))))))
def F_cells_at : FS := (seqS (asgS (op2 dMulU (retG (.int 8)) (callN 1 (defF false 3 F_upper) (consG (slotD 0) (retG [])))) (nameT 2))
  (retS (op1 dTup (lcG [3, 4] (seqI (callX 1 (defF false 8 F_tile_cells) (consG (op2 dIx (slotD 0) (retG (.int 0))) (retG [])))) (tupT 2 (consT (nameT 3) (consT (nameT 4) nilT))) (retG true) (tupG (consG (op2 dAdd (slotD 3) (slotD 1)) (consG (op2 dAdd (slotD 4) (slotD 2)) (retG []))))))))
theorem sc_cells_at : FnScope ["tile", "x", "down", "column", "line"] ["tile", "x"] (defScope (top 37)) := ⟨rfl, rfl, rfl, by decide +kernel, rfl, by decide +kernel, by decide +kernel⟩
theorem ok_cells_at {f a_upper a_tile_cells : Addr} {v_PITCH : V} {fd e_upper e_tile_cells : FuncData} (F : Fun K "cells_at" "cells_at" (top 37) f fd) (T : Bv mg) (H_upper : Fw.Fn K mg P w base CX0 "upper" 1 a_upper e_upper ["tile"] (spN ⟨K, XC⟩ false 1 (defF false 3 F_upper))) (H_tile_cells : Fw.Fn K mg P w base (L2.CX P w) "tile_cells" 4 a_tile_cells e_tile_cells ["kind"] (spX ⟨K, XC⟩ false 1 (defF false 8 F_tile_cells))) (H_PITCH : Cst K XC mg "PITCH" v_PITCH (.int 8)) :
    FnG P w K mg base (L2.CX P w) 5 f fd ["tile", "x"] (spX ⟨K, XC⟩ false 2 (defF false 5 F_cells_at)) := by
  have sc := sc_cells_at
  refine fn_x (G := ⟨K, XC⟩) F sc_cells_at (by rfl) (fun cdv A outer s H E hr tk => ?_)
  refine ⟨_, (pss_cons (ps_set (i := 2) sc.nd rfl (.inr rfl) (pe_op (show OpR _ (binaryOp .Mult) (uMulU K) from o_mulU) (pe_cst (by rfl) H_PITCH) (Fw.pe_call H_upper.G (hr.mono (by decide)) (by rfl) H_upper.g H_upper.k H_upper.b .nil pass0 (pa_cons (pv 0) pa_nil))))
      (pss_one (ps_ret (pe_callTy (show CallR _ _ (uTup K) from c_tuple) (by rfl) T.tuple (by decide +kernel) (pa_cons (pe_lc (own := [("column", 3), ("line", 4)]) (tt := tYes) rfl sc.nd (show PI _ _ _ (iSeq K _) from pi_seq (Fw.pe_call H_tile_cells.G (hr.mono (by decide)) (by rfl) H_tile_cells.g H_tile_cells.k H_tile_cells.b .nil (passes_call tk (fun _ _ _ _ h => h)) (pa_cons (pe_ix (show IxR _ (uIx K) from o_ix) (pv 0) pe_int (fun _ _ => rfl)) pa_nil))) (blkOk_by (N := ["tile", "x", "down", "column", "line"]) (sc := defScope (top 37)) (by decide +kernel)) (fun _ _ _ _ _ => (show PG _ _ (gTup K 2 _) from pg_tup (by rfl) (pgs_cons (pg_name (i := 3) sc.nd rfl (.inl rfl)) (pgs_cons (pg_name (i := 4) sc.nd rfl (.inl rfl)) pgs_nil)))) (fun _ _ _ _ _ => pts_nil) (fun _ _ _ _ _ => (pe_tup (pa_cons (pe_op (show OpR _ (binaryOp .Add) (uAdd K) from o_add) (pv 3) (pv 1)) (pa_cons (pe_op (show OpR _ (binaryOp .Add) (uAdd K) from o_add) (pv 4) (pv 2)) pa_nil))))) pa_nil))))), fun pn => ?_⟩
  exact (cs_seq (cs_asg (ce_op ob_mulU (CE.b (ce_cst H_PITCH)) (CE.b (ce_callN (ca_cons (ce_var 0) ca_nil)))) (tg_name 2))
    (cs_ret (ce_cb1 b_tuple (CF.b (cf_lc (ci_seq (ce_callX (ca_cons (ce_op ob_ix (CE.b (ce_var 0)) (CE.b ce_int)) ca_nil))) (tw_tup (tw_cons (tw_name 3 (by decide)) (tw_cons (tw_name 4 (by decide)) tw_nil))) (fw_tup (fw_cons (fw_name 3 (by decide)) (fw_cons (fw_name 4 (by decide)) fw_nil))) ct_yes (ce_tup (ca_cons (ce_op ob_add (CE.b (ce_var 3)) (CE.b (ce_var 1))) (ca_cons (ce_op ob_add (CE.b (ce_var 4)) (CE.b (ce_var 2))) ca_nil))))))))
def F_is_tile : FS := (seqS (dropS (callX 1 (defF false 1 F__check_kind) (consG (slotD 0) (retG []))))
  noS)
theorem sc_is_tile : FnScope ["kind", "cells", "bits"] ["kind", "cells"] (defScope (top 44)) := ⟨rfl, rfl, rfl, by decide +kernel, rfl, by decide +kernel, by decide +kernel⟩
theorem ok_is_tile {f a__check_kind : Addr} {fd e__check_kind : FuncData} (F : Fun K "is_tile" "is_tile" (top 44) f fd) (T : Bv mg) (H__check_kind : Fw.Fn K mg P w base (L2.CX P w) "_check_kind" 3 a__check_kind e__check_kind ["kind"] (spX ⟨K, XC⟩ false 1 (defF false 1 F__check_kind))) :
    FnG P w K mg base (L2.CX P w) 4 f fd ["kind", "cells"] (spX ⟨K, XC⟩ false 2 (defF false 3 F_is_tile)) := by
  have sc := sc_is_tile
  refine fn_x (G := ⟨K, XC⟩) F sc_is_tile (by rfl) (fun cdv A outer s H E hr tk => ?_)
  refine ⟨_, (pss_cons (ps_expr (Fw.pe_call H__check_kind.G (hr.mono (by decide)) (by rfl) H__check_kind.g H__check_kind.k H__check_kind.b .nil (passes_call tk (fun _ _ _ _ h => h)) (pa_cons (pv 0) pa_nil)))
      pss_no), fun pn => ?_⟩
  exact (cs_seq (cs_drop (ce_callX (ca_cons (ce_var 0) ca_nil)))
    cs_no)
end
end Sb

set_option linter.all false
set_option maxRecDepth 100000
set_option maxHeartbeats 4000000
namespace Sb
open PySem PySem.Spec PyProof.Rows L2 Fw
def penO (c : Addr) (a d n f : Int) : List (Key × V) := [(.inr "cells", .ref c), (.inr "at", .int a), (.inr "digits", .int d), (.inr "count", .int n), (.inr "fold", .int f)]
theorem pen_cells {c : Addr} {a d n f : Int} : valV (penO c a d n f) (.inr "cells") = some (.ref c) := by kernel_rfl
theorem pen_at {c : Addr} {a d n f : Int} : valV (penO c a d n f) (.inr "at") = some (.int a) := by kernel_rfl
theorem pen_digits {c : Addr} {a d n f : Int} : valV (penO c a d n f) (.inr "digits") = some (.int d) := by kernel_rfl
theorem pen_count {c : Addr} {a d n f : Int} : valV (penO c a d n f) (.inr "count") = some (.int n) := by kernel_rfl
theorem pen_fold {c : Addr} {a d n f : Int} : valV (penO c a d n f) (.inr "fold") = some (.int f) := by kernel_rfl
theorem put_at {c : Addr} {a d n f v : Int} : putK (penO c a d n f) (.inr "at") (.int v) = penO c v d n f := by kernel_rfl
theorem put_digits {c : Addr} {a d n f v : Int} : putK (penO c a d n f) (.inr "digits") (.int v) = penO c a v n f := by kernel_rfl
theorem put_count {c : Addr} {a d n f v : Int} : putK (penO c a d n f) (.inr "count") (.int v) = penO c a d v f := by kernel_rfl
theorem put_fold {c : Addr} {a d n f v : Int} : putK (penO c a d n f) (.inr "fold") (.int v) = penO c a d n v := by kernel_rfl

section
variable {H : Hp} {p c : Addr} {a d n f v : Int}
theorem dg_cells (h : H p = some (.dK (penO c a d n f))) : DGet H p (.str "cells") (some (.ref c)) := pen_cells (a := a) (d := d) (n := n) (f := f) ▸ DGet.k (k := Sum.inr "cells") h
theorem dg_at (h : H p = some (.dK (penO c a d n f))) : DGet H p (.str "at") (some (.int a)) := pen_at (c := c) (d := d) (n := n) (f := f) ▸ DGet.k (k := Sum.inr "at") h
theorem dg_digits (h : H p = some (.dK (penO c a d n f))) : DGet H p (.str "digits") (some (.int d)) := pen_digits (a := a) (c := c) (n := n) (f := f) ▸ DGet.k (k := Sum.inr "digits") h
theorem dg_count (h : H p = some (.dK (penO c a d n f))) : DGet H p (.str "count") (some (.int n)) := pen_count (a := a) (d := d) (c := c) (f := f) ▸ DGet.k (k := Sum.inr "count") h
theorem dg_fold (h : H p = some (.dK (penO c a d n f))) : DGet H p (.str "fold") (some (.int f)) := pen_fold (a := a) (d := d) (n := n) (c := c) ▸ DGet.k (k := Sum.inr "fold") h
theorem len_pen : (penO c a d n f).length < sizeLine := by show 5 < sizeLine; decide
theorem dp_at (h : H p = some (.dK (penO c a d n f))) : DPut H p (.str "at") (.int v) (upd H p (.dK (penO c v d n f))) := put_at ▸ DPut.k (k := Sum.inr "at") h len_pen
theorem dp_digits (h : H p = some (.dK (penO c a d n f))) : DPut H p (.str "digits") (.int v) (upd H p (.dK (penO c a v n f))) := put_digits ▸ DPut.k (k := Sum.inr "digits") h len_pen
theorem dp_count (h : H p = some (.dK (penO c a d n f))) : DPut H p (.str "count") (.int v) (upd H p (.dK (penO c a d v f))) := put_count ▸ DPut.k (k := Sum.inr "count") h len_pen
theorem dp_fold (h : H p = some (.dK (penO c a d n f))) : DPut H p (.str "fold") (.int v) (upd H p (.dK (penO c a d n v))) := put_fold ▸ DPut.k (k := Sum.inr "fold") h len_pen
end
section
variable {P : Program} {w : World} {K : PySem.W.Frag} {mg : Str → Option Value} {base : Heap} {XC : Str → Option Addr}
theorem sc_pen : FnScope ["_law_script", "_law_fold", "_law_cell"] ["_law_script"] (defScope (top 46)) := ⟨rfl, rfl, rfl, by decide +kernel, rfl, by decide +kernel, by decide +kernel⟩
theorem ok_pen {f : Addr} {fd : FuncData} (F : Fun K "_law_pen" "_law_pen" (top 46) f fd) (T : Bv mg) : FnG P w K mg base CX0 1 f fd ["_law_script"] (Fw.spPen K) := by
  have sc := sc_pen
  refine fnG_of0 F sc_pen (fun vs H Q E h => ?_) (fun cdv A outer s H vs Q E hr h => ?_)
  · obtain ⟨a, ns, rfl, _⟩ := h
    rfl
  · obtain ⟨a, ns, rfl, hS, hlen, q⟩ := h
    refine ⟨_, (pss_cons (ps_set (i := 1) sc.nd rfl (.inl rfl) pe_int)
      (pss_cons (ps_for PassesOwn.never rfl (pi_list (pv 0)) (pg_name (i := 2) sc.nd rfl (.inl rfl)) (pss_one (ps_set (i := 1) sc.nd rfl (.inl rfl) (pe_op op_modN (pe_callTy call_int1 (by rfl) T.int (by decide +kernel) (pa_cons (pe_op op_add (pe_op op_mul (pv 1) pe_int) (pv 2)) pa_nil)) pe_int))))
      (pss_one (ps_ret (pe_disp (pps_cons pe_str (pe_callTy call_list_of (by rfl) T.list (by decide +kernel) (pa_cons (pv 0) pa_nil)) (pps_cons pe_str pe_int (pps_cons pe_str pe_int (pps_cons pe_str pe_int (pps_cons pe_str (pv 1) pps_nil))))) (by rfl) (by rfl) (fun z => by cases z) (by decide)))))), ?_⟩
    refine ⟨_, rfl, a, rfl, ⟨_, hS⟩, for_list (K := K) (a := a) (xs := ns.map V.int) (fun i σ H' => ∃ f v, σ = [some (.ref a), some (.int f), v] ∧ H' = H ∧ 0 ≤ f ∧ f < 1000000007) ⟨0, none, rfl, rfl, by decide, by decide⟩ (fun i σ H' _ hh => ?_) ?_ ?_⟩
    · obtain ⟨f, v, rfl, rfl, _⟩ := hh
      exact hS
    · rintro i y σ H' hi ⟨f, v, rfl, rfl, h1, h2⟩
      obtain ⟨z, hz, rfl⟩ : ∃ z, ns[i]? = some z ∧ y = V.int z := by
        rw [List.getElem?_map] at hi
        cases e : ns[i]? with
        | none => rw [e] at hi; cases hi
        | some z => rw [e] at hi; exact ⟨z, rfl, (Option.some.inj hi).symm⟩
      refine ⟨_, rfl, _, _, rfl, rfl, .inl ⟨by omega, by omega⟩, _, rfl, _, _, rfl, rfl, .inl ⟨_, rfl, _, _, rfl, rfl, (by show (1000000007 : Int) ≠ 0; decide), _, _, rfl, rfl, ?_, ?_⟩⟩
      · exact Int.fmod_nonneg_of_pos _ (by decide)
      · exact Int.fmod_lt_of_pos _ (by decide)
    · rintro σ H' ⟨f, v, rfl, rfl, h1, h2⟩
      intro p hp
      refine ⟨_, rfl, a, _, rfl, .inl ((same_upd hp).seq hS), fun l hl => ⟨_, rfl, ?_, [(.inr "cells", .ref l), (.inr "at", .int 0), (.inr "digits", .int 0), (.inr "count", .int 0), (.inr "fold", .int f)], rfl, (by show 5 ≤ 15; decide), ?_⟩⟩
      · have e : p ≠ l := fun e => by rw [← e, upd_same] at hl; cases hl
        rw [upd_ne e, upd_same]
      · have e : l ≠ p := fun e => by rw [e, upd_same] at hl; cases hl
        have hl0 : H' l = none := by rw [upd_ne e] at hl; exact hl
        refine q p l _ ⟨ns, 0, 0, 0, f⟩ hp hl0 e.symm (fun b o z => ?_) ⟨?_, Int.le_refl _⟩ ?_ ?_
        · rw [upd_ne (ne_of_none z hp), upd_ne (ne_of_none z hl0), upd_ne (ne_of_none z hp)]
          exact z
        · unfold okP
          simp only [Bool.and_eq_true, decide_eq_true_eq]
          exact ⟨⟨⟨⟨⟨⟨hlen, by decide⟩, by decide⟩, by decide⟩, by decide⟩, h1⟩, by omega⟩
        · rw [upd_same]
          exact congrArg (fun x => some (HO.dK x)) (by kernel_rfl)
        · rw [upd_ne e, upd_same]
theorem sc_draw : FnScope ["_law_pen_here", "_law_many", "_law_cell", "_law_digit", "_law_blend"] ["_law_pen_here", "_law_many"] (defScope (top 47)) := ⟨rfl, rfl, rfl, by decide +kernel, rfl, by decide +kernel, by decide +kernel⟩
theorem ok__law_draw {f : Addr} {fd : FuncData} (F : Fun K "_law_draw" "_law_draw" (top 47) f fd) (T : Bv mg) : FnG P w K mg base CX0 1 f fd ["_law_pen_here", "_law_many"] (spN ⟨K, XC⟩ true 1 drawF) := by
  have sc := sc_draw
  refine fnG_of0 F sc_draw (fun vs H Q E h => spN_len h) (fun cdv A outer s H vs Q E hr h => ?_)
  obtain ⟨pn, U, B, ws, ds, pp, pp', r, rfl, hpn, hn, b, ra, hF, post⟩ := h
  have hu := hu_of hr.r
  cases pn with
  | none => cases hpn
  | some pc =>
  obtain ⟨p, c, TT, ZZ, FF0, KK⟩ := pc
  obtain ⟨hBp, hUp, hp, hBc⟩ := b.pen _ rfl
  unfold drawF at hF
  split at hF
  · next m =>
    split at hF
    · next hok =>
      cases hF
      obtain ⟨hok, hm, hm2⟩ := hok
      obtain ⟨hln, ha, hd, hn0, hnk, hf, hf2⟩ := okP_eq hok
      cases ra with
      | cons r1 r2 =>
      cases r2
      cases r1.int_inv
      have npc : c ≠ p := fun z => by rw [z, hBp] at hBc; cases hBc
      have hc : H c = some (.lst (pp.ns.map V.int)) := b.bh _ _ hBc
      have fin : ∀ (q : PenS) (x : Int), q.ns = pp.ns → (x, q) = penDraw pp m → Q (.int x) (upd H p (.dK (penO c q.a q.d q.n q.f))) := by
        intro q x hq hx
        have e1 : (penDraw pp m).1 = x := by rw [← hx]
        have e2 : (penDraw pp m).2 = q := by rw [← hx]
        refine post _ _ B ?_ (Same.refl _) ?_
        · rw [e2]
          refine ⟨fun a o h => ?_, fun a o h => ?_, b.bu, fun z hz => ?_, fun z hz => ?_⟩
          · rw [upd_ne (ne_of_none h hBp)]; exact b.bh a o h
          · rw [upd_ne (ne_of_none h hUp)]; exact b.uh a o h
          · cases hz
            exact ⟨hBp, hUp, upd_same, by rw [hq]; exact hBc⟩
          · obtain ⟨h1, h2, h3, h4⟩ := b.tab z hz
            cases hz
            exact ⟨h1, tabs_mut h2 hp noC_dK, h3.mut hp noC_dK, h4⟩
        · rw [e1]; exact .int _
      refine ⟨_, (pss_cons (ps_dput hu (pv 0) pe_str (pe_op op_add (pe_dget hu (pv 0) pe_str (fun _ _ => rfl)) pe_int) rfl)
      (C8.pss_cut (ps_if (PW.pt (pw_and (pt_cmpR op_eq (pe_dget hu (pv 0) pe_str (fun _ _ => rfl)) pe_int (nomark _)) (pw_and1 (pt_cmpR op_lt (pe_dget hu (pv 0) pe_str (fun _ _ => rfl)) (pe_callB call_len (by rfl) T.len (by decide +kernel) (pa_cons (pe_dget hu (pv 0) pe_str (fun _ _ => rfl)) pa_nil)) (nomark _))))) (pss_cons (ps_set (i := 2) sc.nd rfl (.inl rfl) (pe_ix ix_list (pe_dget hu (pv 0) pe_str (fun _ _ => rfl)) (pe_dget hu (pv 0) pe_str (fun _ _ => rfl)) (fun _ _ => rfl)))
      (pss_cons (ps_dput hu (pv 0) pe_str (pe_op op_add (pe_dget hu (pv 0) pe_str (fun _ _ => rfl)) pe_int) rfl)
      (pss_one (ps_if (pt_cmpR op_ge (pv 2) (pe_op op_pow pe_int pe_int) (nomark _)) (pss_one (ps_dput hu (pv 0) pe_str (pe_op op_sub (pv 2) (pe_op op_pow pe_int pe_int)) rfl)) (pss_one (ps_dput hu (pv 0) pe_str (pe_op op_modN (pe_callTy call_int1 (by rfl) T.int (by decide +kernel) (pa_cons (pe_op op_add (pe_op op_mul (pe_dget hu (pv 0) pe_str (fun _ _ => rfl)) pe_int) (pv 2)) pa_nil)) pe_int) rfl)))))) pss_nil)
      (pss_cons (ps_if (pt_cmpR op_gt (pe_dget hu (pv 0) pe_str (fun _ _ => rfl)) pe_int (nomark _)) (pss_cons (ps_set (i := 3) sc.nd rfl (.inl rfl) (pe_op op_modN (pe_callTy call_int1 (by rfl) T.int (by decide +kernel) (pa_cons (pe_dget hu (pv 0) pe_str (fun _ _ => rfl)) pa_nil)) (pv 1)))
      (pss_cons (ps_dput hu (pv 0) pe_str (pe_op op_fdivN (pe_dget hu (pv 0) pe_str (fun _ _ => rfl)) (pv 1)) rfl)
      (pss_one (ps_ret (pv 3))))) pss_nil)
      (pss_cons (ps_set (i := 4) sc.nd rfl (.inl rfl) (pe_op op_add (pe_op op_add (pe_dget hu (pv 0) pe_str (fun _ _ => rfl)) (pe_op op_mul (pe_dget hu (pv 0) pe_str (fun _ _ => rfl)) pe_int)) pe_int))
      (pss_one (ps_ret (pe_op op_modN (pe_op op_fdivN (pe_callTy call_int1 (by rfl) T.int (by decide +kernel) (pa_cons (pe_op op_modN (pe_op op_pow (pv 4) pe_int) pe_int) pa_nil)) pe_int) (pv 1)))))))), ?_⟩
      have hp : H p = some (.dK (penO c pp.a pp.d pp.n pp.f)) := hp
      refine ⟨_, rfl, p, _, rfl, dg_count hp, _, _, rfl, rfl, _, rfl, p, _, rfl, dp_count hp, ?_⟩
      refine ⟨fun σ' H' => ∃ (v2 : Option V), σ' = [some (.ref p), some (.int m), v2, none, none] ∧ H' = upd H p (.dK (penO c (penStep pp).a (penStep pp).d (penStep pp).n (penStep pp).f)), ?_, ?_⟩
      · refine ⟨_, rfl, p, _, rfl, dg_digits upd_same, rfl, _, rfl, ?_⟩
        refine ite2 (fun e0 => ?_) (fun e0 => ?_)
        · have hd0 : pp.d = 0 := V.int.inj (of_decide_eq_true e0)
          refine ⟨_, rfl, p, _, rfl, dg_at upd_same, _, rfl, p, _, rfl, dg_cells upd_same, _, pp.ns.length, rfl, .inl ⟨_, SqL.of (by rw [upd_ne npc]; exact hc), by rw [List.length_map]⟩, _, _, rfl, rfl, _, rfl, ?_⟩
          refine ite2 (fun e => ?_) (fun e => ?_)
          · have hlt : pp.a < (pp.ns.length : Int) := of_decide_eq_true e
            have han : pp.a.toNat < pp.ns.length := by omega
            have hgd : pp.ns.getD pp.a.toNat 0 = pp.ns[pp.a.toNat] := by rw [List.getD_eq_getElem?_getD, List.getElem?_eq_getElem han]; rfl
            have hx : (pp.ns.map V.int)[pp.a.toNat]? = some (.int (pp.ns.getD pp.a.toNat 0)) := by
              rw [List.getElem?_map, List.getElem?_eq_getElem han, hgd]
              rfl
            refine ⟨_, rfl, p, _, rfl, dg_cells upd_same, _, rfl, p, _, rfl, dg_at upd_same, c, pp.ns.map V.int, pp.a, .int (pp.ns.getD pp.a.toNat 0), rfl, rfl, SqL.of (by rw [upd_ne npc]; exact hc), at_of (by omega) hx, ?_⟩
            refine ⟨_, rfl, p, _, rfl, dg_at upd_same, _, _, rfl, rfl, _, rfl, p, _, rfl, dp_at upd_same, ?_⟩
            rw [upd_upd]
            refine ⟨_, rfl, _, _, rfl, rfl, ⟨by decide, by decide, by decide⟩, _, _, rfl, rfl, _, rfl, ?_⟩
            refine ite2 (fun e2 => ?_) (fun e2 => ?_)
            · have hge : (10 : Int) ^ 18 ≤ pp.ns.getD pp.a.toNat 0 := of_decide_eq_true e2
              refine ⟨_, rfl, _, _, rfl, rfl, ⟨by decide, by decide, by decide⟩, _, _, rfl, rfl, _, rfl, p, _, rfl, dp_digits upd_same, ?_⟩
              rw [upd_upd]
              refine ⟨_, rfl, ?_⟩
              unfold penStep
              rw [if_pos ⟨hd0, hlt⟩, if_pos hge]
              rfl
            · have hge : ¬ (10 : Int) ^ 18 ≤ pp.ns.getD pp.a.toNat 0 := fun z => e2 (decide_eq_true z)
              refine ⟨_, rfl, p, _, rfl, dg_fold upd_same, _, _, rfl, rfl, .inl ⟨by omega, by omega⟩, _, rfl, _, _, rfl, rfl, .inl ⟨_, rfl, _, _, rfl, rfl, (by show (2147483587 : Int) ≠ 0; decide), _, rfl, p, _, rfl, dp_fold upd_same, ?_⟩⟩
              rw [upd_upd]
              refine ⟨_, rfl, ?_⟩
              unfold penStep
              rw [if_pos ⟨hd0, hlt⟩, if_neg hge]
          · refine ⟨none, rfl, ?_⟩
            unfold penStep
            rw [if_neg fun z => e (decide_eq_true z.2)]
        · refine ⟨none, rfl, ?_⟩
          unfold penStep
          rw [if_neg fun z => e0 (decide_eq_true (congrArg V.int z.1))]
      · rintro σ' H' ⟨v2, rfl, rfl⟩
        have hs := penStep_ok (k := pp.n) ⟨hok, Int.le_refl _⟩
        have hst : (penStep pp).ns = pp.ns := by unfold penStep; split; (· split <;> rfl); rfl
        have hgood : 0 ≤ (penStep pp).f ∧ (penStep pp).f < 2147483587 ∧ 0 ≤ (penStep pp).n ∧ (penStep pp).n ≤ 1000000000 := by
          unfold penStep
          split
          · split
            · exact ⟨hf, hf2, (by show 0 ≤ pp.n + 1; omega), (by show pp.n + 1 ≤ _; omega)⟩
            · exact ⟨fmod_lo _ (by decide), fmod_hi _ (by decide), (by show 0 ≤ pp.n + 1; omega), (by show pp.n + 1 ≤ _; omega)⟩
          · exact ⟨hf, hf2, (by show 0 ≤ pp.n + 1; omega), (by show pp.n + 1 ≤ _; omega)⟩
        obtain ⟨g1, g2, g3, g4⟩ := hgood
        refine ⟨_, rfl, p, _, rfl, dg_digits upd_same, _, _, rfl, rfl, _, rfl, ?_⟩
        refine ite2 (fun e => ?_) (fun e => ?_)
        · have hgt : 0 < (penStep pp).d := of_decide_eq_true e
          refine ⟨_, rfl, p, _, rfl, dg_digits upd_same, .inl ⟨_, rfl, _, rfl, _, _, rfl, rfl, (by show m ≠ 0; omega), ?_⟩⟩
          refine ⟨_, rfl, p, _, rfl, dg_digits upd_same, _, rfl, _, _, rfl, rfl, ⟨by omega, by omega⟩, _, rfl, p, _, rfl, dp_digits upd_same, ?_⟩
          rw [upd_upd]
          refine ⟨_, rfl, fin ⟨(penStep pp).ns, (penStep pp).a, (penStep pp).d.fdiv m, (penStep pp).n, (penStep pp).f⟩ _ hst ?_⟩
          unfold penDraw
          simp only
          rw [if_pos hgt]
        · have hgt : ¬ 0 < (penStep pp).d := fun z => e (decide_eq_true z)
          refine ⟨_, rfl, p, _, rfl, dg_fold upd_same, _, rfl, p, _, rfl, dg_count upd_same, _, _, rfl, rfl, .inl ⟨by omega, by omega⟩, _, _, rfl, rfl, _, _, rfl, rfl, ?_⟩
          refine ⟨_, rfl, _, _, rfl, rfl, ⟨by decide, by decide, by omega⟩, _, _, rfl, rfl, (by show (2305843009213693951 : Int) ≠ 0; decide), .inl ⟨_, rfl, _, _, rfl, rfl, ⟨by decide, by decide⟩, _, rfl, _, _, rfl, rfl, (by show m ≠ 0; omega), ?_⟩⟩
          refine fin (penStep pp) _ hst ?_
          unfold penDraw
          simp only
          rw [if_neg hgt]
          rfl
    · cases hF
  · cases hF
end
end Sb

set_option linter.all false
set_option maxRecDepth 100000
set_option maxHeartbeats 4000000
namespace Sb
open PySem PySem.Spec PyProof.Rows L2 Fw
section
variable {P : Program} {w : World} {K : PySem.W.Frag} {mg : Str → Option Value} {base : Heap} {XC : Str → Option Addr}
def F__law_pick : FS := (retS (op2 dIx (slotD 1) (callP 1 0 drawF (consG (op1 dLen (slotD 1)) (retG [])))))
theorem sc__law_pick : FnScope ["_law_pen_here", "_law_some"] ["_law_pen_here", "_law_some"] (defScope (top 48)) := ⟨rfl, rfl, rfl, by decide +kernel, rfl, by decide +kernel, by decide +kernel⟩
theorem ok__law_pick {f a__law_draw : Addr} {fd e__law_draw : FuncData} (F : Fun K "_law_pick" "_law_pick" (top 48) f fd) (T : Bv mg) (H__law_draw : Fw.Fn K mg P w base CX0 "_law_draw" 1 a__law_draw e__law_draw ["_law_pen_here", "_law_many"] (spN ⟨K, XC⟩ true 1 drawF)) :
    FnG P w K mg base CX0 2 f fd ["_law_pen_here", "_law_some"] (spN ⟨K, XC⟩ true 1 (defF true 2 F__law_pick)) := by
  have sc := sc__law_pick
  refine fn_n (G := ⟨K, XC⟩) F sc__law_pick (by rfl) (fun cdv A outer s H E hr => ?_)
  refine ⟨_, (pss_one (ps_ret (pe_ix (show IxR _ (uIx K) from o_ix) (pv 1) (Fw.pe_call H__law_draw.G (hr.mono (by decide)) (by rfl) H__law_draw.g H__law_draw.k H__law_draw.b .nil pass0 (pa_cons (pv 0) (pa_cons (pe_callB (show CallR _ _ (uLen K) from c_len) (by rfl) T.len (by decide +kernel) (pa_cons (pv 1) pa_nil)) pa_nil))) (fun _ _ => rfl)))), fun pn => ?_⟩
  exact (cs_ret (ce_op ob_ix (CE.b (ce_var 1)) (CE.b (ce_callP (ca_cons (ce_cb1 b_len (CE.b (ce_var 1))) ca_nil)))))
def F__law_known : FS := (seqS (asgO (retG (.dict [])) 1)
  (seqS (forS (seqI (slotD 0)) (nameT 2) (asgV (retG (.bool true)) (subU 1 (slotD 2))))
  (relS 1 (retS (slotD 1)))))
theorem sc__law_known : FnScope ["_law_cells", "_law_known_here", "_law_cell"] ["_law_cells"] (defScope (top 49)) := ⟨rfl, rfl, rfl, by decide +kernel, rfl, by decide +kernel, by decide +kernel⟩
theorem ok__law_known {f : Addr} {fd : FuncData} (F : Fun K "_law_known" "_law_known" (top 49) f fd) (T : Bv mg) :
    FnG P w K mg base CX0 1 f fd ["_law_cells"] (spN ⟨K, XC⟩ false 1 (defF false 3 F__law_known)) := by
  have sc := sc__law_known
  refine fn_n (G := ⟨K, XC⟩) F sc__law_known (by rfl) (fun cdv A outer s H E hr => ?_)
  refine ⟨_, (pss_cons (ps_set (i := 1) sc.nd rfl (.inl rfl) pe_dnewK)
      (pss_cons (ps_for PassesOwn.never rfl (show PI _ _ _ (iSeq K _) from pi_seq (pv 0)) (pg_name (i := 2) sc.nd rfl (.inl rfl)) (pss_one (ps_asg pe_bl (pg_sub (pv 1) (pv 2) (set_U (hu65 hr.r))))))
      (pss_one (ps_ret (pv 1))))), fun pn => ?_⟩
  exact (cs_seq (cs_asgO cf_dnewK)
    (cs_seq (cs_for (ci_seq (ce_var 0)) (tg_name 2) (cs_asgV ce_bl (v_subU (E := E0) (ce_var 2))))
    (cs_rel 1 (cs_ret (ce_var 1)))))
def F__law_line : FS := (seqS (asgO (lstG (consG (tupG (consG (slotD 0) (consG (slotD 1) (retG [])))) (retG []))) 4)
  (seqS (forS (rgI rg1D (consG (op2 dSub (slotD 2) (slotD 0)) (retG []))) (nameT 5) (seqS (asgS (op2 dSub (op2 dAdd (slotD 1) (ifG (testG (op2 dGt (slotD 3) (slotD 1))) (retG (.int 1)) (retG (.int 0)))) (ifG (testG (op2 dLt (slotD 3) (slotD 1))) (retG (.int 1)) (retG (.int 0)))) (nameT 1))
  (appS 4 (tupG (consG (op2 dAdd (op2 dAdd (slotD 0) (slotD 5)) (retG (.int 1))) (consG (slotD 1) (retG [])))))))
  (relS 4 (retS (slotD 4)))))
theorem sc__law_line : FnScope ["_law_x", "_law_y", "_law_u", "_law_v", "_law_found", "_law_lap"] ["_law_x", "_law_y", "_law_u", "_law_v"] (defScope (top 50)) := ⟨rfl, rfl, rfl, by decide +kernel, rfl, by decide +kernel, by decide +kernel⟩
theorem ok__law_line {f : Addr} {fd : FuncData} (F : Fun K "_law_line" "_law_line" (top 50) f fd) (T : Bv mg) :
    FnG P w K mg base CX0 1 f fd ["_law_x", "_law_y", "_law_u", "_law_v"] (spN ⟨K, XC⟩ false 4 (defF false 6 F__law_line)) := by
  have sc := sc__law_line
  refine fn_n (G := ⟨K, XC⟩) F sc__law_line (by rfl) (fun cdv A outer s H E hr => ?_)
  refine ⟨_, (pss_cons (ps_set (i := 4) sc.nd rfl (.inl rfl) (pe_lst (pa_cons (pe_tup (pa_cons (pv 0) (pa_cons (pv 1) pa_nil))) pa_nil)))
      (pss_cons (ps_for PassesOwn.never rfl (pi_range1 (by rfl) T.range (pa_cons (pe_op o_sub (pv 2) (pv 0)) pa_nil)) (pg_name (i := 5) sc.nd rfl (.inl rfl)) (pss_cons (ps_set (i := 1) sc.nd rfl (.inl rfl) (pe_op o_sub (pe_op (show OpR _ (binaryOp .Add) (uAdd K) from o_add) (pv 1) (pe_ifExp (pt_cmpR o_gt (pv 3) (pv 1) (nomark _)) pe_int pe_int)) (pe_ifExp (pt_cmpR o_lt (pv 3) (pv 1) (nomark _)) pe_int pe_int)))
      (pss_one (ps_expr (pe_bm PySem.F.plainAttrs_list PySem.F.slot_list_append PySem.F.type_list_append mt_append (pv 4) (pa_cons (pe_tup (pa_cons (pe_op (show OpR _ (binaryOp .Add) (uAdd K) from o_add) (pe_op (show OpR _ (binaryOp .Add) (uAdd K) from o_add) (pv 0) (pv 5)) pe_int) (pa_cons (pv 1) pa_nil))) pa_nil))))))
      (pss_one (ps_ret (pv 4))))), fun pn => ?_⟩
  exact (cs_seq (cs_asgO (cf_lst (ca_cons (ce_tup (ca_cons (ce_var 0) (ca_cons (ce_var 1) ca_nil))) ca_nil)))
    (cs_seq (cs_for (ci_rg1 (ca_cons (ce_op ob_sub (CE.b (ce_var 2)) (CE.b (ce_var 0))) ca_nil)) (tg_name 5) (cs_seq (cs_asg (ce_op ob_sub (CE.b (ce_op ob_add (CE.b (ce_var 1)) (CE.b (ce_if (ct_test (ce_op ob_gt (CE.b (ce_var 3)) (CE.b (ce_var 1)))) ce_int ce_int)))) (CE.b (ce_if (ct_test (ce_op ob_lt (CE.b (ce_var 3)) (CE.b (ce_var 1)))) ce_int ce_int))) (tg_name 1))
    (cs_app (ce_tup (ca_cons (ce_op ob_add (CE.b (ce_op ob_add (CE.b (ce_var 0)) (CE.b (ce_var 5)))) (CE.b ce_int)) (ca_cons (ce_var 1) ca_nil))))))
    (cs_rel 4 (cs_ret (ce_var 4)))))
def F__law_one_way : FS := (seqS (asgS (lstG (consG (tupG (consG (retG (.int 0)) (consG (retG (.int 0)) (retG [])))) (consG (tupG (consG (retG (.int 1)) (consG (retG (.int 0)) (retG [])))) (consG (tupG (consG (retG (.int 2)) (consG (op1 dNeg (retG (.int 1))) (retG [])))) (consG (tupG (consG (retG (.int 2)) (consG (retG (.int 0)) (retG [])))) (consG (tupG (consG (retG (.int 2)) (consG (retG (.int 1)) (retG [])))) (consG (tupG (consG (retG (.int 3)) (consG (op1 dNeg (retG (.int 1))) (retG [])))) (consG (tupG (consG (retG (.int 3)) (consG (retG (.int 1)) (retG [])))) (consG (tupG (consG (retG (.int 4)) (consG (retG (.int 0)) (retG [])))) (retG [])))))))))) (nameT 2))
  (retS (lcG [3, 4] (seqI (slotD 2)) (tupT 2 (consT (nameT 3) (consT (nameT 4) nilT))) (retG true) (tupG (consG (op2 dAdd (slotD 0) (slotD 3)) (consG (op2 dAdd (slotD 1) (slotD 4)) (retG [])))))))
theorem sc__law_one_way : FnScope ["_law_x", "_law_y", "_law_some", "_law_dx", "_law_dy"] ["_law_x", "_law_y"] (defScope (top 51)) := ⟨rfl, rfl, rfl, by decide +kernel, rfl, by decide +kernel, by decide +kernel⟩
theorem ok__law_one_way {f : Addr} {fd : FuncData} (F : Fun K "_law_one_way" "_law_one_way" (top 51) f fd) (T : Bv mg) :
    FnG P w K mg base CX0 1 f fd ["_law_x", "_law_y"] (spN ⟨K, XC⟩ false 2 (defF false 5 F__law_one_way)) := by
  have sc := sc__law_one_way
  refine fn_n (G := ⟨K, XC⟩) F sc__law_one_way (by rfl) (fun cdv A outer s H E hr => ?_)
  refine ⟨_, (pss_cons (ps_set (i := 2) sc.nd rfl (.inl rfl) (pe_lst (pa_cons (pe_tup (pa_cons pe_int (pa_cons pe_int pa_nil))) (pa_cons (pe_tup (pa_cons pe_int (pa_cons pe_int pa_nil))) (pa_cons (pe_tup (pa_cons pe_int (pa_cons (pe_un o_neg pe_int) pa_nil))) (pa_cons (pe_tup (pa_cons pe_int (pa_cons pe_int pa_nil))) (pa_cons (pe_tup (pa_cons pe_int (pa_cons pe_int pa_nil))) (pa_cons (pe_tup (pa_cons pe_int (pa_cons (pe_un o_neg pe_int) pa_nil))) (pa_cons (pe_tup (pa_cons pe_int (pa_cons pe_int pa_nil))) (pa_cons (pe_tup (pa_cons pe_int (pa_cons pe_int pa_nil))) pa_nil))))))))))
      (pss_one (ps_ret (pe_lc (own := [("_law_dx", 3), ("_law_dy", 4)]) (tt := tYes) rfl sc.nd (show PI _ _ _ (iSeq K _) from pi_seq (pv 2)) (blkOk_by (N := ["_law_x", "_law_y", "_law_some", "_law_dx", "_law_dy"]) (sc := defScope (top 51)) (by decide +kernel)) (fun _ _ _ _ _ => (show PG _ _ (gTup K 2 _) from pg_tup (by rfl) (pgs_cons (pg_name (i := 3) sc.nd rfl (.inl rfl)) (pgs_cons (pg_name (i := 4) sc.nd rfl (.inl rfl)) pgs_nil)))) (fun _ _ _ _ _ => pts_nil) (fun _ _ _ _ _ => (pe_tup (pa_cons (pe_op (show OpR _ (binaryOp .Add) (uAdd K) from o_add) (pv 0) (pv 3)) (pa_cons (pe_op (show OpR _ (binaryOp .Add) (uAdd K) from o_add) (pv 1) (pv 4)) pa_nil)))))))), fun pn => ?_⟩
  exact (cs_seq (cs_asg (CF.ce (cf_lst (ca_cons (ce_tup (ca_cons ce_int (ca_cons ce_int ca_nil))) (ca_cons (ce_tup (ca_cons ce_int (ca_cons ce_int ca_nil))) (ca_cons (ce_tup (ca_cons ce_int (ca_cons (ce_un ub_neg (CE.b ce_int)) ca_nil))) (ca_cons (ce_tup (ca_cons ce_int (ca_cons ce_int ca_nil))) (ca_cons (ce_tup (ca_cons ce_int (ca_cons ce_int ca_nil))) (ca_cons (ce_tup (ca_cons ce_int (ca_cons (ce_un ub_neg (CE.b ce_int)) ca_nil))) (ca_cons (ce_tup (ca_cons ce_int (ca_cons ce_int ca_nil))) (ca_cons (ce_tup (ca_cons ce_int (ca_cons ce_int ca_nil))) ca_nil)))))))))) (tg_name 2))
    (cs_ret (CF.ce (cf_lc (ci_seq (ce_var 2)) (tw_tup (tw_cons (tw_name 3 (by decide)) (tw_cons (tw_name 4 (by decide)) tw_nil))) (fw_tup (fw_cons (fw_name 3 (by decide)) (fw_cons (fw_name 4 (by decide)) fw_nil))) ct_yes (ce_tup (ca_cons (ce_op ob_add (CE.b (ce_var 0)) (CE.b (ce_var 3))) (ca_cons (ce_op ob_add (CE.b (ce_var 1)) (CE.b (ce_var 4))) ca_nil)))))))
def F__law_shape : FS := (seqS (ifS (testG (op2 dEq (slotD 0) (retG (.str "wire")))) (asgS (callN 4 (defF false 6 F__law_line) (consG (retG (.int 0)) (consG (retG (.int 0)) (consG (retG (.int 19)) (consG (retG (.int 0)) (retG [])))))) (nameT 1)) (ifS (testG (op2 dEq (slotD 0) (retG (.str "down")))) (asgS (op2 dAdd (callN 4 (defF false 6 F__law_line) (consG (retG (.int 0)) (consG (retG (.int 0)) (consG (retG (.int 5)) (consG (retG (.int 0)) (retG [])))))) (callN 4 (defF false 6 F__law_line) (consG (retG (.int 6)) (consG (retG (.int 1)) (consG (retG (.int 19)) (consG (retG (.int 8)) (retG []))))))) (nameT 1)) (ifS (testG (op2 dEq (slotD 0) (retG (.str "up")))) (asgS (op2 dAdd (callN 4 (defF false 6 F__law_line) (consG (retG (.int 0)) (consG (retG (.int 8)) (consG (retG (.int 5)) (consG (retG (.int 8)) (retG [])))))) (callN 4 (defF false 6 F__law_line) (consG (retG (.int 6)) (consG (retG (.int 7)) (consG (retG (.int 19)) (consG (retG (.int 0)) (retG []))))))) (nameT 1)) (ifS (testG (op2 dEq (slotD 0) (retG (.str "copy")))) (asgS (op2 dAdd (op2 dAdd (op2 dAdd (callN 4 (defF false 6 F__law_line) (consG (retG (.int 0)) (consG (retG (.int 0)) (consG (retG (.int 4)) (consG (retG (.int 0)) (retG [])))))) (lstG (consG (tupG (consG (retG (.int 5)) (consG (op1 dNeg (retG (.int 1))) (retG [])))) (consG (tupG (consG (retG (.int 6)) (consG (op1 dNeg (retG (.int 1))) (retG [])))) (retG []))))) (callN 4 (defF false 6 F__law_line) (consG (retG (.int 7)) (consG (retG (.int 0)) (consG (retG (.int 19)) (consG (retG (.int 0)) (retG []))))))) (callN 4 (defF false 6 F__law_line) (consG (retG (.int 5)) (consG (retG (.int 1)) (consG (retG (.int 19)) (consG (retG (.int 8)) (retG []))))))) (nameT 1)) (ifS (testG (op2 dEq (slotD 0) (retG (.str "but")))) (seqS (asgS (op2 dAdd (op2 dAdd (callN 4 (defF false 6 F__law_line) (consG (retG (.int 0)) (consG (retG (.int 0)) (consG (retG (.int 3)) (consG (retG (.int 0)) (retG [])))))) (callN 2 (defF false 5 F__law_one_way) (consG (retG (.int 4)) (consG (retG (.int 1)) (retG []))))) (lstG (consG (tupG (consG (retG (.int 9)) (consG (retG (.int 2)) (retG [])))) (consG (tupG (consG (retG (.int 10)) (consG (retG (.int 3)) (retG [])))) (consG (tupG (consG (retG (.int 0)) (consG (retG (.int 8)) (retG [])))) (consG (tupG (consG (retG (.int 1)) (consG (retG (.int 8)) (retG [])))) (consG (tupG (consG (retG (.int 2)) (consG (retG (.int 7)) (retG [])))) (consG (tupG (consG (retG (.int 3)) (consG (retG (.int 6)) (retG [])))) (retG []))))))))) (nameT 1))
  (asgS (op2 dAdd (op2 dAdd (op2 dAdd (slotD 1) (callN 2 (defF false 5 F__law_one_way) (consG (retG (.int 4)) (consG (retG (.int 5)) (retG []))))) (lstG (consG (tupG (consG (retG (.int 9)) (consG (retG (.int 5)) (retG [])))) (consG (tupG (consG (retG (.int 10)) (consG (retG (.int 5)) (retG [])))) (consG (tupG (consG (retG (.int 11)) (consG (retG (.int 4)) (retG [])))) (consG (tupG (consG (retG (.int 11)) (consG (retG (.int 5)) (retG [])))) (consG (tupG (consG (retG (.int 11)) (consG (retG (.int 6)) (retG [])))) (retG [])))))))) (callN 4 (defF false 6 F__law_line) (consG (retG (.int 12)) (consG (retG (.int 5)) (consG (retG (.int 19)) (consG (retG (.int 0)) (retG []))))))) (nameT 1))) (seqS (asgS (op2 dAdd (lstG (consG (tupG (consG (retG (.int 0)) (consG (retG (.int 0)) (retG [])))) (consG (tupG (consG (retG (.int 1)) (consG (retG (.int 0)) (retG [])))) (consG (tupG (consG (retG (.int 2)) (consG (retG (.int 1)) (retG [])))) (consG (tupG (consG (retG (.int 8)) (consG (retG (.int 3)) (retG [])))) (consG (tupG (consG (retG (.int 0)) (consG (retG (.int 8)) (retG [])))) (consG (tupG (consG (retG (.int 1)) (consG (retG (.int 8)) (retG [])))) (consG (tupG (consG (retG (.int 2)) (consG (retG (.int 7)) (retG [])))) (consG (tupG (consG (retG (.int 8)) (consG (retG (.int 5)) (retG [])))) (consG (tupG (consG (retG (.int 9)) (consG (retG (.int 4)) (retG [])))) (retG []))))))))))) (callN 2 (defF false 5 F__law_one_way) (consG (retG (.int 3)) (consG (retG (.int 2)) (retG []))))) (nameT 1))
  (seqS (asgS (op2 dAdd (op2 dAdd (slotD 1) (callN 2 (defF false 5 F__law_one_way) (consG (retG (.int 3)) (consG (retG (.int 6)) (retG []))))) (callN 4 (defF false 6 F__law_line) (consG (retG (.int 10)) (consG (retG (.int 4)) (consG (retG (.int 19)) (consG (retG (.int 0)) (retG []))))))) (nameT 1))
  (ifS (testG (op2 dEq (slotD 0) (retG (.str "xor")))) (asgS (op2 dAdd (slotD 1) (lstG (consG (tupG (consG (retG (.int 9)) (consG (retG (.int 3)) (retG [])))) (consG (tupG (consG (retG (.int 9)) (consG (retG (.int 5)) (retG [])))) (retG []))))) (nameT 1)) nextS))))))))
  (retS (op1 dTup (op1 dSort (slotD 1)))))
theorem sc__law_shape : FnScope ["_law_kind", "_law_found"] ["_law_kind"] (defScope (top 52)) := ⟨rfl, rfl, rfl, by decide +kernel, rfl, by decide +kernel, by decide +kernel⟩
theorem ok__law_shape {f a__law_line a__law_one_way : Addr} {fd e__law_line e__law_one_way : FuncData} (F : Fun K "_law_shape" "_law_shape" (top 52) f fd) (T : Bv mg) (H__law_line : Fw.Fn K mg P w base CX0 "_law_line" 1 a__law_line e__law_line ["_law_x", "_law_y", "_law_u", "_law_v"] (spN ⟨K, XC⟩ false 4 (defF false 6 F__law_line))) (H__law_one_way : Fw.Fn K mg P w base CX0 "_law_one_way" 1 a__law_one_way e__law_one_way ["_law_x", "_law_y"] (spN ⟨K, XC⟩ false 2 (defF false 5 F__law_one_way))) :
    FnG P w K mg base CX0 2 f fd ["_law_kind"] (spN ⟨K, XC⟩ false 1 (defF false 2 F__law_shape)) := by
  have sc := sc__law_shape
  refine fn_n (G := ⟨K, XC⟩) F sc__law_shape (by rfl) (fun cdv A outer s H E hr => ?_)
  refine ⟨_, (pss_cons (ps_if (pt_cmpR (show OpR _ (compareOp .Eq) (rEqD K) from o_eq hr.r.units) (pv 0) pe_str (nomark _)) (pss_one (ps_set (i := 1) sc.nd rfl (.inl rfl) (Fw.pe_call H__law_line.G (hr.mono (by decide)) (by rfl) H__law_line.g H__law_line.k H__law_line.b .nil pass0 (pa_cons pe_int (pa_cons pe_int (pa_cons pe_int (pa_cons pe_int pa_nil))))))) (pss_one (ps_if (pt_cmpR (show OpR _ (compareOp .Eq) (rEqD K) from o_eq hr.r.units) (pv 0) pe_str (nomark _)) (pss_one (ps_set (i := 1) sc.nd rfl (.inl rfl) (pe_op (show OpR _ (binaryOp .Add) (uAdd K) from o_add) (Fw.pe_call H__law_line.G (hr.mono (by decide)) (by rfl) H__law_line.g H__law_line.k H__law_line.b .nil pass0 (pa_cons pe_int (pa_cons pe_int (pa_cons pe_int (pa_cons pe_int pa_nil))))) (Fw.pe_call H__law_line.G (hr.mono (by decide)) (by rfl) H__law_line.g H__law_line.k H__law_line.b .nil pass0 (pa_cons pe_int (pa_cons pe_int (pa_cons pe_int (pa_cons pe_int pa_nil)))))))) (pss_one (ps_if (pt_cmpR (show OpR _ (compareOp .Eq) (rEqD K) from o_eq hr.r.units) (pv 0) pe_str (nomark _)) (pss_one (ps_set (i := 1) sc.nd rfl (.inl rfl) (pe_op (show OpR _ (binaryOp .Add) (uAdd K) from o_add) (Fw.pe_call H__law_line.G (hr.mono (by decide)) (by rfl) H__law_line.g H__law_line.k H__law_line.b .nil pass0 (pa_cons pe_int (pa_cons pe_int (pa_cons pe_int (pa_cons pe_int pa_nil))))) (Fw.pe_call H__law_line.G (hr.mono (by decide)) (by rfl) H__law_line.g H__law_line.k H__law_line.b .nil pass0 (pa_cons pe_int (pa_cons pe_int (pa_cons pe_int (pa_cons pe_int pa_nil)))))))) (pss_one (ps_if (pt_cmpR (show OpR _ (compareOp .Eq) (rEqD K) from o_eq hr.r.units) (pv 0) pe_str (nomark _)) (pss_one (ps_set (i := 1) sc.nd rfl (.inl rfl) (pe_op (show OpR _ (binaryOp .Add) (uAdd K) from o_add) (pe_op (show OpR _ (binaryOp .Add) (uAdd K) from o_add) (pe_op (show OpR _ (binaryOp .Add) (uAdd K) from o_add) (Fw.pe_call H__law_line.G (hr.mono (by decide)) (by rfl) H__law_line.g H__law_line.k H__law_line.b .nil pass0 (pa_cons pe_int (pa_cons pe_int (pa_cons pe_int (pa_cons pe_int pa_nil))))) (pe_lst (pa_cons (pe_tup (pa_cons pe_int (pa_cons (pe_un o_neg pe_int) pa_nil))) (pa_cons (pe_tup (pa_cons pe_int (pa_cons (pe_un o_neg pe_int) pa_nil))) pa_nil)))) (Fw.pe_call H__law_line.G (hr.mono (by decide)) (by rfl) H__law_line.g H__law_line.k H__law_line.b .nil pass0 (pa_cons pe_int (pa_cons pe_int (pa_cons pe_int (pa_cons pe_int pa_nil)))))) (Fw.pe_call H__law_line.G (hr.mono (by decide)) (by rfl) H__law_line.g H__law_line.k H__law_line.b .nil pass0 (pa_cons pe_int (pa_cons pe_int (pa_cons pe_int (pa_cons pe_int pa_nil)))))))) (pss_one (ps_if (pt_cmpR (show OpR _ (compareOp .Eq) (rEqD K) from o_eq hr.r.units) (pv 0) pe_str (nomark _)) (pss_cons (ps_set (i := 1) sc.nd rfl (.inl rfl) (pe_op (show OpR _ (binaryOp .Add) (uAdd K) from o_add) (pe_op (show OpR _ (binaryOp .Add) (uAdd K) from o_add) (Fw.pe_call H__law_line.G (hr.mono (by decide)) (by rfl) H__law_line.g H__law_line.k H__law_line.b .nil pass0 (pa_cons pe_int (pa_cons pe_int (pa_cons pe_int (pa_cons pe_int pa_nil))))) (Fw.pe_call H__law_one_way.G (hr.mono (by decide)) (by rfl) H__law_one_way.g H__law_one_way.k H__law_one_way.b .nil pass0 (pa_cons pe_int (pa_cons pe_int pa_nil)))) (pe_lst (pa_cons (pe_tup (pa_cons pe_int (pa_cons pe_int pa_nil))) (pa_cons (pe_tup (pa_cons pe_int (pa_cons pe_int pa_nil))) (pa_cons (pe_tup (pa_cons pe_int (pa_cons pe_int pa_nil))) (pa_cons (pe_tup (pa_cons pe_int (pa_cons pe_int pa_nil))) (pa_cons (pe_tup (pa_cons pe_int (pa_cons pe_int pa_nil))) (pa_cons (pe_tup (pa_cons pe_int (pa_cons pe_int pa_nil))) pa_nil)))))))))
      (pss_one (ps_set (i := 1) sc.nd rfl (.inl rfl) (pe_op (show OpR _ (binaryOp .Add) (uAdd K) from o_add) (pe_op (show OpR _ (binaryOp .Add) (uAdd K) from o_add) (pe_op (show OpR _ (binaryOp .Add) (uAdd K) from o_add) (pv 1) (Fw.pe_call H__law_one_way.G (hr.mono (by decide)) (by rfl) H__law_one_way.g H__law_one_way.k H__law_one_way.b .nil pass0 (pa_cons pe_int (pa_cons pe_int pa_nil)))) (pe_lst (pa_cons (pe_tup (pa_cons pe_int (pa_cons pe_int pa_nil))) (pa_cons (pe_tup (pa_cons pe_int (pa_cons pe_int pa_nil))) (pa_cons (pe_tup (pa_cons pe_int (pa_cons pe_int pa_nil))) (pa_cons (pe_tup (pa_cons pe_int (pa_cons pe_int pa_nil))) (pa_cons (pe_tup (pa_cons pe_int (pa_cons pe_int pa_nil))) pa_nil))))))) (Fw.pe_call H__law_line.G (hr.mono (by decide)) (by rfl) H__law_line.g H__law_line.k H__law_line.b .nil pass0 (pa_cons pe_int (pa_cons pe_int (pa_cons pe_int (pa_cons pe_int pa_nil))))))))) (pss_cons (ps_set (i := 1) sc.nd rfl (.inl rfl) (pe_op (show OpR _ (binaryOp .Add) (uAdd K) from o_add) (pe_lst (pa_cons (pe_tup (pa_cons pe_int (pa_cons pe_int pa_nil))) (pa_cons (pe_tup (pa_cons pe_int (pa_cons pe_int pa_nil))) (pa_cons (pe_tup (pa_cons pe_int (pa_cons pe_int pa_nil))) (pa_cons (pe_tup (pa_cons pe_int (pa_cons pe_int pa_nil))) (pa_cons (pe_tup (pa_cons pe_int (pa_cons pe_int pa_nil))) (pa_cons (pe_tup (pa_cons pe_int (pa_cons pe_int pa_nil))) (pa_cons (pe_tup (pa_cons pe_int (pa_cons pe_int pa_nil))) (pa_cons (pe_tup (pa_cons pe_int (pa_cons pe_int pa_nil))) (pa_cons (pe_tup (pa_cons pe_int (pa_cons pe_int pa_nil))) pa_nil)))))))))) (Fw.pe_call H__law_one_way.G (hr.mono (by decide)) (by rfl) H__law_one_way.g H__law_one_way.k H__law_one_way.b .nil pass0 (pa_cons pe_int (pa_cons pe_int pa_nil)))))
      (pss_cons (ps_set (i := 1) sc.nd rfl (.inl rfl) (pe_op (show OpR _ (binaryOp .Add) (uAdd K) from o_add) (pe_op (show OpR _ (binaryOp .Add) (uAdd K) from o_add) (pv 1) (Fw.pe_call H__law_one_way.G (hr.mono (by decide)) (by rfl) H__law_one_way.g H__law_one_way.k H__law_one_way.b .nil pass0 (pa_cons pe_int (pa_cons pe_int pa_nil)))) (Fw.pe_call H__law_line.G (hr.mono (by decide)) (by rfl) H__law_line.g H__law_line.k H__law_line.b .nil pass0 (pa_cons pe_int (pa_cons pe_int (pa_cons pe_int (pa_cons pe_int pa_nil)))))))
      (pss_one (ps_if (pt_cmpR (show OpR _ (compareOp .Eq) (rEqD K) from o_eq hr.r.units) (pv 0) pe_str (nomark _)) (pss_one (ps_set (i := 1) sc.nd rfl (.inl rfl) (pe_op (show OpR _ (binaryOp .Add) (uAdd K) from o_add) (pv 1) (pe_lst (pa_cons (pe_tup (pa_cons pe_int (pa_cons pe_int pa_nil))) (pa_cons (pe_tup (pa_cons pe_int (pa_cons pe_int pa_nil))) pa_nil)))))) pss_nil)))))))))))))
      (pss_one (ps_ret (pe_callTy (show CallR _ _ (uTup K) from c_tuple) (by rfl) T.tuple (by decide +kernel) (pa_cons (pe_callB (show CallR _ _ (uSort K) from c_sort (by exact units70 hr.r)) (by rfl) T.sorted (by decide +kernel) (pa_cons (pv 1) pa_nil)) pa_nil))))), fun pn => ?_⟩
  exact (cs_seq (cs_if (ct_test (ce_op ob_eq (CE.b (ce_var 0)) (CE.b ce_str))) (cs_asg (ce_callN (ca_cons ce_int (ca_cons ce_int (ca_cons ce_int (ca_cons ce_int ca_nil))))) (tg_name 1)) (cs_if (ct_test (ce_op ob_eq (CE.b (ce_var 0)) (CE.b ce_str))) (cs_asg (ce_op ob_add (CE.b (ce_callN (ca_cons ce_int (ca_cons ce_int (ca_cons ce_int (ca_cons ce_int ca_nil)))))) (CE.b (ce_callN (ca_cons ce_int (ca_cons ce_int (ca_cons ce_int (ca_cons ce_int ca_nil))))))) (tg_name 1)) (cs_if (ct_test (ce_op ob_eq (CE.b (ce_var 0)) (CE.b ce_str))) (cs_asg (ce_op ob_add (CE.b (ce_callN (ca_cons ce_int (ca_cons ce_int (ca_cons ce_int (ca_cons ce_int ca_nil)))))) (CE.b (ce_callN (ca_cons ce_int (ca_cons ce_int (ca_cons ce_int (ca_cons ce_int ca_nil))))))) (tg_name 1)) (cs_if (ct_test (ce_op ob_eq (CE.b (ce_var 0)) (CE.b ce_str))) (cs_asg (ce_op ob_add (CE.b (ce_op ob_add (CE.b (ce_op ob_add (CE.b (ce_callN (ca_cons ce_int (ca_cons ce_int (ca_cons ce_int (ca_cons ce_int ca_nil)))))) (CF.b (cf_lst (ca_cons (ce_tup (ca_cons ce_int (ca_cons (ce_un ub_neg (CE.b ce_int)) ca_nil))) (ca_cons (ce_tup (ca_cons ce_int (ca_cons (ce_un ub_neg (CE.b ce_int)) ca_nil))) ca_nil)))))) (CE.b (ce_callN (ca_cons ce_int (ca_cons ce_int (ca_cons ce_int (ca_cons ce_int ca_nil)))))))) (CE.b (ce_callN (ca_cons ce_int (ca_cons ce_int (ca_cons ce_int (ca_cons ce_int ca_nil))))))) (tg_name 1)) (cs_if (ct_test (ce_op ob_eq (CE.b (ce_var 0)) (CE.b ce_str))) (cs_seq (cs_asg (ce_op ob_add (CE.b (ce_op ob_add (CE.b (ce_callN (ca_cons ce_int (ca_cons ce_int (ca_cons ce_int (ca_cons ce_int ca_nil)))))) (CE.b (ce_callN (ca_cons ce_int (ca_cons ce_int ca_nil)))))) (CF.b (cf_lst (ca_cons (ce_tup (ca_cons ce_int (ca_cons ce_int ca_nil))) (ca_cons (ce_tup (ca_cons ce_int (ca_cons ce_int ca_nil))) (ca_cons (ce_tup (ca_cons ce_int (ca_cons ce_int ca_nil))) (ca_cons (ce_tup (ca_cons ce_int (ca_cons ce_int ca_nil))) (ca_cons (ce_tup (ca_cons ce_int (ca_cons ce_int ca_nil))) (ca_cons (ce_tup (ca_cons ce_int (ca_cons ce_int ca_nil))) ca_nil))))))))) (tg_name 1))
    (cs_asg (ce_op ob_add (CE.b (ce_op ob_add (CE.b (ce_op ob_add (CE.b (ce_var 1)) (CE.b (ce_callN (ca_cons ce_int (ca_cons ce_int ca_nil)))))) (CF.b (cf_lst (ca_cons (ce_tup (ca_cons ce_int (ca_cons ce_int ca_nil))) (ca_cons (ce_tup (ca_cons ce_int (ca_cons ce_int ca_nil))) (ca_cons (ce_tup (ca_cons ce_int (ca_cons ce_int ca_nil))) (ca_cons (ce_tup (ca_cons ce_int (ca_cons ce_int ca_nil))) (ca_cons (ce_tup (ca_cons ce_int (ca_cons ce_int ca_nil))) ca_nil))))))))) (CE.b (ce_callN (ca_cons ce_int (ca_cons ce_int (ca_cons ce_int (ca_cons ce_int ca_nil))))))) (tg_name 1))) (cs_seq (cs_asg (ce_op ob_add (CF.b (cf_lst (ca_cons (ce_tup (ca_cons ce_int (ca_cons ce_int ca_nil))) (ca_cons (ce_tup (ca_cons ce_int (ca_cons ce_int ca_nil))) (ca_cons (ce_tup (ca_cons ce_int (ca_cons ce_int ca_nil))) (ca_cons (ce_tup (ca_cons ce_int (ca_cons ce_int ca_nil))) (ca_cons (ce_tup (ca_cons ce_int (ca_cons ce_int ca_nil))) (ca_cons (ce_tup (ca_cons ce_int (ca_cons ce_int ca_nil))) (ca_cons (ce_tup (ca_cons ce_int (ca_cons ce_int ca_nil))) (ca_cons (ce_tup (ca_cons ce_int (ca_cons ce_int ca_nil))) (ca_cons (ce_tup (ca_cons ce_int (ca_cons ce_int ca_nil))) ca_nil))))))))))) (CE.b (ce_callN (ca_cons ce_int (ca_cons ce_int ca_nil))))) (tg_name 1))
    (cs_seq (cs_asg (ce_op ob_add (CE.b (ce_op ob_add (CE.b (ce_var 1)) (CE.b (ce_callN (ca_cons ce_int (ca_cons ce_int ca_nil)))))) (CE.b (ce_callN (ca_cons ce_int (ca_cons ce_int (ca_cons ce_int (ca_cons ce_int ca_nil))))))) (tg_name 1))
    (cs_if (ct_test (ce_op ob_eq (CE.b (ce_var 0)) (CE.b ce_str))) (cs_asg (ce_op ob_add (CE.b (ce_var 1)) (CF.b (cf_lst (ca_cons (ce_tup (ca_cons ce_int (ca_cons ce_int ca_nil))) (ca_cons (ce_tup (ca_cons ce_int (ca_cons ce_int ca_nil))) ca_nil))))) (tg_name 1)) cs_next))))))))
    (cs_ret (ce_cb1 b_tuple (CF.b (cf_cb1 f_sort (CE.b (ce_var 1)))))))
def F__law_kinds : FS := (retS (tupG (consG (retG (.str "wire")) (consG (retG (.str "up")) (consG (retG (.str "down")) (consG (retG (.str "copy")) (consG (retG (.str "or")) (consG (retG (.str "xor")) (consG (retG (.str "but")) (retG []))))))))))
theorem sc__law_kinds : FnScope [] [] (defScope (top 53)) := ⟨rfl, rfl, rfl, by decide +kernel, rfl, by decide +kernel, by decide +kernel⟩
theorem ok__law_kinds {f : Addr} {fd : FuncData} (F : Fun K "_law_kinds" "_law_kinds" (top 53) f fd) (T : Bv mg) :
    FnG P w K mg base CX0 1 f fd [] (spN ⟨K, XC⟩ false 0 (defF false 0 F__law_kinds)) := by
  have sc := sc__law_kinds
  refine fn_n (G := ⟨K, XC⟩) F sc__law_kinds (by rfl) (fun cdv A outer s H E hr => ?_)
  refine ⟨_, (pss_one (ps_ret (pe_tup (pa_cons pe_str (pa_cons pe_str (pa_cons pe_str (pa_cons pe_str (pa_cons pe_str (pa_cons pe_str (pa_cons pe_str pa_nil)))))))))), fun pn => ?_⟩
  exact (cs_ret (ce_tup (ca_cons ce_str (ca_cons ce_str (ca_cons ce_str (ca_cons ce_str (ca_cons ce_str (ca_cons ce_str (ca_cons ce_str ca_nil)))))))))
def F__law_ins : FS := (retS (ifG (testG (op2 dEq (slotD 0) (retG (.str "up")))) (tupG (consG (retG (.int 1)) (retG []))) (ifG (testG (op2 dInU (slotD 0) (lstG (consG (retG (.str "or")) (consG (retG (.str "xor")) (consG (retG (.str "but")) (retG []))))))) (tupG (consG (retG (.int 0)) (consG (retG (.int 1)) (retG [])))) (tupG (consG (retG (.int 0)) (retG []))))))
theorem sc__law_ins : FnScope ["_law_kind"] ["_law_kind"] (defScope (top 54)) := ⟨rfl, rfl, rfl, by decide +kernel, rfl, by decide +kernel, by decide +kernel⟩
theorem ok__law_ins {f : Addr} {fd : FuncData} (F : Fun K "_law_ins" "_law_ins" (top 54) f fd) (T : Bv mg) :
    FnG P w K mg base CX0 1 f fd ["_law_kind"] (spN ⟨K, XC⟩ false 1 (defF false 1 F__law_ins)) := by
  have sc := sc__law_ins
  refine fn_n (G := ⟨K, XC⟩) F sc__law_ins (by rfl) (fun cdv A outer s H E hr => ?_)
  refine ⟨_, (pss_one (ps_ret (pe_ifExp (pt_cmpR (show OpR _ (compareOp .Eq) (rEqD K) from o_eq hr.r.units) (pv 0) pe_str (nomark _)) (pe_tup (pa_cons pe_int pa_nil)) (pe_ifExp (pt_cmpR (show OpR _ (compareOp .In) (uInU K) from o_inU (hu65 hr.r)) (pv 0) (pe_lst (pa_cons pe_str (pa_cons pe_str (pa_cons pe_str pa_nil)))) (by rfl)) (pe_tup (pa_cons pe_int (pa_cons pe_int pa_nil))) (pe_tup (pa_cons pe_int pa_nil)))))), fun pn => ?_⟩
  exact (cs_ret (ce_if (ct_test (ce_op ob_eq (CE.b (ce_var 0)) (CE.b ce_str))) (ce_tup (ca_cons ce_int ca_nil)) (ce_if (ct_test (ce_op ob_inU (CE.b (ce_var 0)) (CF.b (cf_lst (ca_cons ce_str (ca_cons ce_str (ca_cons ce_str ca_nil))))))) (ce_tup (ca_cons ce_int (ca_cons ce_int ca_nil))) (ce_tup (ca_cons ce_int ca_nil)))))
def F__law_outs : FS := (retS (ifG (testG (op2 dEq (slotD 0) (retG (.str "down")))) (tupG (consG (retG (.int 1)) (retG []))) (ifG (testG (op2 dEq (slotD 0) (retG (.str "copy")))) (tupG (consG (retG (.int 0)) (consG (retG (.int 1)) (retG [])))) (tupG (consG (retG (.int 0)) (retG []))))))
theorem sc__law_outs : FnScope ["_law_kind"] ["_law_kind"] (defScope (top 55)) := ⟨rfl, rfl, rfl, by decide +kernel, rfl, by decide +kernel, by decide +kernel⟩
theorem ok__law_outs {f : Addr} {fd : FuncData} (F : Fun K "_law_outs" "_law_outs" (top 55) f fd) (T : Bv mg) :
    FnG P w K mg base CX0 1 f fd ["_law_kind"] (spN ⟨K, XC⟩ false 1 (defF false 1 F__law_outs)) := by
  have sc := sc__law_outs
  refine fn_n (G := ⟨K, XC⟩) F sc__law_outs (by rfl) (fun cdv A outer s H E hr => ?_)
  refine ⟨_, (pss_one (ps_ret (pe_ifExp (pt_cmpR (show OpR _ (compareOp .Eq) (rEqD K) from o_eq hr.r.units) (pv 0) pe_str (nomark _)) (pe_tup (pa_cons pe_int pa_nil)) (pe_ifExp (pt_cmpR (show OpR _ (compareOp .Eq) (rEqD K) from o_eq hr.r.units) (pv 0) pe_str (nomark _)) (pe_tup (pa_cons pe_int (pa_cons pe_int pa_nil))) (pe_tup (pa_cons pe_int pa_nil)))))), fun pn => ?_⟩
  exact (cs_ret (ce_if (ct_test (ce_op ob_eq (CE.b (ce_var 0)) (CE.b ce_str))) (ce_tup (ca_cons ce_int ca_nil)) (ce_if (ct_test (ce_op ob_eq (CE.b (ce_var 0)) (CE.b ce_str))) (ce_tup (ca_cons ce_int (ca_cons ce_int ca_nil))) (ce_tup (ca_cons ce_int ca_nil)))))
def F__law_upper : FS := (retS (op2 dSub (op2 dIx (slotD 0) (retG (.int 1))) (op1 dInt (op2 dEq (op2 dIx (slotD 0) (retG (.int 0))) (retG (.str "up"))))))
theorem sc__law_upper : FnScope ["_law_tile"] ["_law_tile"] (defScope (top 56)) := ⟨rfl, rfl, rfl, by decide +kernel, rfl, by decide +kernel, by decide +kernel⟩
theorem ok__law_upper {f : Addr} {fd : FuncData} (F : Fun K "_law_upper" "_law_upper" (top 56) f fd) (T : Bv mg) :
    FnG P w K mg base CX0 1 f fd ["_law_tile"] (spN ⟨K, XC⟩ false 1 (defF false 1 F__law_upper)) := by
  have sc := sc__law_upper
  refine fn_n (G := ⟨K, XC⟩) F sc__law_upper (by rfl) (fun cdv A outer s H E hr => ?_)
  refine ⟨_, (pss_one (ps_ret (pe_op o_sub (pe_ix (show IxR _ (uIx K) from o_ix) (pv 0) pe_int (fun _ _ => rfl)) (pe_callTy c_int (by rfl) T.int (by decide +kernel) (pa_cons (pe_cmpR (show OpR _ (compareOp .Eq) (rEqD K) from o_eq hr.r.units) (pe_ix (show IxR _ (uIx K) from o_ix) (pv 0) pe_int (fun _ _ => rfl)) pe_str (nomark _)) pa_nil))))), fun pn => ?_⟩
  exact (cs_ret (ce_op ob_sub (CE.b (ce_op ob_ix (CE.b (ce_var 0)) (CE.b ce_int))) (CE.b (ce_cb1 b_int (CE.b (ce_op ob_eq (CE.b (ce_op ob_ix (CE.b (ce_var 0)) (CE.b ce_int))) (CE.b ce_str)))))))
def F__law_rows_of : FS := (seqS (asgS (callN 1 (defF false 1 F__law_upper) (consG (slotD 0) (retG []))) (nameT 1))
  (retS (ifG (testG (op2 dEq (op2 dIx (slotD 0) (retG (.int 0))) (retG (.str "wire")))) (tupG (consG (slotD 1) (retG []))) (tupG (consG (slotD 1) (consG (op2 dAdd (slotD 1) (retG (.int 1))) (retG [])))))))
theorem sc__law_rows_of : FnScope ["_law_tile", "_law_first"] ["_law_tile"] (defScope (top 57)) := ⟨rfl, rfl, rfl, by decide +kernel, rfl, by decide +kernel, by decide +kernel⟩
theorem ok__law_rows_of {f a__law_upper : Addr} {fd e__law_upper : FuncData} (F : Fun K "_law_rows_of" "_law_rows_of" (top 57) f fd) (T : Bv mg) (H__law_upper : Fw.Fn K mg P w base CX0 "_law_upper" 1 a__law_upper e__law_upper ["_law_tile"] (spN ⟨K, XC⟩ false 1 (defF false 1 F__law_upper))) :
    FnG P w K mg base CX0 2 f fd ["_law_tile"] (spN ⟨K, XC⟩ false 1 (defF false 2 F__law_rows_of)) := by
  have sc := sc__law_rows_of
  refine fn_n (G := ⟨K, XC⟩) F sc__law_rows_of (by rfl) (fun cdv A outer s H E hr => ?_)
  refine ⟨_, (pss_cons (ps_set (i := 1) sc.nd rfl (.inl rfl) (Fw.pe_call H__law_upper.G (hr.mono (by decide)) (by rfl) H__law_upper.g H__law_upper.k H__law_upper.b .nil pass0 (pa_cons (pv 0) pa_nil)))
      (pss_one (ps_ret (pe_ifExp (pt_cmpR (show OpR _ (compareOp .Eq) (rEqD K) from o_eq hr.r.units) (pe_ix (show IxR _ (uIx K) from o_ix) (pv 0) pe_int (fun _ _ => rfl)) pe_str (nomark _)) (pe_tup (pa_cons (pv 1) pa_nil)) (pe_tup (pa_cons (pv 1) (pa_cons (pe_op (show OpR _ (binaryOp .Add) (uAdd K) from o_add) (pv 1) pe_int) pa_nil))))))), fun pn => ?_⟩
  exact (cs_seq (cs_asg (ce_callN (ca_cons (ce_var 0) ca_nil)) (tg_name 1))
    (cs_ret (ce_if (ct_test (ce_op ob_eq (CE.b (ce_op ob_ix (CE.b (ce_var 0)) (CE.b ce_int))) (CE.b ce_str))) (ce_tup (ca_cons (ce_var 1) ca_nil)) (ce_tup (ca_cons (ce_var 1) (ca_cons (ce_op ob_add (CE.b (ce_var 1)) (CE.b ce_int)) ca_nil))))))
def F__law_cells_at : FS := (seqS (asgS (op2 dMulU (retG (.int 8)) (callN 1 (defF false 1 F__law_upper) (consG (slotD 0) (retG [])))) (nameT 2))
  (retS (op1 dTup (lcG [3, 4] (seqI (callN 1 (defF false 2 F__law_shape) (consG (op2 dIx (slotD 0) (retG (.int 0))) (retG [])))) (tupT 2 (consT (nameT 3) (consT (nameT 4) nilT))) (retG true) (tupG (consG (op2 dAdd (slotD 3) (slotD 1)) (consG (op2 dAdd (slotD 4) (slotD 2)) (retG []))))))))
theorem sc__law_cells_at : FnScope ["_law_tile", "_law_x", "_law_first", "_law_dx", "_law_dy"] ["_law_tile", "_law_x"] (defScope (top 58)) := ⟨rfl, rfl, rfl, by decide +kernel, rfl, by decide +kernel, by decide +kernel⟩
theorem ok__law_cells_at {f a__law_upper a__law_shape : Addr} {fd e__law_upper e__law_shape : FuncData} (F : Fun K "_law_cells_at" "_law_cells_at" (top 58) f fd) (T : Bv mg) (H__law_upper : Fw.Fn K mg P w base CX0 "_law_upper" 1 a__law_upper e__law_upper ["_law_tile"] (spN ⟨K, XC⟩ false 1 (defF false 1 F__law_upper))) (H__law_shape : Fw.Fn K mg P w base CX0 "_law_shape" 2 a__law_shape e__law_shape ["_law_kind"] (spN ⟨K, XC⟩ false 1 (defF false 2 F__law_shape))) :
    FnG P w K mg base CX0 3 f fd ["_law_tile", "_law_x"] (spN ⟨K, XC⟩ false 2 (defF false 5 F__law_cells_at)) := by
  have sc := sc__law_cells_at
  refine fn_n (G := ⟨K, XC⟩) F sc__law_cells_at (by rfl) (fun cdv A outer s H E hr => ?_)
  refine ⟨_, (pss_cons (ps_set (i := 2) sc.nd rfl (.inr rfl) (pe_op (show OpR _ (binaryOp .Mult) (uMulU K) from o_mulU) pe_int (Fw.pe_call H__law_upper.G (hr.mono (by decide)) (by rfl) H__law_upper.g H__law_upper.k H__law_upper.b .nil pass0 (pa_cons (pv 0) pa_nil))))
      (pss_one (ps_ret (pe_callTy (show CallR _ _ (uTup K) from c_tuple) (by rfl) T.tuple (by decide +kernel) (pa_cons (pe_lc (own := [("_law_dx", 3), ("_law_dy", 4)]) (tt := tYes) rfl sc.nd (show PI _ _ _ (iSeq K _) from pi_seq (Fw.pe_call H__law_shape.G (hr.mono (by decide)) (by rfl) H__law_shape.g H__law_shape.k H__law_shape.b .nil pass0 (pa_cons (pe_ix (show IxR _ (uIx K) from o_ix) (pv 0) pe_int (fun _ _ => rfl)) pa_nil))) (blkOk_by (N := ["_law_tile", "_law_x", "_law_first", "_law_dx", "_law_dy"]) (sc := defScope (top 58)) (by decide +kernel)) (fun _ _ _ _ _ => (show PG _ _ (gTup K 2 _) from pg_tup (by rfl) (pgs_cons (pg_name (i := 3) sc.nd rfl (.inl rfl)) (pgs_cons (pg_name (i := 4) sc.nd rfl (.inl rfl)) pgs_nil)))) (fun _ _ _ _ _ => pts_nil) (fun _ _ _ _ _ => (pe_tup (pa_cons (pe_op (show OpR _ (binaryOp .Add) (uAdd K) from o_add) (pv 3) (pv 1)) (pa_cons (pe_op (show OpR _ (binaryOp .Add) (uAdd K) from o_add) (pv 4) (pv 2)) pa_nil))))) pa_nil))))), fun pn => ?_⟩
  exact (cs_seq (cs_asg (ce_op ob_mulU (CE.b ce_int) (CE.b (ce_callN (ca_cons (ce_var 0) ca_nil)))) (tg_name 2))
    (cs_ret (ce_cb1 b_tuple (CF.b (cf_lc (ci_seq (ce_callN (ca_cons (ce_op ob_ix (CE.b (ce_var 0)) (CE.b ce_int)) ca_nil))) (tw_tup (tw_cons (tw_name 3 (by decide)) (tw_cons (tw_name 4 (by decide)) tw_nil))) (fw_tup (fw_cons (fw_name 3 (by decide)) (fw_cons (fw_name 4 (by decide)) fw_nil))) ct_yes (ce_tup (ca_cons (ce_op ob_add (CE.b (ce_var 3)) (CE.b (ce_var 1))) (ca_cons (ce_op ob_add (CE.b (ce_var 4)) (CE.b (ce_var 2))) ca_nil))))))))
def F__law_near : FS := (seqS (asgO (lstG (retG [])) 2)
  (seqS (forS (seqI (lstG (consG (op1 dNeg (retG (.int 1))) (consG (retG (.int 0)) (consG (retG (.int 1)) (retG [])))))) (nameT 3) (forS (seqI (lstG (consG (op1 dNeg (retG (.int 1))) (consG (retG (.int 0)) (consG (retG (.int 1)) (retG [])))))) (nameT 4) (ifS (andG (testG (op2 dNe (tupG (consG (slotD 3) (consG (slotD 4) (retG [])))) (tupG (consG (retG (.int 0)) (consG (retG (.int 0)) (retG [])))))) (testG (op2 dInU (tupG (consG (op2 dAdd (op2 dIx (slotD 1) (retG (.int 0))) (slotD 3)) (consG (op2 dAdd (op2 dIx (slotD 1) (retG (.int 1))) (slotD 4)) (retG [])))) (slotD 0)))) (appS 2 (tupG (consG (op2 dAdd (op2 dIx (slotD 1) (retG (.int 0))) (slotD 3)) (consG (op2 dAdd (op2 dIx (slotD 1) (retG (.int 1))) (slotD 4)) (retG []))))) nextS)))
  (relS 2 (retS (slotD 2)))))
theorem sc__law_near : FnScope ["_law_known_here", "_law_cell", "_law_found", "_law_dx", "_law_dy"] ["_law_known_here", "_law_cell"] (defScope (top 59)) := ⟨rfl, rfl, rfl, by decide +kernel, rfl, by decide +kernel, by decide +kernel⟩
theorem ok__law_near {f : Addr} {fd : FuncData} (F : Fun K "_law_near" "_law_near" (top 59) f fd) (T : Bv mg) :
    FnG P w K mg base CX0 1 f fd ["_law_known_here", "_law_cell"] (spN ⟨K, XC⟩ false 2 (defF false 5 F__law_near)) := by
  have sc := sc__law_near
  refine fn_n (G := ⟨K, XC⟩) F sc__law_near (by rfl) (fun cdv A outer s H E hr => ?_)
  refine ⟨_, (pss_cons (ps_set (i := 2) sc.nd rfl (.inl rfl) (pe_lst pa_nil))
      (pss_cons (ps_for PassesOwn.never rfl (show PI _ _ _ (iSeq K _) from pi_seq (pe_lst (pa_cons (pe_un o_neg pe_int) (pa_cons pe_int (pa_cons pe_int pa_nil))))) (pg_name (i := 3) sc.nd rfl (.inl rfl)) (pss_one (ps_for PassesOwn.never rfl (show PI _ _ _ (iSeq K _) from pi_seq (pe_lst (pa_cons (pe_un o_neg pe_int) (pa_cons pe_int (pa_cons pe_int pa_nil))))) (pg_name (i := 4) sc.nd rfl (.inl rfl)) (pss_one (ps_if (PW.pt (pw_and (pt_cmpR (show OpR _ (compareOp .NotEq) (rNeD K) from o_ne hr.r.units) (pe_tup (pa_cons (pv 3) (pa_cons (pv 4) pa_nil))) (pe_tup (pa_cons pe_int (pa_cons pe_int pa_nil))) (nomark _)) (pw_and1 (pt_cmpR (show OpR _ (compareOp .In) (uInU K) from o_inU (hu65 hr.r)) (pe_tup (pa_cons (pe_op (show OpR _ (binaryOp .Add) (uAdd K) from o_add) (pe_ix (show IxR _ (uIx K) from o_ix) (pv 1) pe_int (fun _ _ => rfl)) (pv 3)) (pa_cons (pe_op (show OpR _ (binaryOp .Add) (uAdd K) from o_add) (pe_ix (show IxR _ (uIx K) from o_ix) (pv 1) pe_int (fun _ _ => rfl)) (pv 4)) pa_nil))) (pv 0) (by rfl))))) (pss_one (ps_expr (pe_bm PySem.F.plainAttrs_list PySem.F.slot_list_append PySem.F.type_list_append mt_append (pv 2) (pa_cons (pe_tup (pa_cons (pe_op (show OpR _ (binaryOp .Add) (uAdd K) from o_add) (pe_ix (show IxR _ (uIx K) from o_ix) (pv 1) pe_int (fun _ _ => rfl)) (pv 3)) (pa_cons (pe_op (show OpR _ (binaryOp .Add) (uAdd K) from o_add) (pe_ix (show IxR _ (uIx K) from o_ix) (pv 1) pe_int (fun _ _ => rfl)) (pv 4)) pa_nil))) pa_nil)))) pss_nil)))))
      (pss_one (ps_ret (pv 2))))), fun pn => ?_⟩
  exact (cs_seq (cs_asgO (cf_lst ca_nil))
    (cs_seq (cs_for (ci_seq (CF.ce (cf_lst (ca_cons (ce_un ub_neg (CE.b ce_int)) (ca_cons ce_int (ca_cons ce_int ca_nil)))))) (tg_name 3) (cs_for (ci_seq (CF.ce (cf_lst (ca_cons (ce_un ub_neg (CE.b ce_int)) (ca_cons ce_int (ca_cons ce_int ca_nil)))))) (tg_name 4) (cs_if (ct_and (ct_test (ce_op ob_ne (CE.b (ce_tup (ca_cons (ce_var 3) (ca_cons (ce_var 4) ca_nil)))) (CE.b (ce_tup (ca_cons ce_int (ca_cons ce_int ca_nil)))))) (ct_test (ce_op ob_inU (CE.b (ce_tup (ca_cons (ce_op ob_add (CE.b (ce_op ob_ix (CE.b (ce_var 1)) (CE.b ce_int))) (CE.b (ce_var 3))) (ca_cons (ce_op ob_add (CE.b (ce_op ob_ix (CE.b (ce_var 1)) (CE.b ce_int))) (CE.b (ce_var 4))) ca_nil)))) (CE.b (ce_var 0))))) (cs_app (ce_tup (ca_cons (ce_op ob_add (CE.b (ce_op ob_ix (CE.b (ce_var 1)) (CE.b ce_int))) (CE.b (ce_var 3))) (ca_cons (ce_op ob_add (CE.b (ce_op ob_ix (CE.b (ce_var 1)) (CE.b ce_int))) (CE.b (ce_var 4))) ca_nil)))) cs_next)))
    (cs_rel 2 (cs_ret (ce_var 2)))))
def F__law_fault (g : Option (Rs D)) : FS := (seqS (asgS (tupG (consG (retG (.str "none")) (retG []))) (nameT 1))
  (seqS (tryS 3 2 ["BadNumber", "BadRow", "BadName"] (dropS (actG g)) (("BadRow", fun ns ds => asgS (tupG (consG (retG (.str "row")) (consG (exF "row" ns ds) (retG [])))) (nameT 1)) :: (("BadNumber", fun ns ds => asgS (tupG (consG (retG (.str "number")) (consG (exF "what" ns ds) (consG (exF "number" ns ds) (retG []))))) (nameT 1)) :: (("BadName", fun ns ds => asgS (tupG (consG (retG (.str "name")) (consG (exF "name" ns ds) (retG [])))) (nameT 1)) :: []))))
  (retS (slotD 1))))
theorem sc__law_fault : FnScope ["_law_call", "_law_told", "error"] ["_law_call"] (defScope (top 60)) := ⟨rfl, rfl, rfl, by decide +kernel, rfl, by decide +kernel, by decide +kernel⟩
theorem gives__law_fault {X : Cx} {q0 : Str} {g0 : Addr} {cd0 : Value} {C_BadRow C_BadNumber C_BadName : Addr} (T : Bv X.mg) (hg : X.A.guards = some []) (hu : X.A.units + 80 < cLine) (M : Exm ⟨X.K, XC⟩ ["BadNumber", "BadRow", "BadName"]) (V_BadRow : XC "BadRow" = some C_BadRow) (m_BadRow : X.mg "BadRow" = some (.ref C_BadRow)) (X_BadRow : XfC X.K C_BadRow) (n_BadRow_row : PySem.W.findIn X.K (.ref C_BadRow) "row" = some none) (V_BadNumber : XC "BadNumber" = some C_BadNumber) (m_BadNumber : X.mg "BadNumber" = some (.ref C_BadNumber)) (X_BadNumber : XfC X.K C_BadNumber) (n_BadNumber_what : PySem.W.findIn X.K (.ref C_BadNumber) "what" = some none) (n_BadNumber_number : PySem.W.findIn X.K (.ref C_BadNumber) "number" = some none) (V_BadName : XC "BadName" = some C_BadName) (m_BadName : X.mg "BadName" = some (.ref C_BadName)) (X_BadName : XfC X.K C_BadName) (n_BadName_name : PySem.W.findIn X.K (.ref C_BadName) "name" = some none) :
    LamX.GivesTo X ["_law_call", "_law_told", "error"] "_law_fault" (defScope (top 60)) g0 cd0 (defBody (top 60)) "_law_call" q0 (TTw ⟨X.K, XC⟩ 3 F__law_fault) := by
  have sc := sc__law_fault
  refine why_gives (by rfl) (by decide) fun f0 c0 s0 H0 tl act => ?_
  refine ⟨_, (pss_cons (ps_set (i := 1) sc.nd rfl (.inl rfl) (pe_tup (pa_cons pe_str pa_nil)))
      (pss_cons (ps_tryL (i := 2) (m := 3) (tbE := fun E1 => tDrop (tAct f0 c0 q0 (tl E1))) rfl rfl sc.nd rfl rfl L2.takes0 rfl (fun E1 W pn xe tk hW p => pss_one (ps_expr (act W pn xe E1 _ _ tk hW))) (Clauses.cons ⟨by rfl, by decide, .inl m_BadRow⟩ (fun a oe cls d pn hz hf => (pss_one (ps_set (i := 1) sc.nd rfl (.inl rfl) (pe_tup (pa_cons pe_str (pa_cons (pe_xf X_BadRow n_BadRow_row hz hf (pv 2)) pa_nil)))))) (Clauses.cons ⟨by rfl, by decide, .inl m_BadNumber⟩ (fun a oe cls d pn hz hf => (pss_one (ps_set (i := 1) sc.nd rfl (.inl rfl) (pe_tup (pa_cons pe_str (pa_cons (pe_xf X_BadNumber n_BadNumber_what hz hf (pv 2)) (pa_cons (pe_xf X_BadNumber n_BadNumber_number hz hf (pv 2)) pa_nil))))))) (Clauses.cons ⟨by rfl, by decide, .inl m_BadName⟩ (fun a oe cls d pn hz hf => (pss_one (ps_set (i := 1) sc.nd rfl (.inl rfl) (pe_tup (pa_cons pe_str (pa_cons (pe_xf X_BadName n_BadName_name hz hf (pv 2)) pa_nil)))))) Clauses.nil))))
      (pss_one (ps_ret (pv 1))))), fun qi g hF hZ hT => ?_⟩
  subst hF
  exact (cs_seq (cs_asg (ce_tup (ca_cons ce_str ca_nil)) (tg_name 1))
    (cs_seq (cs_try (n := 3) M (by decide) (fun E1 => cs_drop (ce_act hZ hT)) (Cls_.cons V_BadRow (by decide) (cl_asg (j := 1) fun ns ds => (cx_tup (cxa_cons (cx_of ce_str) (cxa_cons cx_fld cxa_nil)))) (Cls_.cons V_BadNumber (by decide) (cl_asg (j := 1) fun ns ds => (cx_tup (cxa_cons (cx_of ce_str) (cxa_cons cx_fld (cxa_cons cx_fld cxa_nil))))) (Cls_.cons V_BadName (by decide) (cl_asg (j := 1) fun ns ds => (cx_tup (cxa_cons (cx_of ce_str) (cxa_cons cx_fld cxa_nil)))) Cls_.nil))))
    (cs_ret (ce_var 1))))
def F__law_touches : FS := (seqS (parDO 2 3 (callN 1 (defF false 3 F__law_known) (consG (slotD 1) (retG []))) (lstG (retG [])))
  (seqS (forS (seqI (slotD 0)) (nameT 4) (seqS (asgO (op2 dCat (slotB 3) (lcG [5] (seqI (callN 2 (defF false 5 F__law_near) (consG (slotD 2) (consG (slotD 4) (retG []))))) (nameT 5) (retG true) (tupG (consG (slotD 4) (consG (slotD 5) (retG [])))))) 3)
  (ifS (testG (op2 dInU (slotD 4) (slotD 2))) (appS 3 (tupG (consG (slotD 4) (consG (slotD 4) (retG []))))) nextS)))
  (relS 3 (retS (slotD 3)))))
theorem sc__law_touches : FnScope ["_law_one", "_law_other", "_law_known_here", "_law_found", "_law_cell", "_law_near_here"] ["_law_one", "_law_other"] (defScope (top 61)) := ⟨rfl, rfl, rfl, by decide +kernel, rfl, by decide +kernel, by decide +kernel⟩
theorem ok__law_touches {f a__law_known a__law_near : Addr} {fd e__law_known e__law_near : FuncData} (F : Fun K "_law_touches" "_law_touches" (top 61) f fd) (T : Bv mg) (H__law_known : Fw.Fn K mg P w base CX0 "_law_known" 1 a__law_known e__law_known ["_law_cells"] (spN ⟨K, XC⟩ false 1 (defF false 3 F__law_known))) (H__law_near : Fw.Fn K mg P w base CX0 "_law_near" 1 a__law_near e__law_near ["_law_known_here", "_law_cell"] (spN ⟨K, XC⟩ false 2 (defF false 5 F__law_near))) :
    FnG P w K mg base CX0 2 f fd ["_law_one", "_law_other"] (spN ⟨K, XC⟩ false 2 (defF false 6 F__law_touches)) := by
  have sc := sc__law_touches
  refine fn_n (G := ⟨K, XC⟩) F sc__law_touches (by rfl) (fun cdv A outer s H E hr => ?_)
  refine ⟨_, (pss_cons (ps_par (i := 2) (j := 3) (by rfl) sc.nd rfl rfl (by decide) rfl rfl (pa_cons (Fw.pe_call H__law_known.G (hr.mono (by decide)) (by rfl) H__law_known.g H__law_known.k H__law_known.b .nil pass0 (pa_cons (pv 1) pa_nil)) (pa_cons (pe_lst pa_nil) pa_nil)) (by rfl))
      (pss_cons (ps_for PassesOwn.never rfl (show PI _ _ _ (iSeq K _) from pi_seq (pv 0)) (pg_name (i := 4) sc.nd rfl (.inr rfl)) (pss_cons (ps_set (i := 3) sc.nd rfl (.inl rfl) (pe_op (show OpR _ (binaryOp .Add) (uAdd K) from o_add) (pv 3) (pe_lc (own := [("_law_near_here", 5)]) (g := gName 5) (tt := tYes) rfl sc.nd (show PI _ _ _ (iSeq K _) from pi_seq (Fw.pe_call H__law_near.G (hr.mono (by decide)) (by rfl) H__law_near.g H__law_near.k H__law_near.b .nil pass0 (pa_cons (pv 2) (pa_cons (pv 4) pa_nil)))) (blkOk_by (N := ["_law_one", "_law_other", "_law_known_here", "_law_found", "_law_cell", "_law_near_here"]) (sc := defScope (top 61)) (by decide +kernel)) (fun _ _ _ _ _ => (pg_name (i := 5) sc.nd rfl (.inl rfl))) (fun _ _ _ _ _ => pts_nil) (fun _ _ _ _ _ => (pe_tup (pa_cons (pv 4) (pa_cons (pv 5) pa_nil)))))))
      (pss_one (ps_if (pt_cmpR (show OpR _ (compareOp .In) (uInU K) from o_inU (hu65 hr.r)) (pv 4) (pv 2) (by rfl)) (pss_one (ps_expr (pe_bm PySem.F.plainAttrs_list PySem.F.slot_list_append PySem.F.type_list_append mt_append (pv 3) (pa_cons (pe_tup (pa_cons (pv 4) (pa_cons (pv 4) pa_nil))) pa_nil)))) pss_nil))))
      (pss_one (ps_ret (pv 3))))), fun pn => ?_⟩
  exact (cs_seq (cs_parDO (ce_callN (ca_cons (ce_var 1) ca_nil)) (cf_lst ca_nil))
    (cs_seq (cs_for (ci_seq (ce_var 0)) (tg_name 4) (cs_seq (cs_asgO (cf_op of_cat (cb_var 3) (CF.b (cf_lc (ci_seq (ce_callN (ca_cons (ce_var 2) (ca_cons (ce_var 4) ca_nil)))) (tw_name 5 (by decide)) (fw_name 5 (by decide)) ct_yes (ce_tup (ca_cons (ce_var 4) (ca_cons (ce_var 5) ca_nil)))))))
    (cs_if (ct_test (ce_op ob_inU (CE.b (ce_var 4)) (CE.b (ce_var 2)))) (cs_app (ce_tup (ca_cons (ce_var 4) (ca_cons (ce_var 4) ca_nil)))) cs_next)))
    (cs_rel 3 (cs_ret (ce_var 3)))))
def F__law_pair_right : FS := (seqS (parS 1 2 (consG (callP 1 0 (defF true 2 F__law_pick) (consG (op1 dLst (callN 0 (defF false 0 F__law_kinds) (retG []))) (retG []))) (consG (callP 1 0 (defF true 2 F__law_pick) (consG (op1 dLst (callN 0 (defF false 0 F__law_kinds) (retG []))) (retG []))) (retG []))))
  (seqS (asgS (tupG (consG (slotD 1) (consG (op2 dAdd (retG (.int 3)) (callP 1 0 drawF (consG (retG (.int 3)) (retG [])))) (retG [])))) (nameT 3))
  (seqS (asgS (tupG (consG (slotD 2) (consG (op2 dAdd (callP 1 0 drawF (consG (retG (.int 10)) (retG []))) (op1 dInt (op2 dEq (slotD 2) (retG (.str "up"))))) (retG [])))) (nameT 4))
  (seqS (ifS (testG (op2 dEq (lcG [8] (seqI (callN 1 (defF false 2 F_rows_of) (consG (slotD 3) (retG [])))) (nameT 8) (testG (op2 dInU (slotD 8) (callN 1 (defF false 2 F_rows_of) (consG (slotD 4) (retG []))))) (retG (.int 1))) (lstG (retG [])))) (ifS (testG (op2 dNe (callN 2 (defF false 6 F__law_touches) (consG (callX 2 (defF false 5 F_cells_at) (consG (slotD 3) (consG (retG (.int 40)) (retG [])))) (consG (callX 2 (defF false 5 F_cells_at) (consG (slotD 4) (consG (retG (.int 40)) (retG [])))) (retG [])))) (lstG (retG [])))) (retS (retG (.bool false))) nextS) nextS)
  (seqS (asgS (lcG [8] (seqI (callX 1 (defF false 1 F_outs_of) (consG (slotD 1) (retG [])))) (nameT 8) (retG true) (op2 dMulU (retG (.int 8)) (op2 dAdd (callN 1 (defF false 3 F_upper) (consG (slotD 3) (retG []))) (slotD 8)))) (nameT 5))
  (seqS (asgS (lcG [8] (seqI (callX 1 (defF false 1 F_ins_of) (consG (slotD 2) (retG [])))) (nameT 8) (retG true) (op2 dMulU (retG (.int 8)) (op2 dAdd (callN 1 (defF false 3 F_upper) (consG (slotD 4) (retG []))) (slotD 8)))) (nameT 6))
  (seqS (asgS (lcG [9] (seqI (slotD 5)) (nameT 9) (testG (op2 dInU (slotD 9) (slotD 6))) (tupG (consG (tupG (consG (retG (.int 59)) (consG (slotD 9) (retG [])))) (consG (tupG (consG (retG (.int 60)) (consG (slotD 9) (retG [])))) (retG []))))) (nameT 7))
  (seqS (ifS (testG (op2 dNe (op1 dSort (callN 2 (defF false 6 F__law_touches) (consG (callX 2 (defF false 5 F_cells_at) (consG (slotD 3) (consG (retG (.int 40)) (retG [])))) (consG (callX 2 (defF false 5 F_cells_at) (consG (slotD 4) (consG (retG (.int 60)) (retG [])))) (retG []))))) (op1 dSort (slotD 7)))) (retS (retG (.bool false))) nextS)
  (retS (op2 dEq (callN 2 (defF false 6 F__law_touches) (consG (callX 2 (defF false 5 F_cells_at) (consG (slotD 3) (consG (retG (.int 40)) (retG [])))) (consG (callX 2 (defF false 5 F_cells_at) (consG (slotD 4) (consG (retG (.int 80)) (retG [])))) (retG [])))) (lstG (retG []))))))))))))
theorem sc__law_pair_right : FnScope ["_law_pen_here", "_law_one", "_law_two", "_law_first", "_law_second", "_law_outs_here", "_law_ins_here", "_law_due", "_law_row", "_law_y"] ["_law_pen_here"] (defScope (top 62)) := ⟨rfl, rfl, rfl, by decide +kernel, rfl, by decide +kernel, by decide +kernel⟩
theorem ok__law_pair_right {f a__law_pick a__law_kinds a__law_draw a_rows_of a__law_touches a_cells_at a_upper a_outs_of a_ins_of : Addr} {fd e__law_pick e__law_kinds e__law_draw e_rows_of e__law_touches e_cells_at e_upper e_outs_of e_ins_of : FuncData} (F : Fun K "_law_pair_right" "_law_pair_right" (top 62) f fd) (T : Bv mg) (H__law_pick : Fw.Fn K mg P w base CX0 "_law_pick" 2 a__law_pick e__law_pick ["_law_pen_here", "_law_some"] (spN ⟨K, XC⟩ true 1 (defF true 2 F__law_pick))) (H__law_kinds : Fw.Fn K mg P w base CX0 "_law_kinds" 1 a__law_kinds e__law_kinds [] (spN ⟨K, XC⟩ false 0 (defF false 0 F__law_kinds))) (H__law_draw : Fw.Fn K mg P w base CX0 "_law_draw" 1 a__law_draw e__law_draw ["_law_pen_here", "_law_many"] (spN ⟨K, XC⟩ true 1 drawF)) (H_rows_of : Fw.Fn K mg P w base CX0 "rows_of" 2 a_rows_of e_rows_of ["tile"] (spN ⟨K, XC⟩ false 1 (defF false 2 F_rows_of))) (H__law_touches : Fw.Fn K mg P w base CX0 "_law_touches" 2 a__law_touches e__law_touches ["_law_one", "_law_other"] (spN ⟨K, XC⟩ false 2 (defF false 6 F__law_touches))) (H_cells_at : Fw.Fn K mg P w base (L2.CX P w) "cells_at" 5 a_cells_at e_cells_at ["tile", "x"] (spX ⟨K, XC⟩ false 2 (defF false 5 F_cells_at))) (H_upper : Fw.Fn K mg P w base CX0 "upper" 1 a_upper e_upper ["tile"] (spN ⟨K, XC⟩ false 1 (defF false 3 F_upper))) (H_outs_of : Fw.Fn K mg P w base (L2.CX P w) "outs_of" 4 a_outs_of e_outs_of ["kind"] (spX ⟨K, XC⟩ false 1 (defF false 1 F_outs_of))) (H_ins_of : Fw.Fn K mg P w base (L2.CX P w) "ins_of" 4 a_ins_of e_ins_of ["kind"] (spX ⟨K, XC⟩ false 1 (defF false 1 F_ins_of))) :
    FnG P w K mg base CX0 6 f fd ["_law_pen_here"] (spN ⟨K, XC⟩ true 0 (defF true 10 F__law_pair_right)) := by
  have sc := sc__law_pair_right
  refine fn_n (G := ⟨K, XC⟩) F sc__law_pair_right (by rfl) (fun cdv A outer s H E hr => ?_)
  refine ⟨_, (pss_cons (ps_par (i := 1) (j := 2) (by rfl) sc.nd rfl rfl (by decide) rfl rfl (pa_cons (Fw.pe_call H__law_pick.G (hr.mono (by decide)) (by rfl) H__law_pick.g H__law_pick.k H__law_pick.b .nil pass0 (pa_cons (pv 0) (pa_cons (pe_callTy (show CallR _ _ (uLst K) from c_list) (by rfl) T.list (by decide +kernel) (pa_cons (Fw.pe_call0 H__law_kinds.G (hr.mono (by decide)) (by rfl) H__law_kinds.g H__law_kinds.k H__law_kinds.b .nil pass0) pa_nil)) pa_nil))) (pa_cons (Fw.pe_call H__law_pick.G (hr.mono (by decide)) (by rfl) H__law_pick.g H__law_pick.k H__law_pick.b .nil pass0 (pa_cons (pv 0) (pa_cons (pe_callTy (show CallR _ _ (uLst K) from c_list) (by rfl) T.list (by decide +kernel) (pa_cons (Fw.pe_call0 H__law_kinds.G (hr.mono (by decide)) (by rfl) H__law_kinds.g H__law_kinds.k H__law_kinds.b .nil pass0) pa_nil)) pa_nil))) pa_nil)) (by rfl))
      (pss_cons (ps_set (i := 3) sc.nd rfl (.inr rfl) (pe_tup (pa_cons (pv 1) (pa_cons (pe_op (show OpR _ (binaryOp .Add) (uAdd K) from o_add) pe_int (Fw.pe_call H__law_draw.G (hr.mono (by decide)) (by rfl) H__law_draw.g H__law_draw.k H__law_draw.b .nil pass0 (pa_cons (pv 0) (pa_cons pe_int pa_nil)))) pa_nil))))
      (pss_cons (ps_set (i := 4) sc.nd rfl (.inr rfl) (pe_tup (pa_cons (pv 2) (pa_cons (pe_op (show OpR _ (binaryOp .Add) (uAdd K) from o_add) (Fw.pe_call H__law_draw.G (hr.mono (by decide)) (by rfl) H__law_draw.g H__law_draw.k H__law_draw.b .nil pass0 (pa_cons (pv 0) (pa_cons pe_int pa_nil))) (pe_callTy c_int (by rfl) T.int (by decide +kernel) (pa_cons (pe_cmpR (show OpR _ (compareOp .Eq) (rEqD K) from o_eq hr.r.units) (pv 2) pe_str (nomark _)) pa_nil))) pa_nil))))
      (pss_cons (ps_if (pt_cmpR (show OpR _ (compareOp .Eq) (rEqD K) from o_eq hr.r.units) (pe_lc (own := [("_law_row", 8)]) (g := gName 8) rfl sc.nd (show PI _ _ _ (iSeq K _) from pi_seq (Fw.pe_call H_rows_of.G (hr.mono (by decide)) (by rfl) H_rows_of.g H_rows_of.k H_rows_of.b .nil pass0 (pa_cons (pv 3) pa_nil))) (blkOk_by (N := ["_law_pen_here", "_law_one", "_law_two", "_law_first", "_law_second", "_law_outs_here", "_law_ins_here", "_law_due", "_law_row", "_law_y"]) (sc := defScope (top 62)) (by decide +kernel)) (fun _ _ _ _ _ => (pg_name (i := 8) sc.nd rfl (.inl rfl))) (fun _ _ _ _ _ => (pts_one (pt_cmpR (show OpR _ (compareOp .In) (uInU K) from o_inU (hu65 hr.r)) (pv 8) (Fw.pe_call H_rows_of.G (hr.mono (by decide)) (by rfl) H_rows_of.g H_rows_of.k H_rows_of.b .nil pass0 (pa_cons (pv 4) pa_nil)) (by rfl)))) (fun _ _ _ _ _ => pe_int)) (pe_lst pa_nil) (nomark _)) (pss_one (ps_if (pt_cmpR (show OpR _ (compareOp .NotEq) (rNeD K) from o_ne hr.r.units) (Fw.pe_call H__law_touches.G (hr.mono (by decide)) (by rfl) H__law_touches.g H__law_touches.k H__law_touches.b .nil pass0 (pa_cons (Fw.pe_call H_cells_at.G (hr.mono (by decide)) (by rfl) H_cells_at.g H_cells_at.k H_cells_at.b .nil pass_false (pa_cons (pv 3) (pa_cons pe_int pa_nil))) (pa_cons (Fw.pe_call H_cells_at.G (hr.mono (by decide)) (by rfl) H_cells_at.g H_cells_at.k H_cells_at.b .nil pass_false (pa_cons (pv 4) (pa_cons pe_int pa_nil))) pa_nil))) (pe_lst pa_nil) (nomark _)) (pss_one (ps_ret pe_bl)) pss_nil)) pss_nil)
      (pss_cons (ps_setLc (i := 5) (own := [("_law_row", 8)]) (g := gName 8) (tt := tYes) rfl sc.nd rfl rfl (sw_true rfl rfl rfl (by decide +kernel)) (show PI _ _ _ (iSeq K _) from pi_seq (Fw.pe_call H_outs_of.G (hr.mono (by decide)) (by rfl) H_outs_of.g H_outs_of.k H_outs_of.b .nil pass_false (pa_cons (pv 1) pa_nil))) (blkOk_by (N := ["_law_pen_here", "_law_one", "_law_two", "_law_first", "_law_second", "_law_outs_here", "_law_ins_here", "_law_due", "_law_row", "_law_y"]) (sc := defScope (top 62)) (by decide +kernel)) (fun _ _ _ _ _ => (pg_name (i := 8) sc.nd rfl (.inl rfl))) (fun _ _ _ _ _ => pts_nil) (fun _ _ _ _ _ => (pe_op (show OpR _ (binaryOp .Mult) (uMulU K) from o_mulU) pe_int (pe_op (show OpR _ (binaryOp .Add) (uAdd K) from o_add) (Fw.pe_call H_upper.G (hr.mono (by decide)) (by rfl) H_upper.g H_upper.k H_upper.b .nil pass0 (pa_cons (pv 3) pa_nil)) (pv 8)))))
      (pss_cons (ps_set (i := 6) sc.nd rfl (.inr rfl) (pe_lc (own := [("_law_row", 8)]) (g := gName 8) (tt := tYes) rfl sc.nd (show PI _ _ _ (iSeq K _) from pi_seq (Fw.pe_call H_ins_of.G (hr.mono (by decide)) (by rfl) H_ins_of.g H_ins_of.k H_ins_of.b .nil pass_false (pa_cons (pv 2) pa_nil))) (blkOk_by (N := ["_law_pen_here", "_law_one", "_law_two", "_law_first", "_law_second", "_law_outs_here", "_law_ins_here", "_law_due", "_law_row", "_law_y"]) (sc := defScope (top 62)) (by decide +kernel)) (fun _ _ _ _ _ => (pg_name (i := 8) sc.nd rfl (.inl rfl))) (fun _ _ _ _ _ => pts_nil) (fun _ _ _ _ _ => (pe_op (show OpR _ (binaryOp .Mult) (uMulU K) from o_mulU) pe_int (pe_op (show OpR _ (binaryOp .Add) (uAdd K) from o_add) (Fw.pe_call H_upper.G (hr.mono (by decide)) (by rfl) H_upper.g H_upper.k H_upper.b .nil pass0 (pa_cons (pv 4) pa_nil)) (pv 8))))))
      (pss_cons (ps_setLc (i := 7) (own := [("_law_y", 9)]) (g := gName 9) rfl sc.nd rfl rfl (sw_true rfl rfl rfl (by decide +kernel)) (show PI _ _ _ (iSeq K _) from pi_seq (pv 5)) (blkOk_by (N := ["_law_pen_here", "_law_one", "_law_two", "_law_first", "_law_second", "_law_outs_here", "_law_ins_here", "_law_due", "_law_row", "_law_y"]) (sc := defScope (top 62)) (by decide +kernel)) (fun _ _ _ _ _ => (pg_name (i := 9) sc.nd rfl (.inl rfl))) (fun _ _ _ _ _ => (pts_one (pt_cmpR (show OpR _ (compareOp .In) (uInU K) from o_inU (hu65 hr.r)) (pv 9) (pv 6) (by rfl)))) (fun _ _ _ _ _ => (pe_tup (pa_cons (pe_tup (pa_cons pe_int (pa_cons (pv 9) pa_nil))) (pa_cons (pe_tup (pa_cons pe_int (pa_cons (pv 9) pa_nil))) pa_nil)))))
      (pss_cons (ps_if (pt_cmpR (show OpR _ (compareOp .NotEq) (rNeD K) from o_ne hr.r.units) (pe_callB (show CallR _ _ (uSort K) from c_sort (by exact units70 hr.r)) (by rfl) T.sorted (by decide +kernel) (pa_cons (Fw.pe_call H__law_touches.G (hr.mono (by decide)) (by rfl) H__law_touches.g H__law_touches.k H__law_touches.b .nil pass0 (pa_cons (Fw.pe_call H_cells_at.G (hr.mono (by decide)) (by rfl) H_cells_at.g H_cells_at.k H_cells_at.b .nil pass_false (pa_cons (pv 3) (pa_cons pe_int pa_nil))) (pa_cons (Fw.pe_call H_cells_at.G (hr.mono (by decide)) (by rfl) H_cells_at.g H_cells_at.k H_cells_at.b .nil pass_false (pa_cons (pv 4) (pa_cons pe_int pa_nil))) pa_nil))) pa_nil)) (pe_callB (show CallR _ _ (uSort K) from c_sort (by exact units70 hr.r)) (by rfl) T.sorted (by decide +kernel) (pa_cons (pv 7) pa_nil)) (nomark _)) (pss_one (ps_ret pe_bl)) pss_nil)
      (pss_one (ps_ret (pe_cmpR (show OpR _ (compareOp .Eq) (rEqD K) from o_eq hr.r.units) (Fw.pe_call H__law_touches.G (hr.mono (by decide)) (by rfl) H__law_touches.g H__law_touches.k H__law_touches.b .nil pass0 (pa_cons (Fw.pe_call H_cells_at.G (hr.mono (by decide)) (by rfl) H_cells_at.g H_cells_at.k H_cells_at.b .nil pass_false (pa_cons (pv 3) (pa_cons pe_int pa_nil))) (pa_cons (Fw.pe_call H_cells_at.G (hr.mono (by decide)) (by rfl) H_cells_at.g H_cells_at.k H_cells_at.b .nil pass_false (pa_cons (pv 4) (pa_cons pe_int pa_nil))) pa_nil))) (pe_lst pa_nil) (nomark _)))))))))))), fun pn => ?_⟩
  exact (cs_seq (cs_par (ca_cons (ce_callP (ca_cons (CF.ce (cf_cb1 f_list (CE.b (ce_callN ca_nil)))) ca_nil)) (ca_cons (ce_callP (ca_cons (CF.ce (cf_cb1 f_list (CE.b (ce_callN ca_nil)))) ca_nil)) ca_nil)))
    (cs_seq (cs_asg (ce_tup (ca_cons (ce_var 1) (ca_cons (ce_op ob_add (CE.b ce_int) (CE.b (ce_callP (ca_cons ce_int ca_nil)))) ca_nil))) (tg_name 3))
    (cs_seq (cs_asg (ce_tup (ca_cons (ce_var 2) (ca_cons (ce_op ob_add (CE.b (ce_callP (ca_cons ce_int ca_nil))) (CE.b (ce_cb1 b_int (CE.b (ce_op ob_eq (CE.b (ce_var 2)) (CE.b ce_str)))))) ca_nil))) (tg_name 4))
    (cs_seq (cs_if (ct_test (ce_op ob_eq (CF.b (cf_lc (ci_seq (ce_callN (ca_cons (ce_var 3) ca_nil))) (tw_name 8 (by decide)) (fw_name 8 (by decide)) (ct_test (ce_op ob_inU (CE.b (ce_var 8)) (CE.b (ce_callN (ca_cons (ce_var 4) ca_nil))))) ce_int)) (CF.b (cf_lst ca_nil)))) (cs_if (ct_test (ce_op ob_ne (CE.b (ce_callN (ca_cons (ce_callX (ca_cons (ce_var 3) (ca_cons ce_int ca_nil))) (ca_cons (ce_callX (ca_cons (ce_var 4) (ca_cons ce_int ca_nil))) ca_nil)))) (CF.b (cf_lst ca_nil)))) (cs_ret ce_bl) cs_next) cs_next)
    (cs_seq (cs_asg (CF.ce (cf_lc (ci_seq (ce_callX (ca_cons (ce_var 1) ca_nil))) (tw_name 8 (by decide)) (fw_name 8 (by decide)) ct_yes (ce_op ob_mulU (CE.b ce_int) (CE.b (ce_op ob_add (CE.b (ce_callN (ca_cons (ce_var 3) ca_nil))) (CE.b (ce_var 8))))))) (tg_name 5))
    (cs_seq (cs_asg (CF.ce (cf_lc (ci_seq (ce_callX (ca_cons (ce_var 2) ca_nil))) (tw_name 8 (by decide)) (fw_name 8 (by decide)) ct_yes (ce_op ob_mulU (CE.b ce_int) (CE.b (ce_op ob_add (CE.b (ce_callN (ca_cons (ce_var 4) ca_nil))) (CE.b (ce_var 8))))))) (tg_name 6))
    (cs_seq (cs_asg (CF.ce (cf_lc (ci_seq (ce_var 5)) (tw_name 9 (by decide)) (fw_name 9 (by decide)) (ct_test (ce_op ob_inU (CE.b (ce_var 9)) (CE.b (ce_var 6)))) (ce_tup (ca_cons (ce_tup (ca_cons ce_int (ca_cons (ce_var 9) ca_nil))) (ca_cons (ce_tup (ca_cons ce_int (ca_cons (ce_var 9) ca_nil))) ca_nil))))) (tg_name 7))
    (cs_seq (cs_if (ct_test (ce_op ob_ne (CF.b (cf_cb1 f_sort (CE.b (ce_callN (ca_cons (ce_callX (ca_cons (ce_var 3) (ca_cons ce_int ca_nil))) (ca_cons (ce_callX (ca_cons (ce_var 4) (ca_cons ce_int ca_nil))) ca_nil)))))) (CF.b (cf_cb1 f_sort (CE.b (ce_var 7)))))) (cs_ret ce_bl) cs_next)
    (cs_ret (ce_op ob_eq (CE.b (ce_callN (ca_cons (ce_callX (ca_cons (ce_var 3) (ca_cons ce_int ca_nil))) (ca_cons (ce_callX (ca_cons (ce_var 4) (ca_cons ce_int ca_nil))) ca_nil)))) (CF.b (cf_lst ca_nil))))))))))))
end
end Sb

set_option linter.all false
set_option maxRecDepth 100000
set_option maxHeartbeats 4000000
namespace Sb
open PySem PySem.Spec PyProof.Rows L2 Fw
section
variable {P : Program} {w : World} {K : PySem.W.Frag} {mg : Str → Option Value} {base : Heap} {XC : Str → Option Addr}
def W13 : FS := (retS (op2 dEq (op1 dRepr2 (whyG 3 F__law_fault (callX 2 (defF false 2 F_word_of) (consG (slotD 8) (consG (slotD 7) (retG [])))))) (op1 dRepr2 (tupG (consG (retG (.str "row")) (consG (slotD 7) (retG [])))))))
def W12 : FS := (asgS (callP 1 1 (defF true 2 F__law_pick) (consG (lstG (consG (tupG (retG [])) (consG (tupG (consG (retG (.int 0)) (consG (retG (.int 1)) (consG (retG (.int 1)) (retG []))))) (consG (op2 dMulU (tupG (consG (retG (.int 2)) (retG []))) (op1 dLen (callN 1 (defF false 1 F__law_ins) (consG (slotD 8) (retG []))))) (consG (op2 dMulU (tupG (consG (retG (.bool true)) (retG []))) (op1 dLen (callN 1 (defF false 1 F__law_ins) (consG (slotD 8) (retG []))))) (consG (retG .none) (consG (retG (.str "1")) (consG (retG (.int 5)) (consG (retG (.dict [])) (retG [])))))))))) (retG []))) (nameT 7))
def W11 : FS := (asgS (callP 1 1 (defF true 2 F__law_pick) (consG (op1 dLst (callN 0 (defF false 0 F__law_kinds) (retG []))) (retG []))) (nameT 8))
def W10 : FS := (ifS (testG (op2 dNe (op1 dRepr2 (slotB 6)) (op1 dRepr2 (op2 dMulU (lstG (consG (tupG (consG (retG (.str "name")) (consG (slotD 9) (retG [])))) (retG []))) (retG (.int 5)))))) (retS (retG (.bool false))) nextS)
def W9 : FS := (appS 6 (whyG 3 F__law_fault (callX 2 (defF false 3 F_is_tile) (consG (slotD 9) (consG (retG .none) (retG []))))))
def W8 : FS := (appS 6 (whyG 3 F__law_fault (callX 2 (defF false 2 F_word_of) (consG (slotD 9) (consG (retG .none) (retG []))))))
def W7 : FS := (appS 6 (whyG 3 F__law_fault (callX 1 (defF false 1 F_outs_of) (consG (slotD 9) (retG [])))))
def W6 : FS := (appS 6 (whyG 3 F__law_fault (callX 1 (defF false 1 F_ins_of) (consG (slotD 9) (retG [])))))
def W5 : FS := (asgO (lstG (consG (whyG 3 F__law_fault (callX 1 (defF false 8 F_tile_cells) (consG (slotD 9) (retG [])))) (retG []))) 6)
def W4 : FS := (asgS (callP 1 1 (defF true 2 F__law_pick) (consG (lstG (consG (retG (.str "Wire")) (consG (retG (.str "")) (consG (retG .none) (consG (retG (.int 5)) (consG (tupG (consG (retG (.str "wire")) (retG []))) (consG (lstG (retG [])) (consG (retG (.dict [])) (consG (retG (.str "cross")) (consG (retG (.bool true)) (retG []))))))))))) (retG []))) (nameT 9))
def W3_1 : FS := (ifS (notG (testG (callP 0 1 (defF true 10 F__law_pair_right) (retG [])))) (retS (retG (.bool false))) nextS)
def W3_B : FS := W3_1
def W3 : FS := (forS (rgI rg1D (consG (retG (.int 12)) (retG []))) (nameT 5) W3_B)
def W2_5 : FS := (ifS (testG (op2 dNe (callX 2 (defF false 5 F_cells_at) (consG (slotD 4) (consG (slotD 3) (retG [])))) (callN 2 (defF false 5 F__law_cells_at) (consG (slotD 4) (consG (slotD 3) (retG [])))))) (retS (retG (.bool false))) nextS)
def W2_4 : FS := (ifS (testG (op2 dNe (tupG (consG (callN 1 (defF false 3 F_upper) (consG (slotD 4) (retG []))) (consG (callN 1 (defF false 2 F_rows_of) (consG (slotD 4) (retG []))) (retG [])))) (tupG (consG (callN 1 (defF false 1 F__law_upper) (consG (slotD 4) (retG []))) (consG (callN 1 (defF false 2 F__law_rows_of) (consG (slotD 4) (retG []))) (retG [])))))) (retS (retG (.bool false))) nextS)
def W2_3 : FS := (ifS (testG (op2 dNe (tupG (consG (callX 1 (defF false 1 F_ins_of) (consG (slotD 8) (retG []))) (consG (callX 1 (defF false 1 F_outs_of) (consG (slotD 8) (retG []))) (retG [])))) (tupG (consG (callN 1 (defF false 1 F__law_ins) (consG (slotD 8) (retG []))) (consG (callN 1 (defF false 1 F__law_outs) (consG (slotD 8) (retG []))) (retG [])))))) (retS (retG (.bool false))) nextS)
def W2_2 : FS := (asgS (tupG (consG (slotD 8) (consG (slotD 2) (retG [])))) (nameT 4))
def W2_1 : FS := (parS 2 3 (consG (op2 dAdd (retG (.int 1)) (callP 1 1 drawF (consG (retG (.int 40)) (retG [])))) (consG (callP 1 1 drawF (consG (retG (.int 2000)) (retG []))) (retG []))))
def W2_B : FS := (seqS W2_1
  (seqS W2_2
  (seqS W2_3
  (seqS W2_4
  W2_5))))
def W2 : FS := (forS (seqI (callN 0 (defF false 0 F__law_kinds) (retG []))) (nameT 8) W2_B)
def W1 : FS := (ifS (testG (op2 dNe (callN 0 (defF false 0 F_kinds) (retG [])) (callN 0 (defF false 0 F__law_kinds) (retG [])))) (retS (retG (.bool false))) nextS)
def F_law : FS := (seqS W1
  (seqS W2
  (seqS W3
  (seqS W4
  (seqS W5
  (seqS W6
  (seqS W7
  (seqS W8
  (seqS W9
  (seqS W10
  (seqS W11
  (seqS W12
  W13))))))))))))
theorem sc_law : FnScope ["_law_script", "_law_pen_here", "_law_row", "_law_x", "_law_tile", "_law_lap", "_law_told", "_law_bad", "_law_kind", "_law_odd"] ["_law_script"] (defScope (top 63)) := ⟨rfl, rfl, rfl, by decide +kernel, rfl, by decide +kernel, by decide +kernel⟩
theorem ok_law {f cL PT a__law_pen a_kinds a__law_kinds a__law_draw a_ins_of a_outs_of a__law_ins a__law_outs a_upper a_rows_of a__law_upper a__law_rows_of a_cells_at a__law_cells_at a__law_pair_right a__law_pick a_tile_cells a_word_of a_is_tile g__law_fault : Addr} {e__law_pen e_kinds e__law_kinds e__law_draw e_ins_of e_outs_of e__law_ins e__law_outs e_upper e_rows_of e__law_upper e__law_rows_of e_cells_at e__law_cells_at e__law_pair_right e__law_pick e_tile_cells e_word_of e_is_tile : FuncData} {oc kV doc pm ct : Value} {od an : Option Addr} {osl : Array (Option Value)} (lk : K.lookup f = some ⟨oc, od, .func (PySem.W.fnOf "law" "law" (defArgs (top 63)) (defBody (top 63)) (defScope (top 63)) .none kV doc pm an (.ref cL) ct), osl⟩) (cd : PySem.W.codeIn K (.ref cL) "law" = true) (T : Bv mg) {nm : Str} (hn : nm = (("law" : Str) ++ (".<locals>." : Str)) ++ ("<lambda>" : Str)) (TB : LamX.TabB base mg cL PT) (H__law_pen : Fw.Fn K mg P w base CX0 "_law_pen" 1 a__law_pen e__law_pen ["_law_script"] (spPen K)) (H_kinds : Fw.Fn K mg P w base CX0 "kinds" 1 a_kinds e_kinds [] (spN ⟨K, XC⟩ false 0 (defF false 0 F_kinds))) (H__law_kinds : Fw.Fn K mg P w base CX0 "_law_kinds" 1 a__law_kinds e__law_kinds [] (spN ⟨K, XC⟩ false 0 (defF false 0 F__law_kinds))) (H__law_draw : Fw.Fn K mg P w base CX0 "_law_draw" 1 a__law_draw e__law_draw ["_law_pen_here", "_law_many"] (spN ⟨K, XC⟩ true 1 drawF)) (H_ins_of : Fw.Fn K mg P w base (L2.CX P w) "ins_of" 4 a_ins_of e_ins_of ["kind"] (spX ⟨K, XC⟩ false 1 (defF false 1 F_ins_of))) (H_outs_of : Fw.Fn K mg P w base (L2.CX P w) "outs_of" 4 a_outs_of e_outs_of ["kind"] (spX ⟨K, XC⟩ false 1 (defF false 1 F_outs_of))) (H__law_ins : Fw.Fn K mg P w base CX0 "_law_ins" 1 a__law_ins e__law_ins ["_law_kind"] (spN ⟨K, XC⟩ false 1 (defF false 1 F__law_ins))) (H__law_outs : Fw.Fn K mg P w base CX0 "_law_outs" 1 a__law_outs e__law_outs ["_law_kind"] (spN ⟨K, XC⟩ false 1 (defF false 1 F__law_outs))) (H_upper : Fw.Fn K mg P w base CX0 "upper" 1 a_upper e_upper ["tile"] (spN ⟨K, XC⟩ false 1 (defF false 3 F_upper))) (H_rows_of : Fw.Fn K mg P w base CX0 "rows_of" 2 a_rows_of e_rows_of ["tile"] (spN ⟨K, XC⟩ false 1 (defF false 2 F_rows_of))) (H__law_upper : Fw.Fn K mg P w base CX0 "_law_upper" 1 a__law_upper e__law_upper ["_law_tile"] (spN ⟨K, XC⟩ false 1 (defF false 1 F__law_upper))) (H__law_rows_of : Fw.Fn K mg P w base CX0 "_law_rows_of" 2 a__law_rows_of e__law_rows_of ["_law_tile"] (spN ⟨K, XC⟩ false 1 (defF false 2 F__law_rows_of))) (H_cells_at : Fw.Fn K mg P w base (L2.CX P w) "cells_at" 5 a_cells_at e_cells_at ["tile", "x"] (spX ⟨K, XC⟩ false 2 (defF false 5 F_cells_at))) (H__law_cells_at : Fw.Fn K mg P w base CX0 "_law_cells_at" 3 a__law_cells_at e__law_cells_at ["_law_tile", "_law_x"] (spN ⟨K, XC⟩ false 2 (defF false 5 F__law_cells_at))) (H__law_pair_right : Fw.Fn K mg P w base CX0 "_law_pair_right" 6 a__law_pair_right e__law_pair_right ["_law_pen_here"] (spN ⟨K, XC⟩ true 0 (defF true 10 F__law_pair_right))) (H__law_pick : Fw.Fn K mg P w base CX0 "_law_pick" 2 a__law_pick e__law_pick ["_law_pen_here", "_law_some"] (spN ⟨K, XC⟩ true 1 (defF true 2 F__law_pick))) (H_tile_cells : Fw.Fn K mg P w base (L2.CX P w) "tile_cells" 4 a_tile_cells e_tile_cells ["kind"] (spX ⟨K, XC⟩ false 1 (defF false 8 F_tile_cells))) (H_word_of : Fw.Fn K mg P w base (L2.CX P w) "word_of" 4 a_word_of e_word_of ["kind", "bits"] (spX ⟨K, XC⟩ false 2 (defF false 2 F_word_of))) (H_is_tile : Fw.Fn K mg P w base (L2.CX P w) "is_tile" 4 a_is_tile e_is_tile ["kind", "cells"] (spX ⟨K, XC⟩ false 2 (defF false 3 F_is_tile))) (W__law_fault : WhyAt K mg "_law_fault" "_law_call" (top 60) g__law_fault) (Y__law_fault : ∀ (X : Cx), X.K = K → X.mg = mg → X.A.guards = some [] → X.A.units + 80 < cLine → ∀ (q0 : Str) (cd0 : Value), LamX.GivesTo X ["_law_call", "_law_told", "error"] "_law_fault" (defScope (top 60)) g__law_fault cd0 (defBody (top 60)) "_law_call" q0 (TTw ⟨K, XC⟩ 3 F__law_fault))
    (hf : ∀ pp, GoodP 0 pp → ∃ e', F_law ⟨lawSl 10, pp⟩ = some (.rt (.bool true), e')) :
    LawG P w K mg base f (PySem.W.fnOf "law" "law" (defArgs (top 63)) (defBody (top 63)) (defScope (top 63)) .none kV doc pm an (.ref cL) ct) "_law_script" (spLaw K [(PT, nm)]) := by
  have sc := sc_law
  obtain ⟨oc__law_fault, od__law_fault, kV__law_fault, doc__law_fault, pm__law_fault, an__law_fault, cdv__law_fault, ct__law_fault, osl__law_fault, lk__law_fault, cg__law_fault, bi__law_fault⟩ := W__law_fault.ex
  refine lawG_of (k := 10) lk cd sc_law ⟨⟨rfl, by decide, by decide⟩, rfl⟩ (fun s H v Q hr h => ?_)
  refine ⟨_, (pss_cons (ps_set (i := 1) sc.nd rfl (.inl rfl) (Fw.pe_call H__law_pen.G (hr.mono (by decide)) (by rfl) H__law_pen.g H__law_pen.k H__law_pen.b .nil pass0 (pa_cons (pv 0) pa_nil)))
      (pss_cons (ps_if (pt_cmpR (show OpR _ (compareOp .NotEq) (rNeD K) from o_ne hr.r.units) (Fw.pe_call0 H_kinds.G (hr.mono (by decide)) (by rfl) H_kinds.g H_kinds.k H_kinds.b .nil pass0) (Fw.pe_call0 H__law_kinds.G (hr.mono (by decide)) (by rfl) H__law_kinds.g H__law_kinds.k H__law_kinds.b .nil pass0) (nomark _)) (pss_one (ps_ret pe_bl)) pss_nil)
      (pss_cons (ps_for PassesOwn.never rfl (show PI _ _ _ (iSeq K _) from pi_seq (Fw.pe_call0 H__law_kinds.G (hr.mono (by decide)) (by rfl) H__law_kinds.g H__law_kinds.k H__law_kinds.b .nil pass0)) (pg_name (i := 8) sc.nd rfl (.inr rfl)) (pss_cons (ps_par (i := 2) (j := 3) (by rfl) sc.nd rfl rfl (by decide) rfl rfl (pa_cons (pe_op (show OpR _ (binaryOp .Add) (uAdd K) from o_add) pe_int (Fw.pe_call H__law_draw.G (hr.mono (by decide)) (by rfl) H__law_draw.g H__law_draw.k H__law_draw.b .nil pass0 (pa_cons (pv 1) (pa_cons pe_int pa_nil)))) (pa_cons (Fw.pe_call H__law_draw.G (hr.mono (by decide)) (by rfl) H__law_draw.g H__law_draw.k H__law_draw.b .nil pass0 (pa_cons (pv 1) (pa_cons pe_int pa_nil))) pa_nil)) (by rfl))
      (pss_cons (ps_set (i := 4) sc.nd rfl (.inl rfl) (pe_tup (pa_cons (pv 8) (pa_cons (pv 2) pa_nil))))
      (pss_cons (ps_if (pt_cmpR (show OpR _ (compareOp .NotEq) (rNeD K) from o_ne hr.r.units) (pe_tup (pa_cons (Fw.pe_call H_ins_of.G (hr.mono (by decide)) (by rfl) H_ins_of.g H_ins_of.k H_ins_of.b .nil pass_false (pa_cons (pv 8) pa_nil)) (pa_cons (Fw.pe_call H_outs_of.G (hr.mono (by decide)) (by rfl) H_outs_of.g H_outs_of.k H_outs_of.b .nil pass_false (pa_cons (pv 8) pa_nil)) pa_nil))) (pe_tup (pa_cons (Fw.pe_call H__law_ins.G (hr.mono (by decide)) (by rfl) H__law_ins.g H__law_ins.k H__law_ins.b .nil pass0 (pa_cons (pv 8) pa_nil)) (pa_cons (Fw.pe_call H__law_outs.G (hr.mono (by decide)) (by rfl) H__law_outs.g H__law_outs.k H__law_outs.b .nil pass0 (pa_cons (pv 8) pa_nil)) pa_nil))) (nomark _)) (pss_one (ps_ret pe_bl)) pss_nil)
      (pss_cons (ps_if (pt_cmpR (show OpR _ (compareOp .NotEq) (rNeD K) from o_ne hr.r.units) (pe_tup (pa_cons (Fw.pe_call H_upper.G (hr.mono (by decide)) (by rfl) H_upper.g H_upper.k H_upper.b .nil pass0 (pa_cons (pv 4) pa_nil)) (pa_cons (Fw.pe_call H_rows_of.G (hr.mono (by decide)) (by rfl) H_rows_of.g H_rows_of.k H_rows_of.b .nil pass0 (pa_cons (pv 4) pa_nil)) pa_nil))) (pe_tup (pa_cons (Fw.pe_call H__law_upper.G (hr.mono (by decide)) (by rfl) H__law_upper.g H__law_upper.k H__law_upper.b .nil pass0 (pa_cons (pv 4) pa_nil)) (pa_cons (Fw.pe_call H__law_rows_of.G (hr.mono (by decide)) (by rfl) H__law_rows_of.g H__law_rows_of.k H__law_rows_of.b .nil pass0 (pa_cons (pv 4) pa_nil)) pa_nil))) (nomark _)) (pss_one (ps_ret pe_bl)) pss_nil)
      (pss_one (ps_if (pt_cmpR (show OpR _ (compareOp .NotEq) (rNeD K) from o_ne hr.r.units) (Fw.pe_call H_cells_at.G (hr.mono (by decide)) (by rfl) H_cells_at.g H_cells_at.k H_cells_at.b .nil pass_false (pa_cons (pv 4) (pa_cons (pv 3) pa_nil))) (Fw.pe_call H__law_cells_at.G (hr.mono (by decide)) (by rfl) H__law_cells_at.g H__law_cells_at.k H__law_cells_at.b .nil pass0 (pa_cons (pv 4) (pa_cons (pv 3) pa_nil))) (nomark _)) (pss_one (ps_ret pe_bl)) pss_nil)))))))
      (pss_cons (ps_for PassesOwn.never rfl (pi_range1 (by rfl) T.range (pa_cons pe_int pa_nil)) (pg_name (i := 5) sc.nd rfl (.inl rfl)) (pss_one (ps_if (pt_not (pt_val (Fw.pe_call H__law_pair_right.G (hr.mono (by decide)) (by rfl) H__law_pair_right.g H__law_pair_right.k H__law_pair_right.b .nil pass0 (pa_cons (pv 1) pa_nil)))) (pss_one (ps_ret pe_bl)) pss_nil)))
      (pss_cons (ps_set (i := 9) sc.nd rfl (.inr rfl) (Fw.pe_call H__law_pick.G (hr.mono (by decide)) (by rfl) H__law_pick.g H__law_pick.k H__law_pick.b .nil pass0 (pa_cons (pv 1) (pa_cons (pe_lst (pa_cons pe_str (pa_cons pe_str (pa_cons pe_non (pa_cons pe_int (pa_cons (pe_tup (pa_cons pe_str pa_nil)) (pa_cons (pe_lst pa_nil) (pa_cons pe_dnewK (pa_cons pe_str (pa_cons pe_bl pa_nil)))))))))) pa_nil))))
      (pss_cons (ps_set (i := 6) sc.nd rfl (.inl rfl) (pe_lst (pa_cons (pe_lamP (T := [(PT, nm)]) (k := 8) (P := PT) (c := cL) (by rfl) W__law_fault.m W__law_fault.k lk__law_fault cg__law_fault bi__law_fault sc__law_fault rfl (.inl rfl) (Y__law_fault _ rfl rfl hr.g (by exact units80 hr.r) _ _) TB rfl (by exact name_in rfl hn) (by exact name_one rfl hn) (hr.mono (by decide)) (LamX.lamS_by (sc := defScope (top 63)) (by decide +kernel)) rfl (fun _ _ _ _ _ => rfl) (by exact fun A outer s H E f c' hr => (Fw.pe_call H_tile_cells.G (hr.mono (by decide)) (by rfl) H_tile_cells.g H_tile_cells.k H_tile_cells.b .nil (passes_call (takes_of rfl rfl rfl rfl) (fun _ _ _ _ h => h)) (pa_cons (pv 9) pa_nil)))) pa_nil)))
      (pss_cons (ps_expr (pe_bm PySem.F.plainAttrs_list PySem.F.slot_list_append PySem.F.type_list_append mt_append (pv 6) (pa_cons (pe_lamP (T := [(PT, nm)]) (k := 8) (P := PT) (c := cL) (by rfl) W__law_fault.m W__law_fault.k lk__law_fault cg__law_fault bi__law_fault sc__law_fault rfl (.inl rfl) (Y__law_fault _ rfl rfl hr.g (by exact units80 hr.r) _ _) TB rfl (by exact name_in rfl hn) (by exact name_one rfl hn) (hr.mono (by decide)) (LamX.lamS_by (sc := defScope (top 63)) (by decide +kernel)) rfl (fun _ _ _ _ _ => rfl) (by exact fun A outer s H E f c' hr => (Fw.pe_call H_ins_of.G (hr.mono (by decide)) (by rfl) H_ins_of.g H_ins_of.k H_ins_of.b .nil (passes_call (takes_of rfl rfl rfl rfl) (fun _ _ _ _ h => h)) (pa_cons (pv 9) pa_nil)))) pa_nil)))
      (pss_cons (ps_expr (pe_bm PySem.F.plainAttrs_list PySem.F.slot_list_append PySem.F.type_list_append mt_append (pv 6) (pa_cons (pe_lamP (T := [(PT, nm)]) (k := 8) (P := PT) (c := cL) (by rfl) W__law_fault.m W__law_fault.k lk__law_fault cg__law_fault bi__law_fault sc__law_fault rfl (.inl rfl) (Y__law_fault _ rfl rfl hr.g (by exact units80 hr.r) _ _) TB rfl (by exact name_in rfl hn) (by exact name_one rfl hn) (hr.mono (by decide)) (LamX.lamS_by (sc := defScope (top 63)) (by decide +kernel)) rfl (fun _ _ _ _ _ => rfl) (by exact fun A outer s H E f c' hr => (Fw.pe_call H_outs_of.G (hr.mono (by decide)) (by rfl) H_outs_of.g H_outs_of.k H_outs_of.b .nil (passes_call (takes_of rfl rfl rfl rfl) (fun _ _ _ _ h => h)) (pa_cons (pv 9) pa_nil)))) pa_nil)))
      (pss_cons (ps_expr (pe_bm PySem.F.plainAttrs_list PySem.F.slot_list_append PySem.F.type_list_append mt_append (pv 6) (pa_cons (pe_lamP (T := [(PT, nm)]) (k := 8) (P := PT) (c := cL) (by rfl) W__law_fault.m W__law_fault.k lk__law_fault cg__law_fault bi__law_fault sc__law_fault rfl (.inl rfl) (Y__law_fault _ rfl rfl hr.g (by exact units80 hr.r) _ _) TB rfl (by exact name_in rfl hn) (by exact name_one rfl hn) (hr.mono (by decide)) (LamX.lamS_by (sc := defScope (top 63)) (by decide +kernel)) rfl (fun _ _ _ _ _ => rfl) (by exact fun A outer s H E f c' hr => (Fw.pe_call H_word_of.G (hr.mono (by decide)) (by rfl) H_word_of.g H_word_of.k H_word_of.b .nil (passes_call (takes_of rfl rfl rfl rfl) (fun _ _ _ _ h => h)) (pa_cons (pv 9) (pa_cons pe_non pa_nil))))) pa_nil)))
      (pss_cons (ps_expr (pe_bm PySem.F.plainAttrs_list PySem.F.slot_list_append PySem.F.type_list_append mt_append (pv 6) (pa_cons (pe_lamP (T := [(PT, nm)]) (k := 8) (P := PT) (c := cL) (by rfl) W__law_fault.m W__law_fault.k lk__law_fault cg__law_fault bi__law_fault sc__law_fault rfl (.inl rfl) (Y__law_fault _ rfl rfl hr.g (by exact units80 hr.r) _ _) TB rfl (by exact name_in rfl hn) (by exact name_one rfl hn) (hr.mono (by decide)) (LamX.lamS_by (sc := defScope (top 63)) (by decide +kernel)) rfl (fun _ _ _ _ _ => rfl) (by exact fun A outer s H E f c' hr => (Fw.pe_call H_is_tile.G (hr.mono (by decide)) (by rfl) H_is_tile.g H_is_tile.k H_is_tile.b .nil (passes_call (takes_of rfl rfl rfl rfl) (fun _ _ _ _ h => h)) (pa_cons (pv 9) (pa_cons pe_non pa_nil))))) pa_nil)))
      (pss_cons (ps_if (pt_cmpR (show OpR _ (compareOp .NotEq) (rNeD K) from o_ne hr.r.units) (pe_callB (show CallR _ _ (Fw.rRepr2 ⟨K, XC⟩) from Fw.call_repr2 (by exact hr.g) (by exact units70 hr.r)) (by rfl) T.repr (by decide +kernel) (pa_cons (pv 6) pa_nil)) (pe_callB (show CallR _ _ (Fw.rRepr2 ⟨K, XC⟩) from Fw.call_repr2 (by exact hr.g) (by exact units70 hr.r)) (by rfl) T.repr (by decide +kernel) (pa_cons (pe_op (show OpR _ (binaryOp .Mult) (uMulU K) from o_mulU) (pe_lst (pa_cons (pe_tup (pa_cons pe_str (pa_cons (pv 9) pa_nil))) pa_nil)) pe_int) pa_nil)) (nomark _)) (pss_one (ps_ret pe_bl)) pss_nil)
      (pss_cons (ps_set (i := 8) sc.nd rfl (.inr rfl) (Fw.pe_call H__law_pick.G (hr.mono (by decide)) (by rfl) H__law_pick.g H__law_pick.k H__law_pick.b .nil pass0 (pa_cons (pv 1) (pa_cons (pe_callTy (show CallR _ _ (uLst K) from c_list) (by rfl) T.list (by decide +kernel) (pa_cons (Fw.pe_call0 H__law_kinds.G (hr.mono (by decide)) (by rfl) H__law_kinds.g H__law_kinds.k H__law_kinds.b .nil pass0) pa_nil)) pa_nil))))
      (pss_cons (ps_set (i := 7) sc.nd rfl (.inr rfl) (Fw.pe_call H__law_pick.G (hr.mono (by decide)) (by rfl) H__law_pick.g H__law_pick.k H__law_pick.b .nil pass0 (pa_cons (pv 1) (pa_cons (pe_lst (pa_cons (pe_tup pa_nil) (pa_cons (pe_tup (pa_cons pe_int (pa_cons pe_int (pa_cons pe_int pa_nil)))) (pa_cons (pe_op (show OpR _ (binaryOp .Mult) (uMulU K) from o_mulU) (pe_tup (pa_cons pe_int pa_nil)) (pe_callB (show CallR _ _ (uLen K) from c_len) (by rfl) T.len (by decide +kernel) (pa_cons (Fw.pe_call H__law_ins.G (hr.mono (by decide)) (by rfl) H__law_ins.g H__law_ins.k H__law_ins.b .nil pass0 (pa_cons (pv 8) pa_nil)) pa_nil))) (pa_cons (pe_op (show OpR _ (binaryOp .Mult) (uMulU K) from o_mulU) (pe_tup (pa_cons pe_bl pa_nil)) (pe_callB (show CallR _ _ (uLen K) from c_len) (by rfl) T.len (by decide +kernel) (pa_cons (Fw.pe_call H__law_ins.G (hr.mono (by decide)) (by rfl) H__law_ins.g H__law_ins.k H__law_ins.b .nil pass0 (pa_cons (pv 8) pa_nil)) pa_nil))) (pa_cons pe_non (pa_cons pe_str (pa_cons pe_int (pa_cons pe_dnewK pa_nil))))))))) pa_nil))))
      (pss_one (ps_ret (pe_cmpR (show OpR _ (compareOp .Eq) (rEqD K) from o_eq hr.r.units) (pe_callB (show CallR _ _ (Fw.rRepr2 ⟨K, XC⟩) from Fw.call_repr2 (by exact hr.g) (by exact units70 hr.r)) (by rfl) T.repr (by decide +kernel) (pa_cons (pe_lamP (T := [(PT, nm)]) (k := 8) (P := PT) (c := cL) (by rfl) W__law_fault.m W__law_fault.k lk__law_fault cg__law_fault bi__law_fault sc__law_fault rfl (.inl rfl) (Y__law_fault _ rfl rfl hr.g (by exact units80 hr.r) _ _) TB rfl (by exact name_in rfl hn) (by exact name_one rfl hn) (hr.mono (by decide)) (LamX.lamS_by (sc := defScope (top 63)) (by decide +kernel)) rfl (fun _ _ _ _ _ => rfl) (by exact fun A outer s H E f c' hr => (Fw.pe_call H_word_of.G (hr.mono (by decide)) (by rfl) H_word_of.g H_word_of.k H_word_of.b .nil (passes_call (takes_of rfl rfl rfl rfl) (fun _ _ _ _ h => h)) (pa_cons (pv 8) (pa_cons (pv 7) pa_nil))))) pa_nil)) (pe_callB (show CallR _ _ (Fw.rRepr2 ⟨K, XC⟩) from Fw.call_repr2 (by exact hr.g) (by exact units70 hr.r)) (by rfl) T.repr (by decide +kernel) (pa_cons (pe_tup (pa_cons pe_str (pa_cons (pv 7) pa_nil))) pa_nil)) (nomark _))))))))))))))))), ?_⟩
  refine law_run (G := ⟨K, XC⟩) (f := F_law) (fun qL hT => ?_) (by decide) hf h
  exact (cs_seq (cs_if (ct_test (ce_op ob_ne (CE.b (ce_callN ca_nil)) (CE.b (ce_callN ca_nil)))) (cs_ret ce_bl) cs_next)
    (cs_seq (cs_for (ci_seq (ce_callN ca_nil)) (tg_name 8) (cs_seq (cs_par (ca_cons (ce_op ob_add (CE.b ce_int) (CE.b (ce_callP (ca_cons ce_int ca_nil)))) (ca_cons (ce_callP (ca_cons ce_int ca_nil)) ca_nil)))
    (cs_seq (cs_asg (ce_tup (ca_cons (ce_var 8) (ca_cons (ce_var 2) ca_nil))) (tg_name 4))
    (cs_seq (cs_if (ct_test (ce_op ob_ne (CE.b (ce_tup (ca_cons (ce_callX (ca_cons (ce_var 8) ca_nil)) (ca_cons (ce_callX (ca_cons (ce_var 8) ca_nil)) ca_nil)))) (CE.b (ce_tup (ca_cons (ce_callN (ca_cons (ce_var 8) ca_nil)) (ca_cons (ce_callN (ca_cons (ce_var 8) ca_nil)) ca_nil)))))) (cs_ret ce_bl) cs_next)
    (cs_seq (cs_if (ct_test (ce_op ob_ne (CE.b (ce_tup (ca_cons (ce_callN (ca_cons (ce_var 4) ca_nil)) (ca_cons (ce_callN (ca_cons (ce_var 4) ca_nil)) ca_nil)))) (CE.b (ce_tup (ca_cons (ce_callN (ca_cons (ce_var 4) ca_nil)) (ca_cons (ce_callN (ca_cons (ce_var 4) ca_nil)) ca_nil)))))) (cs_ret ce_bl) cs_next)
    (cs_if (ct_test (ce_op ob_ne (CE.b (ce_callX (ca_cons (ce_var 4) (ca_cons (ce_var 3) ca_nil)))) (CE.b (ce_callN (ca_cons (ce_var 4) (ca_cons (ce_var 3) ca_nil)))))) (cs_ret ce_bl) cs_next))))))
    (cs_seq (cs_for (ci_rg1 (ca_cons ce_int ca_nil)) (tg_name 5) (cs_if (ct_not (ct_B (ce_callP ca_nil))) (cs_ret ce_bl) cs_next))
    (cs_seq (cs_asg (ce_callP (ca_cons (CF.ce (cf_lst (ca_cons ce_str (ca_cons ce_str (ca_cons ce_non (ca_cons ce_int (ca_cons (ce_tup (ca_cons ce_str ca_nil)) (ca_cons (CF.ce (cf_lst ca_nil)) (ca_cons (CF.ce cf_dnewK) (ca_cons ce_str (ca_cons ce_bl ca_nil))))))))))) ca_nil)) (tg_name 9))
    (cs_seq (cs_asgO (cf_lst (ca_cons (ce_lam hT (.head _) (fun E => (ce_callX (ca_cons (ce_var 9) ca_nil)))) ca_nil)))
    (cs_seq (cs_app (ce_lam hT (.head _) (fun E => (ce_callX (ca_cons (ce_var 9) ca_nil)))))
    (cs_seq (cs_app (ce_lam hT (.head _) (fun E => (ce_callX (ca_cons (ce_var 9) ca_nil)))))
    (cs_seq (cs_app (ce_lam hT (.head _) (fun E => (ce_callX (ca_cons (ce_var 9) (ca_cons ce_non ca_nil))))))
    (cs_seq (cs_app (ce_lam hT (.head _) (fun E => (ce_callX (ca_cons (ce_var 9) (ca_cons ce_non ca_nil))))))
    (cs_seq (cs_if (ct_test (ce_op ob_ne (CE.b (ce_cb1 b_repr2 (cb_var 6))) (CE.b (ce_cb1 b_repr2 (CE.b (ce_op ob_mulU (CF.b (cf_lst (ca_cons (ce_tup (ca_cons ce_str (ca_cons (ce_var 9) ca_nil))) ca_nil))) (CE.b ce_int))))))) (cs_ret ce_bl) cs_next)
    (cs_seq (cs_asg (ce_callP (ca_cons (CF.ce (cf_cb1 f_list (CE.b (ce_callN ca_nil)))) ca_nil)) (tg_name 8))
    (cs_seq (cs_asg (ce_callP (ca_cons (CF.ce (cf_lst (ca_cons (ce_tup ca_nil) (ca_cons (ce_tup (ca_cons ce_int (ca_cons ce_int (ca_cons ce_int ca_nil)))) (ca_cons (ce_op ob_mulU (CE.b (ce_tup (ca_cons ce_int ca_nil))) (CE.b (ce_cb1 b_len (CE.b (ce_callN (ca_cons (ce_var 8) ca_nil)))))) (ca_cons (ce_op ob_mulU (CE.b (ce_tup (ca_cons ce_bl ca_nil))) (CE.b (ce_cb1 b_len (CE.b (ce_callN (ca_cons (ce_var 8) ca_nil)))))) (ca_cons ce_non (ca_cons ce_str (ca_cons ce_int (ca_cons (CF.ce cf_dnewK) ca_nil)))))))))) ca_nil)) (tg_name 7))
    (cs_ret (ce_op ob_eq (CE.b (ce_cb1 b_repr2 (CE.b (ce_lam hT (.head _) (fun E => (ce_callX (ca_cons (ce_var 8) (ca_cons (ce_var 7) ca_nil)))))))) (CE.b (ce_cb1 b_repr2 (CE.b (ce_tup (ca_cons ce_str (ca_cons (ce_var 7) ca_nil))))))))))))))))))))
end
end Sb

set_option linter.all false
set_option maxRecDepth 100000
set_option maxHeartbeats 4000000
namespace Fw
open PySem PySem.Spec PyProof.Rows L2
/-! ### what does not draw: the pen is handed on -/
def withP {α : Type} (p : PenS) (r : α × PenS) : α × PenS := (r.1, p)
def withS {α : Type} (p : PenS) (r : α × Ev) : α × Ev := (r.1, ⟨r.2.sl, p⟩)
def Pg {α : Type} (f : FG α) : Prop := ∀ sl p, f ⟨sl, p⟩ = (f ⟨sl, pen0⟩).map (withP p)
def Ps (f : FS) : Prop := ∀ sl p, f ⟨sl, p⟩ = (f ⟨sl, pen0⟩).map (withS p)
def Pv (f : D → Ev → Option Ev) : Prop := ∀ d sl p, f d ⟨sl, p⟩ = (f d ⟨sl, pen0⟩).map fun e => ⟨e.sl, p⟩
def Pvs (f : List D → Ev → Option Ev) : Prop := ∀ d sl p, f d ⟨sl, p⟩ = (f d ⟨sl, pen0⟩).map fun e => ⟨e.sl, p⟩
section
variable {α β : Type}
theorem pg_ret {a : α} : Pg (retG a) := fun _ _ => rfl
theorem pg_opt {o : Option α} : Pg (optG o) := fun _ _ => by cases o <;> rfl
theorem pg_none : Pg (fun _ => none : FG α) := fun _ _ => rfl
theorem pg_bind {f : FG α} {g : α → FG β} (h1 : Pg f) (h2 : ∀ a, Pg (g a)) : Pg (Fw.bindG f g) := fun sl p => by
  unfold Fw.bindG
  rw [h1 sl p]
  cases hf : f ⟨sl, pen0⟩ with
  | none => rfl
  | some r =>
    obtain ⟨r, q⟩ := r
    cases r with
    | x c ns ds => rfl
    | v a =>
      show g a ⟨sl, p⟩ = (g a ⟨sl, q⟩).map (withP p)
      rw [h2 a sl p, h2 a sl q]
      cases g a ⟨sl, pen0⟩ <;> rfl
theorem pg_slotD {i : Nat} : Pg (slotD i) := fun sl p => by
  unfold slotD
  dsimp only
  split <;> rfl
theorem pg_slotB {i : Nat} : Pg (slotB i) := fun sl p => by
  unfold slotB
  dsimp only
  split <;> rfl
theorem pg_if {c : Prop} [Decidable c] {f g : FG α} (h1 : Pg f) (h2 : Pg g) : Pg (if c then f else g) := by
  split <;> assumption
theorem pg_callN {n : Nat} {F : FF} {f : FG (List D)} (h : Pg f) : Pg (callN n F f) := by
  refine pg_bind h fun ds sl p => ?_
  dsimp only
  split
  · split <;> rfl
  · rfl
theorem pg_callX {n : Nat} {F : FF} {f : FG (List D)} (h : Pg f) : Pg (callX n F f) := by
  refine pg_bind h fun ds sl p => ?_
  dsimp only
  split
  · split <;> rfl
  · rfl
theorem lcL_pen {slw : List Slot} {ft : FT} {test : FG Bool} {elt : FG D} (h1 : Pg test) (h2 : Pg elt) : ∀ (ds : List D) (p : PenS), lcL slw ft test elt ds p = (lcL slw ft test elt ds pen0).map (withP p)
  | [], p => rfl
  | d :: ds, p => by
    unfold lcL
    split
    · rfl
    · next sl hs =>
      rw [h1 sl p]
      cases ht : test ⟨sl, pen0⟩ with
      | none => rfl
      | some r =>
        obtain ⟨r, q⟩ := r
        cases r with
        | x c ns es => rfl
        | v b =>
          cases b with
          | false =>
            show lcL slw ft test elt ds p = (lcL slw ft test elt ds q).map (withP p)
            rw [lcL_pen h1 h2 ds p, lcL_pen h1 h2 ds q]
            cases lcL slw ft test elt ds pen0 <;> rfl
          | true =>
            show (match elt ⟨sl, p⟩ with
              | some (.v x, p2) => (lcL slw ft test elt ds p2).map fun (r : List D × PenS) => (x :: r.1, r.2)
              | _ => none) = (match elt ⟨sl, q⟩ with
              | some (.v x, p2) => (lcL slw ft test elt ds p2).map fun (r : List D × PenS) => (x :: r.1, r.2)
              | _ => none).map (withP p)
            rw [h2 sl p, h2 sl q]
            cases he : elt ⟨sl, pen0⟩ with
            | none => rfl
            | some r =>
              obtain ⟨r, q2⟩ := r
              cases r with
              | x c ns es => rfl
              | v y =>
                show (lcL slw ft test elt ds p).map _ = ((lcL slw ft test elt ds q).map _).map _
                rw [lcL_pen h1 h2 ds p, lcL_pen h1 h2 ds q]
                cases lcL slw ft test elt ds pen0 <;> rfl
theorem pg_lc {vs : List Nat} {fi : FG (List D)} {ft : FT} {test : FG Bool} {elt : FG D} (h0 : Pg fi) (h1 : Pg test) (h2 : Pg elt) : Pg (lcG vs fi ft test elt) := by
  refine pg_bind h0 fun ds sl p => ?_
  dsimp only
  split
  · rfl
  · rw [lcL_pen h1 h2 ds p]
    cases lcL (wipeS sl vs) ft test elt ds pen0 with
    | none => rfl
    | some r =>
      obtain ⟨xs, q⟩ := r
      show (if xs.length ≤ 1000000 then _ else _) = (if xs.length ≤ 1000000 then _ else _ : Option (Rs D × PenS)).map _
      split <;> rfl
theorem pg_pairs : ∀ {fs : List (Key × FG D)}, (∀ f ∈ fs, Pg f.2) → Pg (pairsG fs)
  | [], _ => pg_ret
  | f :: fs, h => pg_bind (h f (.head _)) fun _ => pg_bind (pg_pairs fun g hg => h g (.tail _ hg)) fun _ => pg_ret
theorem pg_disp {fs : List (Key × FG D)} (h : ∀ f ∈ fs, Pg f.2) : Pg (dispG fs) := by
  refine pg_bind (pg_pairs h) fun ds => ?_
  split
  · exact pg_ret
  · exact pg_none
theorem ps_next : Ps nextS := fun _ _ => rfl
theorem ps_brk : Ps breakS := fun _ _ => rfl
theorem ps_cnt : Ps contS := fun _ _ => rfl
theorem ps_none : Ps (fun _ => none) := fun _ _ => rfl
theorem ps_seq {f g : FS} (h1 : Ps f) (h2 : Ps g) : Ps (seqS f g) := fun sl p => by
  unfold seqS
  rw [h1 sl p]
  cases hf : f ⟨sl, pen0⟩ with
  | none => rfl
  | some r =>
    obtain ⟨r, e⟩ := r
    cases r with
    | nx =>
      show g ⟨e.sl, p⟩ = (g e).map (withS p)
      rw [h2 e.sl p, show g e = _ from h2 e.sl e.pen]
      cases g ⟨e.sl, pen0⟩ <;> rfl
    | _ => rfl
theorem ps_then {f : FG α} {g : α → FS} (h1 : Pg f) (h2 : ∀ a, Ps (g a)) : Ps (thenS f g) := fun sl p => by
  unfold thenS
  rw [h1 sl p]
  cases hf : f ⟨sl, pen0⟩ with
  | none => rfl
  | some r =>
    obtain ⟨r, q⟩ := r
    cases r with
    | x c ns ds => rfl
    | v a =>
      show g a ⟨sl, p⟩ = (g a ⟨sl, q⟩).map (withS p)
      rw [h2 a sl p, h2 a sl q]
      cases g a ⟨sl, pen0⟩ <;> rfl
theorem ps_ite {c : Prop} [Decidable c] {f g : FS} (h1 : Ps f) (h2 : Ps g) : Ps (if c then f else g) := by
  split <;> assumption
theorem ps_ifS {c : FG Bool} {f g : FS} (h0 : Pg c) (h1 : Ps f) (h2 : Ps g) : Ps (ifS c f g) := ps_then h0 fun _ => ps_ite h1 h2
theorem ps_retS {f : FG D} (h : Pg f) : Ps (retS f) := ps_then h fun _ _ _ => rfl
theorem ps_dropS {f : FG D} (h : Pg f) : Ps (dropS f) := ps_then h fun _ _ _ => rfl
theorem ps_asgS {f : FG D} {t : FT} (h : Pg f) : Ps (asgS f t) := ps_then h fun d sl p => by
  dsimp only
  cases t d sl <;> rfl
theorem ps_asgO {f : FG D} {i : Nat} (h : Pg f) : Ps (asgO f i) := ps_then h fun d sl p => by
  dsimp only
  split <;> rfl
theorem ps_asgV {f : FG D} {t : FV} (h : Pg f) (ht : Pv t) : Ps (asgV f t) := ps_then h fun d sl p => by
  rw [ht d sl p]
  cases t d ⟨sl, pen0⟩ <;> rfl
theorem pv_name {i : Nat} : Pv (nameV i) := fun _ _ _ => rfl
theorem pv_nil : Pvs nilV := fun d sl p => by cases d <;> rfl
theorem pv_cons {f : FV} {g : FVs} (h1 : Pv f) (h2 : Pvs g) : Pvs (consV f g) := fun d sl p => by
  cases d with
  | nil => rfl
  | cons d r =>
    show (f d ⟨sl, p⟩).bind (g r) = ((f d ⟨sl, pen0⟩).bind (g r)).map _
    rw [h1 d sl p]
    cases f d ⟨sl, pen0⟩ with
    | none => rfl
    | some e =>
      show g r ⟨e.sl, p⟩ = (g r e).map _
      rw [h2 r e.sl p, show g r e = _ from h2 r e.sl e.pen]
      cases g r ⟨e.sl, pen0⟩ <;> rfl
theorem pv_tup {n : Nat} {f : FVs} (h : Pvs f) : Pv (tupV n f) := fun d sl p => by
  unfold tupV
  split
  · split
    · exact h _ sl p
    · rfl
  · split
    · exact h _ sl p
    · rfl
  · rfl
theorem ps_parS {i j : Nat} {f : FG (List D)} (h : Pg f) : Ps (parS i j f) := ps_then h fun d sl p => by
  dsimp only
  split <;> rfl
theorem ps_par3S {i j l : Nat} {f : FG (List D)} (h : Pg f) : Ps (par3S i j l f) := ps_then h fun d sl p => by
  dsimp only
  split <;> rfl
theorem ps_parOO {i j : Nat} {f g : FG D} (h1 : Pg f) (h2 : Pg g) : Ps (parOO i j f g) := ps_then h1 fun a => ps_then h2 fun b sl p => by
  dsimp only
  split <;> rfl
theorem ps_rel {i : Nat} {f : FS} (h : Ps f) : Ps (relS i f) := fun sl p => by
  unfold relS
  dsimp only
  split
  · exact h _ p
  · exact h _ p
  · rfl
theorem ownL_pen {i : Nat} {sl : List Slot} {p : PenS} : ownL i ⟨sl, p⟩ = ownL i ⟨sl, pen0⟩ := rfl
theorem ps_app {i : Nat} {f : FG D} (h : Pg f) : Ps (appS i f) := fun sl p => by
  unfold appS
  rw [ownL_pen]
  cases ownL i ⟨sl, pen0⟩ with
  | none => rfl
  | some ds =>
    rw [Option.bind_some, Option.bind_some]
    refine ps_then h (fun d sl p => ?_) sl p
    rw [ownL_pen]
    cases ownL i ⟨sl, pen0⟩ with
    | none => rfl
    | some ds =>
      show few ds _ = (few ds _).map _
      unfold few
      split <;> rfl
theorem ps_ext {i : Nat} {f : FG D} (h : Pg f) : Ps (extS i f) := fun sl p => by
  unfold extS
  rw [ownL_pen]
  cases ownL i ⟨sl, pen0⟩ with
  | none => rfl
  | some ds =>
    rw [Option.bind_some, Option.bind_some]
    refine ps_then h (fun d sl p => ?_) sl p
    dsimp only
    split
    · rw [ownL_pen]
      cases ownL i ⟨sl, pen0⟩ with
      | none => rfl
      | some ds =>
        show few _ _ = (few _ _).map _
        unfold few
        split <;> rfl
    · rw [ownL_pen]
      cases ownL i ⟨sl, pen0⟩ with
      | none => rfl
      | some ds =>
        show few _ _ = (few _ _).map _
        unfold few
        split <;> rfl
    · rfl
theorem ps_forL {ft : FT} {body : FS} (h : Ps body) : ∀ ds, Ps (forL ft body ds)
  | [] => fun _ _ => rfl
  | d :: ds => fun sl p => by
    unfold forL
    dsimp only
    split
    · rfl
    · next sl' hs =>
      rw [h sl' p]
      cases hb : body ⟨sl', pen0⟩ with
      | none => rfl
      | some r =>
        obtain ⟨r, e⟩ := r
        cases r with
        | nx =>
          show forL ft body ds ⟨e.sl, p⟩ = (forL ft body ds e).map (withS p)
          rw [ps_forL h ds e.sl p, show forL ft body ds e = _ from ps_forL h ds e.sl e.pen]
          cases forL ft body ds ⟨e.sl, pen0⟩ <;> rfl
        | ct =>
          show forL ft body ds ⟨e.sl, p⟩ = (forL ft body ds e).map (withS p)
          rw [ps_forL h ds e.sl p, show forL ft body ds e = _ from ps_forL h ds e.sl e.pen]
          cases forL ft body ds ⟨e.sl, pen0⟩ <;> rfl
        | _ => rfl
theorem ps_for {fi : FG (List D)} {ft : FT} {body : FS} (h0 : Pg fi) (h : Ps body) : Ps (forS fi ft body) := ps_then h0 fun ds => ps_forL h ds
end
/-- some slots forgotten: nothing runs -/
def wipS (vs : List Nat) (f : FS) : FS := fun e => f ⟨wipeS e.sl vs, e.pen⟩
theorem Rl.forget {G : Gm} {U : Hp} {pn : Pn} {e : Ev} {σ : L2.St} {H B : Hp} (r : Rl G U pn e σ H B) (i : Nat) : Rl G U pn ⟨e.sl.set i .u, e.pen⟩ σ H B := by
  have z := r.setU (w := (σ[i]?).getD none) i
  have e1 : σ.set i ((σ[i]?).getD none) = σ := by
    refine List.ext_getElem? fun j => ?_
    rw [List.getElem?_set]
    split
    · next h =>
      subst h
      split
      · next hl => rw [List.getElem?_eq_getElem hl]; rfl
      · next hl => rw [List.getElem?_eq_none (by omega)]
    · rfl
  rw [e1] at z
  exact z
theorem cs_wip {G : Gm} {pn : Pn} {E : XK} {t : TS} {f : FS} (vs : List Nat) (h : CS G pn E t f) : CS G pn E t (wipS vs f) := by
  intro U e σ H B r e' Dn rl hf post
  have : ∀ vs : List Nat, Rl G U pn ⟨wipeS e.sl vs, e.pen⟩ σ H B := by
    intro vs
    induction vs with
    | nil => exact rl
    | cons v vs ih => exact ih.forget v
  exact h U _ σ H B r e' Dn (this vs) hf post
end Fw

set_option linter.all false
set_option maxRecDepth 100000
set_option maxHeartbeats 4000000
/-! comprehensions and loops over encoded lists -/
namespace Fw
open PySem PySem.Spec PyProof.Rows L2
section
variable {α β σ : Type} {sl : List Slot} {p : PenS}
theorem lcL_of {slw : List Slot} {ft : FT} {test : FG Bool} {elt : FG D} {e : α → D} {t : α → Bool} {g : α → D} {p : PenS} : ∀ (xs : List α),
    (∀ x ∈ xs, ∃ sl, ft (e x) slw = some sl ∧ test ⟨sl, p⟩ = some (.v (t x), p) ∧ (t x = true → elt ⟨sl, p⟩ = some (.v (g x), p))) →
    lcL slw ft test elt (xs.map e) p = some ((xs.filter t).map g, p)
  | [], _ => rfl
  | x :: xs, h => by
    obtain ⟨sl, h1, h2, h3⟩ := h x (.head _)
    have ih := lcL_of xs fun y hy => h y (.tail _ hy)
    rw [List.map_cons]
    unfold lcL
    rw [h1]
    dsimp only
    rw [h2]
    cases ht : t x with
    | true =>
      dsimp only
      rw [h3 ht]
      dsimp only
      rw [ih, List.filter_cons_of_pos ht]
      rfl
    | false =>
      dsimp only
      rw [ih, List.filter_cons_of_neg (by rw [ht]; exact Bool.false_ne_true)]
theorem lcG_of {vs : List Nat} {fi : FG (List D)} {ft : FT} {test : FG Bool} {elt : FG D} {e : α → D} {t : α → Bool} {g : α → D} {xs : List α} (hi : fi ⟨sl, p⟩ = some (.v (xs.map e), p)) (ho : vs.any (fun v => isO sl[v]?) = false) (hl : xs.length ≤ 1000000)
    (h : ∀ x ∈ xs, ∃ sl', ft (e x) (wipeS sl vs) = some sl' ∧ test ⟨sl', p⟩ = some (.v (t x), p) ∧ (t x = true → elt ⟨sl', p⟩ = some (.v (g x), p))) :
    lcG vs fi ft test elt ⟨sl, p⟩ = some (.v (.list ((xs.filter t).map g)), p) := by
  unfold lcG Fw.bindG
  rw [hi]
  dsimp only
  rw [if_neg (by rw [ho]; exact Bool.false_ne_true), lcL_of xs h]
  dsimp only
  rw [if_pos]
  rw [List.length_map]
  exact Nat.le_trans (List.length_filter_le _ _) hl
theorem lcG_all {vs : List Nat} {fi : FG (List D)} {ft : FT} {elt : FG D} {e : α → D} {g : α → D} {xs : List α} (hi : fi ⟨sl, p⟩ = some (.v (xs.map e), p)) (ho : vs.any (fun v => isO sl[v]?) = false) (hl : xs.length ≤ 1000000)
    (h : ∀ x ∈ xs, ∃ sl', ft (e x) (wipeS sl vs) = some sl' ∧ elt ⟨sl', p⟩ = some (.v (g x), p)) :
    lcG vs fi ft (retG true) elt ⟨sl, p⟩ = some (.v (.list (xs.map g)), p) := by
  have z := lcG_of (t := fun _ => true) (test := retG true) (elt := elt) (g := g) hi ho hl fun x hx => by
    obtain ⟨sl', h1, h2⟩ := h x hx
    exact ⟨sl', h1, rfl, fun _ => h2⟩
  rw [List.filter_eq_self.mpr (fun _ _ => rfl)] at z
  exact z
/-- a loop that always goes on: its slots by a state; P: what holds of what is left and the state -/
theorem forL_of {ft : FT} {body : FS} {e : α → D} {sl : σ → List Slot} {step : σ → α → σ} (P : List α → σ → Prop) (h : ∀ x xs s, P (x :: xs) s → P xs (step s x) ∧ ∃ sl1, ft (e x) (sl s) = some sl1 ∧ (body ⟨sl1, p⟩ = some (.nx, ⟨sl (step s x), p⟩) ∨ body ⟨sl1, p⟩ = some (.ct, ⟨sl (step s x), p⟩))) :
    ∀ (xs : List α) (s : σ), P xs s → forL ft body (xs.map e) ⟨sl s, p⟩ = some (.nx, ⟨sl (xs.foldl step s), p⟩)
  | [], s, _ => rfl
  | x :: xs, s, h0 => by
    obtain ⟨hp, sl1, h1, h2⟩ := h x xs s h0
    have ih := forL_of P h xs (step s x) hp
    rw [List.map_cons]
    unfold forL
    dsimp only
    rw [h1]
    dsimp only
    rcases h2 with h2 | h2 <;> rw [h2] <;> exact ih
theorem forS_of {fi : FG (List D)} {ft : FT} {body : FS} {e : α → D} {sl : σ → List Slot} {step : σ → α → σ} {xs : List α} {s : σ} (P : List α → σ → Prop) (hi : fi ⟨sl s, p⟩ = some (.v (xs.map e), p)) (h0 : P xs s)
    (h : ∀ x xs s, P (x :: xs) s → P xs (step s x) ∧ ∃ sl1, ft (e x) (sl s) = some sl1 ∧ (body ⟨sl1, p⟩ = some (.nx, ⟨sl (step s x), p⟩) ∨ body ⟨sl1, p⟩ = some (.ct, ⟨sl (step s x), p⟩))) :
    forS fi ft body ⟨sl s, p⟩ = some (.nx, ⟨sl (xs.foldl step s), p⟩) := by
  unfold forS thenS
  rw [hi]
  exact forL_of P h xs s h0
theorem callN_at {n : Nat} {F : FF} {f : FG (List D)} {ds : List D} {x : D} (hf : f ⟨sl, p⟩ = some (.v ds, p)) (hn : ds.length = n) (hF : ∀ p, F ds p = some (.v x, p)) : callN n F f ⟨sl, p⟩ = some (.v x, p) := by
  unfold callN Fw.bindG; rw [hf]; dsimp only; rw [if_pos hn, hF]
theorem callX_at {n : Nat} {F : FF} {f : FG (List D)} {ds : List D} {x : D} (hf : f ⟨sl, p⟩ = some (.v ds, p)) (hn : ds.length = n) (hF : ∀ p, F ds p = some (.v x, p)) : callX n F f ⟨sl, p⟩ = some (.v x, p) := by
  unfold callX Fw.bindG; rw [hf]; dsimp only; rw [if_pos hn, hF]
theorem op1_at {f : FG D} {φ : D → Option D} {a c : D} (hf : f ⟨sl, p⟩ = some (.v a, p)) (h : φ a = some c) : op1 φ f ⟨sl, p⟩ = some (.v c, p) := by
  unfold op1 Fw.bindG; rw [hf]; dsimp only; unfold optG; rw [h]; rfl
theorem op2_p {f g : FG D} {φ : D → D → Option D} {a b c : D} (hf : f ⟨sl, p⟩ = some (.v a, p)) (hg : g ⟨sl, p⟩ = some (.v b, p)) (h : φ a b = some c) : op2 φ f g ⟨sl, p⟩ = some (.v c, p) := op2_at hf hg h
theorem test_at {f : FG D} {b : Bool} (hf : f ⟨sl, p⟩ = some (.v (.bool b), p)) : testG f ⟨sl, p⟩ = some (.v b, p) := by
  unfold testG Fw.bindG; rw [hf]; rfl
theorem if_at {c : FG Bool} {f g : FS} {b : Bool} {r : Option (Fl × Ev)} (hc : c ⟨sl, p⟩ = some (.v b, p)) (h1 : b = true → f ⟨sl, p⟩ = r) (h2 : b = false → g ⟨sl, p⟩ = r) : ifS c f g ⟨sl, p⟩ = r := by
  unfold ifS thenS; rw [hc]; dsimp only
  cases b with
  | true => exact h1 rfl
  | false => exact h2 rfl
theorem seqI_at {f : FG D} {d : D} {ds : List D} (hf : f ⟨sl, p⟩ = some (.v d, p)) (h : seqD d = some ds) : seqI f ⟨sl, p⟩ = some (.v ds, p) := by
  unfold seqI Fw.bindG; rw [hf]; dsimp only; unfold optG; rw [h]; rfl
theorem ofFl_rt {f : FS} {e e' : Ev} {d : D} (h : f e = some (.rt d, e')) : ofFl (f e) = some (.v d, e'.pen) := by rw [h]; rfl
end
/-! ### pairs of ints -/
open PySem.W (Datum DatumOrd)
/-- a cell, a pair of cells -/
abbrev cd (c : I2) : D := Datum.toD c
abbrev cd2 (c : I2 × I2) : D := Datum.toD c
theorem cd_eq (c : I2) : cd c = .tuple [.int c.1, .int c.2] := rfl
section
variable {α : Type} {e : α → D}
/-- data that is plain -/
structure PlainE (e : α → D) : Prop where
  nrm : ∀ x, nrm (e x) = e x
  ok : ∀ x, okD (e x) = true
theorem nrmA_map (h : PlainE e) : ∀ xs : List α, nrmA (xs.map e) = xs.map e
  | [] => rfl
  | x :: xs => by
    show nrm (e x) :: nrmA (xs.map e) = _
    rw [h.nrm, nrmA_map h xs]
    rfl
theorem fits_many {kvs : List (D × D)} {ks : List Key} : fits kvs (.many ks) = kvs.all fun p => isMany p.1 := rfl
end
/-- a dict of cells that says True of each -/
def setD (l : List I2) : D := .dict (l.map fun c => (cd c, .bool true))
theorem kk_cd (c : I2) : kkOf (cd c) = some (.many [.inl c.1, .inl c.2]) := rfl
theorem kEq_cd (a b : I2) : kEq (cd a) (cd b) = decide (a = b) := by
  show (decide (a.1 = b.1) && (decide (a.2 = b.2) && true)) = _
  rw [Bool.and_true, ← Bool.decide_and]
  exact decide_eq_decide.mpr ⟨fun h => Prod.ext h.1 h.2, fun h => by rw [h]; exact ⟨rfl, rfl⟩⟩
theorem fits_set (l : List I2) (ks : List Key) : fits (l.map fun c => (cd c, PyData.bool true)) (.many ks) = true := by
  show (l.map fun c => (cd c, PyData.bool true)).all (fun p => isMany p.1) = true
  rw [List.all_map]
  exact List.all_eq_true.mpr fun _ _ => rfl
theorem getD_set (c : I2) : ∀ l : List I2, (getD' (l.map fun c => (cd c, PyData.bool true)) (cd c)).isSome = decide (c ∈ l)
  | [] => by simp [getD']
  | b :: l => by
    have ih := getD_set c l
    unfold getD' at ih ⊢
    rw [List.map_cons, List.find?_cons]
    dsimp only
    rw [kEq_cd]
    by_cases h : b = c
    · rw [decide_eq_true h, h]
      simp
    · rw [decide_eq_false h]
      dsimp only
      rw [ih]
      exact decide_eq_decide.mpr ⟨fun m => .tail _ m, fun m => by cases m with | head => exact absurd rfl h | tail _ m => exact m⟩
theorem dIn_set (c : I2) (l : List I2) : dInU (cd c) (setD l) = some (.bool (decide (c ∈ l))) := by
  have e1 : dIn (cd c) (setD l) = none := by
    match l with
    | [] => rfl
    | [b] => rfl
    | _ :: _ :: _ => rfl
  unfold dInU
  rw [e1]
  show (dAt (setD l) (cd c)).map _ = _
  unfold dAt setD
  dsimp only
  rw [kk_cd]
  dsimp only [Option.bind_some]
  rw [if_pos (fits_set l _)]
  show some (PyData.bool _) = _
  rw [getD_set]
theorem put_set (c : I2) (l : List I2) : putD (l.map fun c => (cd c, PyData.bool true)) (cd c) (.bool true) = (if c ∈ l then l else l ++ [c]).map fun c => (cd c, PyData.bool true) := by
  unfold putD
  have e1 : (l.map fun c => (cd c, PyData.bool true)).any (fun p => kEq p.1 (cd c)) = decide (c ∈ l) := by
    rw [List.any_map]
    have : ((fun p : D × D => kEq p.1 (cd c)) ∘ fun c => (cd c, PyData.bool true)) = fun b => decide (b = c) := funext fun b => kEq_cd b c
    rw [this, Bool.eq_iff_iff, List.any_eq_true, decide_eq_true_eq]
    exact ⟨fun ⟨x, hx, h⟩ => (of_decide_eq_true h) ▸ hx, fun h => ⟨c, h, decide_eq_true rfl⟩⟩
  rw [e1]
  by_cases h : c ∈ l
  · rw [if_pos (decide_eq_true h), if_pos h, List.map_map]
    apply List.map_congr_left
    intro b _
    show (if kEq (cd b) (cd c) = true then (cd b, PyData.bool true) else (cd b, PyData.bool true)) = _
    split <;> rfl
  · rw [if_neg (by rw [decide_eq_false h]; exact Bool.false_ne_true), if_neg h, List.map_append]
    rfl
end Fw

set_option linter.all false
set_option maxRecDepth 100000
set_option maxHeartbeats 8000000
namespace Sb
open PySem PySem.Spec PyProof.Rows L2 Fw
inductive Kd where
  | wire | up | down | copy | or | xor | but
def Kd.nm : Kd → Str
  | .wire => "wire"
  | .up => "up"
  | .down => "down"
  | .copy => "copy"
  | .or => "or"
  | .xor => "xor"
  | .but => "but"
def Kd.rise : Kd → Int
  | .up => 1
  | _ => 0
def Kd.ins : Kd → List Int
  | .wire => [0]
  | .up => [1]
  | .down => [0]
  | .copy => [0]
  | .or => [0, 1]
  | .xor => [0, 1]
  | .but => [0, 1]
def Kd.outs : Kd → List Int
  | .wire => [0]
  | .up => [0]
  | .down => [1]
  | .copy => [0, 1]
  | .or => [0]
  | .xor => [0]
  | .but => [0]
/-- the cells ahead of the out ports -/
def Kd.ini : Kd → List I2
  | .wire => [(0, 0), (1, 0), (2, 0), (3, 0), (4, 0), (5, 0), (6, 0), (7, 0), (8, 0), (9, 0), (10, 0), (11, 0), (12, 0), (13, 0), (14, 0), (15, 0), (16, 0), (17, 0), (18, 0)]
  | .up => [(0, 8), (1, 8), (2, 8), (3, 8), (4, 8), (5, 8), (6, 7), (7, 6), (8, 5), (9, 4), (10, 3), (11, 2), (12, 1), (13, 0), (14, 0), (15, 0), (16, 0), (17, 0), (18, 0)]
  | .down => [(0, 0), (1, 0), (2, 0), (3, 0), (4, 0), (5, 0), (6, 1), (7, 2), (8, 3), (9, 4), (10, 5), (11, 6), (12, 7), (13, 8), (14, 8), (15, 8), (16, 8), (17, 8), (18, 8)]
  | .copy => [(0, 0), (1, 0), (2, 0), (3, 0), (4, 0), (5, -1), (5, 1), (6, -1), (6, 2), (7, 0), (7, 3), (8, 0), (8, 4), (9, 0), (9, 5), (10, 0), (10, 6), (11, 0), (11, 7), (12, 0), (12, 8), (13, 0), (13, 8), (14, 0), (14, 8), (15, 0), (15, 8), (16, 0), (16, 8), (17, 0), (17, 8), (18, 0), (18, 8)]
  | .or => [(0, 0), (0, 8), (1, 0), (1, 8), (2, 1), (2, 7), (3, 2), (3, 6), (4, 2), (4, 6), (5, 1), (5, 2), (5, 3), (5, 5), (5, 6), (5, 7), (6, 1), (6, 3), (6, 5), (6, 7), (7, 2), (7, 6), (8, 3), (8, 5), (9, 4), (10, 4), (11, 3), (12, 2), (13, 1), (14, 0), (15, 0), (16, 0), (17, 0), (18, 0)]
  | .xor => [(0, 0), (0, 8), (1, 0), (1, 8), (2, 1), (2, 7), (3, 2), (3, 6), (4, 2), (4, 6), (5, 1), (5, 2), (5, 3), (5, 5), (5, 6), (5, 7), (6, 1), (6, 3), (6, 5), (6, 7), (7, 2), (7, 6), (8, 3), (8, 5), (9, 3), (9, 4), (9, 5), (10, 4), (11, 3), (12, 2), (13, 1), (14, 0), (15, 0), (16, 0), (17, 0), (18, 0)]
  | .but => [(0, 0), (0, 8), (1, 0), (1, 8), (2, 0), (2, 7), (3, 0), (3, 6), (4, 1), (4, 5), (5, 1), (5, 5), (6, 0), (6, 1), (6, 2), (6, 4), (6, 5), (6, 6), (7, 0), (7, 2), (7, 4), (7, 6), (8, 1), (8, 5), (9, 2), (9, 5), (10, 3), (10, 5), (11, 4), (11, 5), (11, 6), (12, 5), (13, 4), (14, 3), (15, 2), (16, 1), (17, 0), (18, 0)]
def Kd.tl : Kd → List I2
  | .wire => [(1, 0), (2, 0), (3, 0), (4, 0), (5, 0), (6, 0), (7, 0), (8, 0), (9, 0), (10, 0), (11, 0), (12, 0), (13, 0), (14, 0), (15, 0), (16, 0), (17, 0), (18, 0), (19, 0)]
  | .up => [(1, 8), (2, 8), (3, 8), (4, 8), (5, 8), (6, 7), (7, 6), (8, 5), (9, 4), (10, 3), (11, 2), (12, 1), (13, 0), (14, 0), (15, 0), (16, 0), (17, 0), (18, 0), (19, 0)]
  | .down => [(1, 0), (2, 0), (3, 0), (4, 0), (5, 0), (6, 1), (7, 2), (8, 3), (9, 4), (10, 5), (11, 6), (12, 7), (13, 8), (14, 8), (15, 8), (16, 8), (17, 8), (18, 8), (19, 8)]
  | .copy => [(1, 0), (2, 0), (3, 0), (4, 0), (5, -1), (5, 1), (6, -1), (6, 2), (7, 0), (7, 3), (8, 0), (8, 4), (9, 0), (9, 5), (10, 0), (10, 6), (11, 0), (11, 7), (12, 0), (12, 8), (13, 0), (13, 8), (14, 0), (14, 8), (15, 0), (15, 8), (16, 0), (16, 8), (17, 0), (17, 8), (18, 0), (18, 8), (19, 0), (19, 8)]
  | .or => [(1, 0), (1, 8), (2, 1), (2, 7), (3, 2), (3, 6), (4, 2), (4, 6), (5, 1), (5, 2), (5, 3), (5, 5), (5, 6), (5, 7), (6, 1), (6, 3), (6, 5), (6, 7), (7, 2), (7, 6), (8, 3), (8, 5), (9, 4), (10, 4), (11, 3), (12, 2), (13, 1), (14, 0), (15, 0), (16, 0), (17, 0), (18, 0), (19, 0)]
  | .xor => [(1, 0), (1, 8), (2, 1), (2, 7), (3, 2), (3, 6), (4, 2), (4, 6), (5, 1), (5, 2), (5, 3), (5, 5), (5, 6), (5, 7), (6, 1), (6, 3), (6, 5), (6, 7), (7, 2), (7, 6), (8, 3), (8, 5), (9, 3), (9, 4), (9, 5), (10, 4), (11, 3), (12, 2), (13, 1), (14, 0), (15, 0), (16, 0), (17, 0), (18, 0), (19, 0)]
  | .but => [(1, 0), (1, 8), (2, 0), (2, 7), (3, 0), (3, 6), (4, 1), (4, 5), (5, 1), (5, 5), (6, 0), (6, 1), (6, 2), (6, 4), (6, 5), (6, 6), (7, 0), (7, 2), (7, 4), (7, 6), (8, 1), (8, 5), (9, 2), (9, 5), (10, 3), (10, 5), (11, 4), (11, 5), (11, 6), (12, 5), (13, 4), (14, 3), (15, 2), (16, 1), (17, 0), (18, 0), (19, 0)]
def Kd.shape (k : Kd) : List I2 := k.ini ++ k.outs.map fun o => (19, 8 * o)
theorem shape_in : ∀ k : Kd, k.shape = k.ins.map (fun i => ((0, 8 * i) : I2)) ++ k.tl := by intro k; cases k <;> decide +kernel
theorem ini_x : ∀ k : Kd, ∀ c ∈ k.ini, c.1 ≤ 18 := by intro k; cases k <;> decide +kernel
theorem tl_x : ∀ k : Kd, ∀ c ∈ k.tl, 1 ≤ c.1 := by intro k; cases k <;> decide +kernel
theorem shape_x : ∀ k : Kd, ∀ c ∈ k.shape, 0 ≤ c.1 ∧ c.1 ≤ 19 ∧ -1 ≤ c.2 ∧ c.2 ≤ 9 := by intro k; cases k <;> decide +kernel
theorem wire_y : ∀ c ∈ Kd.wire.shape, c.2 = 0 := by decide +kernel
theorem shape_len : ∀ k : Kd, k.shape.length ≤ 100 := by intro k; cases k <;> decide +kernel
theorem ins_01 : ∀ k : Kd, ∀ i ∈ k.ins, 0 ≤ i ∧ i ≤ 1 := by intro k; cases k <;> decide +kernel
theorem outs_01 : ∀ k : Kd, ∀ i ∈ k.outs, 0 ≤ i ∧ i ≤ 1 := by intro k; cases k <;> decide +kernel
def kdsD : List D := [.str "wire", .str "up", .str "down", .str "copy", .str "or", .str "xor", .str "but"]
theorem kd_of {d : D} (h : d ∈ kdsD) : ∃ k : Kd, d = .str k.nm := by
  simp only [kdsD, List.mem_cons, List.not_mem_nil, or_false] at h
  rcases h with rfl | rfl | rfl | rfl | rfl | rfl | rfl
  · exact ⟨.wire, rfl⟩
  · exact ⟨.up, rfl⟩
  · exact ⟨.down, rfl⟩
  · exact ⟨.copy, rfl⟩
  · exact ⟨.or, rfl⟩
  · exact ⟨.xor, rfl⟩
  · exact ⟨.but, rfl⟩
/-! ### what the defs say of each kind -/
def intL (ns : List Int) : List D := ns.map PyData.int
def cellL (cs : List I2) : List D := cs.map cd
theorem v_tile_cells_wire (p : PenS) : defF false 8 F_tile_cells [.str "wire"] p = some (.v (.tuple (cellL Kd.wire.shape)), p) := by kernel_rfl
theorem v_tile_cells_up (p : PenS) : defF false 8 F_tile_cells [.str "up"] p = some (.v (.tuple (cellL Kd.up.shape)), p) := by kernel_rfl
theorem v_tile_cells_down (p : PenS) : defF false 8 F_tile_cells [.str "down"] p = some (.v (.tuple (cellL Kd.down.shape)), p) := by kernel_rfl
theorem v_tile_cells_copy (p : PenS) : defF false 8 F_tile_cells [.str "copy"] p = some (.v (.tuple (cellL Kd.copy.shape)), p) := by kernel_rfl
theorem v_tile_cells_or (p : PenS) : defF false 8 F_tile_cells [.str "or"] p = some (.v (.tuple (cellL Kd.or.shape)), p) := by kernel_rfl
theorem v_tile_cells_xor (p : PenS) : defF false 8 F_tile_cells [.str "xor"] p = some (.v (.tuple (cellL Kd.xor.shape)), p) := by kernel_rfl
theorem v_tile_cells_but (p : PenS) : defF false 8 F_tile_cells [.str "but"] p = some (.v (.tuple (cellL Kd.but.shape)), p) := by kernel_rfl
theorem v_tile_cells (k : Kd) (p : PenS) : defF false 8 F_tile_cells [.str k.nm] p = some (.v (.tuple (cellL k.shape)), p) := by
  cases k
  · exact v_tile_cells_wire p
  · exact v_tile_cells_up p
  · exact v_tile_cells_down p
  · exact v_tile_cells_copy p
  · exact v_tile_cells_or p
  · exact v_tile_cells_xor p
  · exact v_tile_cells_but p
theorem v_law_shape_wire (p : PenS) : defF false 2 F__law_shape [.str "wire"] p = some (.v (.tuple (cellL Kd.wire.shape)), p) := by kernel_rfl
theorem v_law_shape_up (p : PenS) : defF false 2 F__law_shape [.str "up"] p = some (.v (.tuple (cellL Kd.up.shape)), p) := by kernel_rfl
theorem v_law_shape_down (p : PenS) : defF false 2 F__law_shape [.str "down"] p = some (.v (.tuple (cellL Kd.down.shape)), p) := by kernel_rfl
theorem v_law_shape_copy (p : PenS) : defF false 2 F__law_shape [.str "copy"] p = some (.v (.tuple (cellL Kd.copy.shape)), p) := by kernel_rfl
theorem v_law_shape_or (p : PenS) : defF false 2 F__law_shape [.str "or"] p = some (.v (.tuple (cellL Kd.or.shape)), p) := by kernel_rfl
theorem v_law_shape_xor (p : PenS) : defF false 2 F__law_shape [.str "xor"] p = some (.v (.tuple (cellL Kd.xor.shape)), p) := by kernel_rfl
theorem v_law_shape_but (p : PenS) : defF false 2 F__law_shape [.str "but"] p = some (.v (.tuple (cellL Kd.but.shape)), p) := by kernel_rfl
theorem v_law_shape (k : Kd) (p : PenS) : defF false 2 F__law_shape [.str k.nm] p = some (.v (.tuple (cellL k.shape)), p) := by
  cases k
  · exact v_law_shape_wire p
  · exact v_law_shape_up p
  · exact v_law_shape_down p
  · exact v_law_shape_copy p
  · exact v_law_shape_or p
  · exact v_law_shape_xor p
  · exact v_law_shape_but p
theorem v_ins_of_wire (p : PenS) : defF false 1 F_ins_of [.str "wire"] p = some (.v (kD (intL Kd.wire.ins)), p) := by kernel_rfl
theorem v_ins_of_up (p : PenS) : defF false 1 F_ins_of [.str "up"] p = some (.v (kD (intL Kd.up.ins)), p) := by kernel_rfl
theorem v_ins_of_down (p : PenS) : defF false 1 F_ins_of [.str "down"] p = some (.v (kD (intL Kd.down.ins)), p) := by kernel_rfl
theorem v_ins_of_copy (p : PenS) : defF false 1 F_ins_of [.str "copy"] p = some (.v (kD (intL Kd.copy.ins)), p) := by kernel_rfl
theorem v_ins_of_or (p : PenS) : defF false 1 F_ins_of [.str "or"] p = some (.v (kD (intL Kd.or.ins)), p) := by kernel_rfl
theorem v_ins_of_xor (p : PenS) : defF false 1 F_ins_of [.str "xor"] p = some (.v (kD (intL Kd.xor.ins)), p) := by kernel_rfl
theorem v_ins_of_but (p : PenS) : defF false 1 F_ins_of [.str "but"] p = some (.v (kD (intL Kd.but.ins)), p) := by kernel_rfl
theorem v_ins_of (k : Kd) (p : PenS) : defF false 1 F_ins_of [.str k.nm] p = some (.v (kD (intL k.ins)), p) := by
  cases k
  · exact v_ins_of_wire p
  · exact v_ins_of_up p
  · exact v_ins_of_down p
  · exact v_ins_of_copy p
  · exact v_ins_of_or p
  · exact v_ins_of_xor p
  · exact v_ins_of_but p
theorem v_outs_of_wire (p : PenS) : defF false 1 F_outs_of [.str "wire"] p = some (.v (kD (intL Kd.wire.outs)), p) := by kernel_rfl
theorem v_outs_of_up (p : PenS) : defF false 1 F_outs_of [.str "up"] p = some (.v (kD (intL Kd.up.outs)), p) := by kernel_rfl
theorem v_outs_of_down (p : PenS) : defF false 1 F_outs_of [.str "down"] p = some (.v (kD (intL Kd.down.outs)), p) := by kernel_rfl
theorem v_outs_of_copy (p : PenS) : defF false 1 F_outs_of [.str "copy"] p = some (.v (kD (intL Kd.copy.outs)), p) := by kernel_rfl
theorem v_outs_of_or (p : PenS) : defF false 1 F_outs_of [.str "or"] p = some (.v (kD (intL Kd.or.outs)), p) := by kernel_rfl
theorem v_outs_of_xor (p : PenS) : defF false 1 F_outs_of [.str "xor"] p = some (.v (kD (intL Kd.xor.outs)), p) := by kernel_rfl
theorem v_outs_of_but (p : PenS) : defF false 1 F_outs_of [.str "but"] p = some (.v (kD (intL Kd.but.outs)), p) := by kernel_rfl
theorem v_outs_of (k : Kd) (p : PenS) : defF false 1 F_outs_of [.str k.nm] p = some (.v (kD (intL k.outs)), p) := by
  cases k
  · exact v_outs_of_wire p
  · exact v_outs_of_up p
  · exact v_outs_of_down p
  · exact v_outs_of_copy p
  · exact v_outs_of_or p
  · exact v_outs_of_xor p
  · exact v_outs_of_but p
theorem v_law_ins_wire (p : PenS) : defF false 1 F__law_ins [.str "wire"] p = some (.v (.tuple (intL Kd.wire.ins)), p) := by kernel_rfl
theorem v_law_ins_up (p : PenS) : defF false 1 F__law_ins [.str "up"] p = some (.v (.tuple (intL Kd.up.ins)), p) := by kernel_rfl
theorem v_law_ins_down (p : PenS) : defF false 1 F__law_ins [.str "down"] p = some (.v (.tuple (intL Kd.down.ins)), p) := by kernel_rfl
theorem v_law_ins_copy (p : PenS) : defF false 1 F__law_ins [.str "copy"] p = some (.v (.tuple (intL Kd.copy.ins)), p) := by kernel_rfl
theorem v_law_ins_or (p : PenS) : defF false 1 F__law_ins [.str "or"] p = some (.v (.tuple (intL Kd.or.ins)), p) := by kernel_rfl
theorem v_law_ins_xor (p : PenS) : defF false 1 F__law_ins [.str "xor"] p = some (.v (.tuple (intL Kd.xor.ins)), p) := by kernel_rfl
theorem v_law_ins_but (p : PenS) : defF false 1 F__law_ins [.str "but"] p = some (.v (.tuple (intL Kd.but.ins)), p) := by kernel_rfl
theorem v_law_ins (k : Kd) (p : PenS) : defF false 1 F__law_ins [.str k.nm] p = some (.v (.tuple (intL k.ins)), p) := by
  cases k
  · exact v_law_ins_wire p
  · exact v_law_ins_up p
  · exact v_law_ins_down p
  · exact v_law_ins_copy p
  · exact v_law_ins_or p
  · exact v_law_ins_xor p
  · exact v_law_ins_but p
theorem v_law_outs_wire (p : PenS) : defF false 1 F__law_outs [.str "wire"] p = some (.v (.tuple (intL Kd.wire.outs)), p) := by kernel_rfl
theorem v_law_outs_up (p : PenS) : defF false 1 F__law_outs [.str "up"] p = some (.v (.tuple (intL Kd.up.outs)), p) := by kernel_rfl
theorem v_law_outs_down (p : PenS) : defF false 1 F__law_outs [.str "down"] p = some (.v (.tuple (intL Kd.down.outs)), p) := by kernel_rfl
theorem v_law_outs_copy (p : PenS) : defF false 1 F__law_outs [.str "copy"] p = some (.v (.tuple (intL Kd.copy.outs)), p) := by kernel_rfl
theorem v_law_outs_or (p : PenS) : defF false 1 F__law_outs [.str "or"] p = some (.v (.tuple (intL Kd.or.outs)), p) := by kernel_rfl
theorem v_law_outs_xor (p : PenS) : defF false 1 F__law_outs [.str "xor"] p = some (.v (.tuple (intL Kd.xor.outs)), p) := by kernel_rfl
theorem v_law_outs_but (p : PenS) : defF false 1 F__law_outs [.str "but"] p = some (.v (.tuple (intL Kd.but.outs)), p) := by kernel_rfl
theorem v_law_outs (k : Kd) (p : PenS) : defF false 1 F__law_outs [.str k.nm] p = some (.v (.tuple (intL k.outs)), p) := by
  cases k
  · exact v_law_outs_wire p
  · exact v_law_outs_up p
  · exact v_law_outs_down p
  · exact v_law_outs_copy p
  · exact v_law_outs_or p
  · exact v_law_outs_xor p
  · exact v_law_outs_but p
end Sb

set_option linter.all false
set_option maxRecDepth 100000
set_option maxHeartbeats 8000000
namespace Sb
open PySem PySem.Spec PyProof.Rows L2 Fw
open PySem.W (Datum DatumOrd)
def tile (k : Kd) (r : Int) : D := .tuple [.str k.nm, .int r]
def sh (x y : Int) (c : I2) : I2 := (c.1 + x, c.2 + y)
def upr (k : Kd) (r : Int) : Int := r - k.rise
def at_ (k : Kd) (r x : Int) : List I2 := k.shape.map (sh x (8 * upr k r))
theorem small8 (i : Int) : dMulU (.int 8) (.int i) = some (.int (8 * i)) := by
  show (if (small 8 || small i) = true then some (PyData.int (8 * i)) else none) = _
  rw [if_pos (by rw [show small 8 = true by decide]; rfl)]
instance (k : Kd) : Decidable (k = Kd.wire) := by cases k <;> first | exact isTrue rfl | exact isFalse (by intro h; cases h)
theorem up_eq (k : Kd) : dEq (.str k.nm) (.str "up") = some (.bool (decide (k.rise = 1))) := by cases k <;> kernel_rfl
theorem wire_eq (k : Kd) : dEq (.str k.nm) (.str "wire") = some (.bool (decide (k = .wire))) := by cases k <;> first | kernel_rfl | (rw [decide_eq_false (by intro h; cases h)]; kernel_rfl) | (rw [decide_eq_true rfl]; kernel_rfl)
theorem rise_01 (k : Kd) : k.rise = 0 ∨ k.rise = 1 := by cases k <;> simp [Kd.rise]
theorem v_upper (k : Kd) (r : Int) (p : PenS) : defF false 3 F_upper [tile k r] p = some (.v (.int (upr k r)), p) := by
  have h : F_upper ⟨[.d (tile k r), .u, .u], p⟩ = some (.rt (.int (upr k r)), ⟨[.d (tile k r), .d (.str k.nm), .d (.int r)], p⟩) := by
    unfold F_upper
    refine seq_at (e1 := ⟨[.d (tile k r), .d (.str k.nm), .d (.int r)], p⟩) rfl ?_
    refine ret_at ?_
    unfold ifG Fw.bindG
    rw [test_at (op2_p (a := .str k.nm) (b := .str "up") rfl rfl (up_eq k))]
    dsimp only
    unfold upr
    rcases rise_01 k with e | e
    · rw [e, Int.sub_zero]; rfl
    · rw [e]; rfl
  exact ofFl_rt h
theorem v_law_upper (k : Kd) (r : Int) (p : PenS) : defF false 1 F__law_upper [tile k r] p = some (.v (.int (upr k r)), p) := by
  have h : F__law_upper ⟨[.d (tile k r)], p⟩ = some (.rt (.int (upr k r)), ⟨[.d (tile k r)], p⟩) := by
    unfold F__law_upper
    refine ret_at (op2_p (a := .int r) (b := .int k.rise) rfl ?_ rfl)
    refine op1_at (op2_p (a := .str k.nm) (b := .str "up") rfl rfl (up_eq k)) ?_
    rcases rise_01 k with e | e <;> rw [e] <;> rfl
  exact ofFl_rt h
def rowsL (k : Kd) (r : Int) : List Int := if k = .wire then [upr k r] else [upr k r, upr k r + 1]
theorem v_rows_of (k : Kd) (r : Int) (p : PenS) : defF false 2 F_rows_of [tile k r] p = some (.v (.tuple (intL (rowsL k r))), p) := by
  have h : F_rows_of ⟨[.d (tile k r), .u], p⟩ = some (.rt (.tuple (intL (rowsL k r))), ⟨[.d (tile k r), .d (.int (upr k r))], p⟩) := by
    unfold F_rows_of
    refine seq_at (e1 := ⟨[.d (tile k r), .d (.int (upr k r))], p⟩) (asg_at 1 (callN_at (ds := [tile k r]) rfl rfl (v_upper k r))) (ret_at ?_)
    unfold ifG Fw.bindG
    rw [test_at (op2_p (a := .str k.nm) (b := .str "wire") rfl rfl (wire_eq k))]
    dsimp only
    unfold rowsL
    by_cases e : k = .wire
    · rw [if_pos e]; simp only [decide_eq_true e, if_true]; rfl
    · rw [if_neg e]; simp only [decide_eq_false e]; rfl
  exact ofFl_rt h
theorem v_law_rows_of (k : Kd) (r : Int) (p : PenS) : defF false 2 F__law_rows_of [tile k r] p = some (.v (.tuple (intL (rowsL k r))), p) := by
  have h : F__law_rows_of ⟨[.d (tile k r), .u], p⟩ = some (.rt (.tuple (intL (rowsL k r))), ⟨[.d (tile k r), .d (.int (upr k r))], p⟩) := by
    unfold F__law_rows_of
    refine seq_at (e1 := ⟨[.d (tile k r), .d (.int (upr k r))], p⟩) (asg_at 1 (callN_at (ds := [tile k r]) rfl rfl (v_law_upper k r))) (ret_at ?_)
    unfold ifG Fw.bindG
    rw [test_at (op2_p (a := .str k.nm) (b := .str "wire") rfl rfl (wire_eq k))]
    dsimp only
    unfold rowsL
    by_cases e : k = .wire
    · rw [if_pos e]; simp only [decide_eq_true e, if_true]; rfl
    · rw [if_neg e]; simp only [decide_eq_false e]; rfl
  exact ofFl_rt h
theorem v_cells_at (k : Kd) (r x : Int) (p : PenS) : defF false 5 F_cells_at [tile k r, .int x] p = some (.v (.tuple (cellL (at_ k r x))), p) := by
  have h : F_cells_at ⟨[.d (tile k r), .d (.int x), .u, .u, .u], p⟩ = some (.rt (.tuple (cellL (at_ k r x))), ⟨[.d (tile k r), .d (.int x), .d (.int (8 * upr k r)), .u, .u], p⟩) := by
    unfold F_cells_at
    refine seq_at (e1 := ⟨[.d (tile k r), .d (.int x), .d (.int (8 * upr k r)), .u, .u], p⟩) (asg_at 2 (op2_p (a := .int 8) (b := .int (upr k r)) rfl (callN_at (ds := [tile k r]) rfl rfl (v_upper k r)) (small8 _))) (ret_at ?_)
    refine op1_at (lcG_all (e := cd) (g := fun c => cd (sh x (8 * upr k r) c)) (xs := k.shape) ?_ rfl (by have := shape_len k; omega) fun c _ => ⟨_, rfl, rfl⟩) ?_
    · exact seqI_at (callX_at (ds := [.str k.nm]) rfl rfl (v_tile_cells k)) rfl
    · show some (PyData.tuple _) = _
      unfold at_ cellL
      rw [List.map_map]
      rfl
  exact ofFl_rt h
theorem v_law_cells_at (k : Kd) (r x : Int) (p : PenS) : defF false 5 F__law_cells_at [tile k r, .int x] p = some (.v (.tuple (cellL (at_ k r x))), p) := by
  have h : F__law_cells_at ⟨[.d (tile k r), .d (.int x), .u, .u, .u], p⟩ = some (.rt (.tuple (cellL (at_ k r x))), ⟨[.d (tile k r), .d (.int x), .d (.int (8 * upr k r)), .u, .u], p⟩) := by
    unfold F__law_cells_at
    refine seq_at (e1 := ⟨[.d (tile k r), .d (.int x), .d (.int (8 * upr k r)), .u, .u], p⟩) (asg_at 2 (op2_p (a := .int 8) (b := .int (upr k r)) rfl (callN_at (ds := [tile k r]) rfl rfl (v_law_upper k r)) (small8 _))) (ret_at ?_)
    refine op1_at (lcG_all (e := cd) (g := fun c => cd (sh x (8 * upr k r) c)) (xs := k.shape) ?_ rfl (by have := shape_len k; omega) fun c _ => ⟨_, rfl, rfl⟩) ?_
    · exact seqI_at (callN_at (ds := [.str k.nm]) rfl rfl (v_law_shape k)) rfl
    · show some (PyData.tuple _) = _
      unfold at_ cellL
      rw [List.map_map]
      rfl
  exact ofFl_rt h
/-! ### which cells are known, near, touched -/
def dedup (cs : List I2) : List I2 := cs.foldl (fun l c => if c ∈ l then l else l ++ [c]) []
theorem dedup_mem (cs : List I2) (c : I2) : c ∈ dedup cs ↔ c ∈ cs := by
  have gen : ∀ (cs l : List I2), c ∈ cs.foldl (fun l c => if c ∈ l then l else l ++ [c]) l ↔ c ∈ l ∨ c ∈ cs := by
    intro cs
    induction cs with
    | nil => intro l; simp
    | cons b cs ih =>
      intro l
      rw [List.foldl_cons, ih, List.mem_cons]
      by_cases h : b ∈ l
      · rw [if_pos h]
        exact ⟨fun z => z.elim .inl fun z => .inr (.inr z), fun z => z.elim .inl fun z => z.elim (fun z => .inl (z ▸ h)) .inr⟩
      · rw [if_neg h, List.mem_append, List.mem_singleton]
        exact ⟨fun z => z.elim (fun z => z.elim .inl fun z => .inr (.inl z)) fun z => .inr (.inr z), fun z => z.elim (fun z => .inl (.inl z)) fun z => z.elim (fun z => .inl (.inr z)) .inr⟩
  exact (gen cs []).trans (by simp)
theorem dedup_len (cs : List I2) : (dedup cs).length ≤ cs.length := by
  have gen : ∀ (cs l : List I2), (cs.foldl (fun l c => if c ∈ l then l else l ++ [c]) l).length ≤ l.length + cs.length := by
    intro cs
    induction cs with
    | nil => intro l; simp
    | cons b cs ih =>
      intro l
      rw [List.foldl_cons]
      refine Nat.le_trans (ih _) ?_
      rw [List.length_cons]
      split
      · omega
      · rw [List.length_append, List.length_singleton]; omega
  have := gen cs []
  rw [List.length_nil, Nat.zero_add] at this
  exact this
theorem asgV_at {sl sl' : List Slot} {p p1 : PenS} {f : FG D} {x : D} {t : FV} (hf : f ⟨sl, p⟩ = some (.v x, p1)) (ht : t x ⟨sl, p1⟩ = some ⟨sl', p1⟩) : asgV f t ⟨sl, p⟩ = some (.nx, ⟨sl', p1⟩) := by
  unfold asgV thenS; rw [hf]; dsimp only; rw [ht]; rfl
theorem upd_set (i : Nat) (c : I2) (l : List I2) (sl : List Slot) (fk : FG D) (p : PenS) (hk : fk ⟨sl, p⟩ = some (.v (cd c), p)) (hs : sl[i]? = some (.o (setD l))) (hl : l.length ≤ 1000000) :
    asgV (retG (.bool true)) (subU i fk) ⟨sl, p⟩ = some (.nx, ⟨sl.set i (.o (setD (if c ∈ l then l else l ++ [c]))), p⟩) := by
  refine asgV_at (x := .bool true) rfl ?_
  have ho : ∀ q, ownK i ⟨sl, q⟩ = some (l.map fun c => (cd c, PyData.bool true)) := fun q => by
    unfold ownK
    rw [hs]
    rfl
  unfold subU
  rw [ho]
  dsimp only
  rw [hk]
  dsimp only
  rw [ho]
  dsimp only [Option.bind_some]
  rw [kk_cd]
  dsimp only [Option.bind_some]
  rw [if_pos ⟨fits_set l _, by rw [List.length_map]; exact hl⟩, put_set]
  rfl
theorem v_known (cs : List I2) (hl : cs.length ≤ 1000) (p : PenS) : defF false 3 F__law_known [.tuple (cellL cs)] p = some (.v (setD (dedup cs)), p) := by
  let sl : List I2 × Slot → List Slot := fun s => [.d (.tuple (cellL cs)), .o (setD s.1), s.2]
  have loop := forS_of (α := I2) (p := p) (fi := seqI (slotD 0)) (ft := nameT 2) (body := asgV (retG (.bool true)) (subU 1 (slotD 2))) (e := cd) (sl := sl) (step := fun s c => (if c ∈ s.1 then s.1 else s.1 ++ [c], .d (cd c))) (xs := cs) (s := ([], .u))
    (fun xs s => s.1.length + xs.length ≤ 1000) rfl (by show 0 + cs.length ≤ 1000; omega) (fun x xs s hp => by
      rw [List.length_cons] at hp
      refine ⟨?_, _, rfl, .inl ?_⟩
      · dsimp only
        split
        · omega
        · rw [List.length_append, List.length_singleton]; omega
      · exact upd_set 1 x s.1 _ (slotD 2) p rfl rfl (by omega))
  have hd : (cs.foldl (fun s c => (if c ∈ s.1 then s.1 else s.1 ++ [c], Slot.d (cd c))) (([], .u) : List I2 × Slot)).1 = dedup cs := by
    have gen : ∀ (cs l : List I2) (u : Slot), (cs.foldl (fun s c => (if c ∈ s.1 then s.1 else s.1 ++ [c], Slot.d (cd c))) ((l, u) : List I2 × Slot)).1 = cs.foldl (fun l c => if c ∈ l then l else l ++ [c]) l := by
      intro cs
      induction cs with
      | nil => intro l u; rfl
      | cons b cs ih => intro l u; exact ih _ _
    exact gen cs [] .u
  have h : F__law_known ⟨[.d (.tuple (cellL cs)), .u, .u], p⟩ = some (.rt (setD (dedup cs)), ⟨[.d (.tuple (cellL cs)), .d (setD (dedup cs)), (cs.foldl (fun s c => (if c ∈ s.1 then s.1 else s.1 ++ [c], Slot.d (cd c))) (([], .u) : List I2 × Slot)).2], p⟩) := by
    unfold F__law_known
    refine seq_at (e1 := ⟨sl ([], .u), p⟩) rfl (seq_at loop ?_)
    rw [← hd]
    rfl
  exact ofFl_rt h
end Sb

set_option linter.all false
set_option maxRecDepth 100000
set_option maxHeartbeats 8000000
namespace Sb
open PySem PySem.Spec PyProof.Rows L2 Fw
open PySem.W (Datum DatumOrd)
theorem ok_cd (a : I2) : okD (cd a) = true := rfl
theorem dNe_cd (a b : I2) : dNe (cd a) (cd b) = some (.bool (!decide (a = b))) := by
  unfold dNe
  rw [if_pos ⟨ok_cd a, ok_cd b⟩]
  have e : PyData.eqv (nrm (cd a)) (nrm (cd b)) = decide (a = b) := Datum.eqv a b
  rw [e]
theorem and_at {f g : FG Bool} {sl : List Slot} {p : PenS} {a b : Bool} (hf : f ⟨sl, p⟩ = some (.v a, p)) (hg : g ⟨sl, p⟩ = some (.v b, p)) : andG f g ⟨sl, p⟩ = some (.v (a && b), p) := by
  unfold andG Fw.bindG
  rw [hf]
  dsimp only
  cases a
  · rfl
  · rw [if_pos rfl, hg, Bool.true_and]
theorem app_at {i : Nat} {f : FG D} {sl : List Slot} {p : PenS} {ds : List D} {d : D} (hs : sl[i]? = some (.o (.list ds))) (hf : f ⟨sl, p⟩ = some (.v d, p)) (hl : ds.length ≤ 1000000) : appS i f ⟨sl, p⟩ = some (.nx, ⟨sl.set i (.o (.list (ds ++ [d]))), p⟩) := by
  have ho : ownL i ⟨sl, p⟩ = some ds := by unfold ownL; rw [hs]
  unfold appS
  rw [ho]
  dsimp only [Option.bind_some]
  unfold thenS
  rw [hf]
  dsimp only
  rw [ho]
  dsimp only [Option.bind_some]
  unfold few
  rw [if_pos hl]
def three : List Int := [-1, 0, 1]
def okN (l : List I2) (c : I2) (dx dy : Int) : Bool := !decide (((dx, dy) : I2) = (0, 0)) && decide (((c.1 + dx, c.2 + dy) : I2) ∈ l)
def nearN (l : List I2) (c : I2) : List I2 := three.flatMap fun dx => three.flatMap fun dy => if okN l c dx dy = true then [(c.1 + dx, c.2 + dy)] else []
theorem fold_flat {α β γ : Type} (f : α → List β) (u : α → γ) : ∀ (xs : List α) (l : List β) (g : γ), (xs.foldl (fun s x => (s.1 ++ f x, u x)) ((l, g) : List β × γ)).1 = l ++ xs.flatMap f
  | [], l, g => (List.append_nil l).symm
  | x :: xs, l, g => by
    rw [List.foldl_cons, List.flatMap_cons, ← List.append_assoc]
    exact fold_flat f u xs _ _
theorem near_len (l : List I2) (c : I2) : (nearN l c).length ≤ 9 := by
  unfold nearN three
  simp only [List.flatMap_cons, List.flatMap_nil, List.append_nil, List.length_append]
  repeat' split
  all_goals simp
theorem v_near (l : List I2) (c : I2) (p : PenS) : defF false 5 F__law_near [setD l, cd c] p = some (.v (.list (cellL (nearN l c))), p) := by
  -- one turn of the inner loop, the inner loop, the outer loop
  have inner : ∀ (dx : Int) (found : List I2) (u : Slot), found.length ≤ 100 →
      forS (seqI (lstG (consG (op1 dNeg (retG (.int 1))) (consG (retG (.int 0)) (consG (retG (.int 1)) (retG [])))))) (nameT 4) (ifS (andG (testG (op2 dNe (tupG (consG (slotD 3) (consG (slotD 4) (retG [])))) (tupG (consG (retG (.int 0)) (consG (retG (.int 0)) (retG [])))))) (testG (op2 dInU (tupG (consG (op2 dAdd (op2 dIx (slotD 1) (retG (.int 0))) (slotD 3)) (consG (op2 dAdd (op2 dIx (slotD 1) (retG (.int 1))) (slotD 4)) (retG [])))) (slotD 0)))) (appS 2 (tupG (consG (op2 dAdd (op2 dIx (slotD 1) (retG (.int 0))) (slotD 3)) (consG (op2 dAdd (op2 dIx (slotD 1) (retG (.int 1))) (slotD 4)) (retG []))))) nextS)
        ⟨[.d (setD l), .d (cd c), .o (.list (cellL found)), .d (.int dx), u], p⟩ =
      some (.nx, ⟨[.d (setD l), .d (cd c), .o (.list (cellL (found ++ three.flatMap fun dy => if okN l c dx dy = true then [(c.1 + dx, c.2 + dy)] else []))), .d (.int dx), .d (.int 1)], p⟩) := by
    intro dx found u hl
    have z := forS_of (α := Int) (p := p) (fi := seqI (lstG (consG (op1 dNeg (retG (.int 1))) (consG (retG (.int 0)) (consG (retG (.int 1)) (retG [])))))) (ft := nameT 4) (body := (ifS (andG (testG (op2 dNe (tupG (consG (slotD 3) (consG (slotD 4) (retG [])))) (tupG (consG (retG (.int 0)) (consG (retG (.int 0)) (retG [])))))) (testG (op2 dInU (tupG (consG (op2 dAdd (op2 dIx (slotD 1) (retG (.int 0))) (slotD 3)) (consG (op2 dAdd (op2 dIx (slotD 1) (retG (.int 1))) (slotD 4)) (retG [])))) (slotD 0)))) (appS 2 (tupG (consG (op2 dAdd (op2 dIx (slotD 1) (retG (.int 0))) (slotD 3)) (consG (op2 dAdd (op2 dIx (slotD 1) (retG (.int 1))) (slotD 4)) (retG []))))) nextS))
      (e := PyData.int) (sl := fun s : List I2 × Slot => [.d (setD l), .d (cd c), .o (.list (cellL s.1)), .d (.int dx), s.2]) (step := fun s dy => (s.1 ++ (if okN l c dx dy = true then [(c.1 + dx, c.2 + dy)] else []), .d (.int dy))) (xs := three) (s := (found, u))
      (fun xs s => s.1.length + xs.length ≤ 1000) rfl (by show found.length + 3 ≤ 1000; omega) (fun dy xs s hp => by
        rw [List.length_cons] at hp
        refine ⟨?_, _, rfl, .inl ?_⟩
        · dsimp only
          split
          · rw [List.length_append, List.length_singleton]; omega
          · rw [List.append_nil]; omega
        · refine if_at (b := okN l c dx dy) (and_at (test_at (op2_p (a := cd (dx, dy)) (b := cd (0, 0)) rfl rfl (dNe_cd _ _))) (test_at (op2_p (a := cd (c.1 + dx, c.2 + dy)) (b := setD l) rfl rfl (dIn_set _ _)))) (fun h => ?_) (fun h => ?_)
          · rw [if_pos h]
            have q := app_at (i := 2) (sl := [.d (setD l), .d (cd c), .o (.list (cellL s.1)), .d (.int dx), .d (.int dy)]) (p := p) (f := tupG (consG (op2 dAdd (op2 dIx (slotD 1) (retG (.int 0))) (slotD 3)) (consG (op2 dAdd (op2 dIx (slotD 1) (retG (.int 1))) (slotD 4)) (retG [])))) (d := cd (c.1 + dx, c.2 + dy)) rfl rfl (by unfold cellL; rw [List.length_map]; omega)
            refine q.trans ?_
            unfold cellL
            rw [List.map_append]
            rfl
          · rw [if_neg (by rw [h]; exact Bool.false_ne_true), List.append_nil]
            rfl)
    have e1 := fold_flat (fun dy => if okN l c dx dy = true then [((c.1 + dx, c.2 + dy) : I2)] else []) (fun dy => Slot.d (.int dy)) three found u
    refine z.trans ?_
    rw [← e1]
    rfl
  have outer := forS_of (α := Int) (p := p) (fi := seqI (lstG (consG (op1 dNeg (retG (.int 1))) (consG (retG (.int 0)) (consG (retG (.int 1)) (retG [])))))) (ft := nameT 3) (body := (forS (seqI (lstG (consG (op1 dNeg (retG (.int 1))) (consG (retG (.int 0)) (consG (retG (.int 1)) (retG [])))))) (nameT 4) (ifS (andG (testG (op2 dNe (tupG (consG (slotD 3) (consG (slotD 4) (retG [])))) (tupG (consG (retG (.int 0)) (consG (retG (.int 0)) (retG [])))))) (testG (op2 dInU (tupG (consG (op2 dAdd (op2 dIx (slotD 1) (retG (.int 0))) (slotD 3)) (consG (op2 dAdd (op2 dIx (slotD 1) (retG (.int 1))) (slotD 4)) (retG [])))) (slotD 0)))) (appS 2 (tupG (consG (op2 dAdd (op2 dIx (slotD 1) (retG (.int 0))) (slotD 3)) (consG (op2 dAdd (op2 dIx (slotD 1) (retG (.int 1))) (slotD 4)) (retG []))))) nextS)))
      (e := PyData.int) (sl := fun s : List I2 × (Slot × Slot) => [.d (setD l), .d (cd c), .o (.list (cellL s.1)), s.2.1, s.2.2]) (step := fun s dx => (s.1 ++ (three.flatMap fun dy => if okN l c dx dy = true then [(c.1 + dx, c.2 + dy)] else []), (.d (.int dx), .d (.int 1)))) (xs := three) (s := ([], (.u, .u)))
      (fun xs s => s.1.length + 3 * xs.length ≤ 9) rfl (by show 0 + 3 * 3 ≤ 9; omega) (fun dx xs s hp => by
        rw [List.length_cons] at hp
        have h3 : (three.flatMap fun dy => if okN l c dx dy = true then [((c.1 + dx, c.2 + dy) : I2)] else []).length ≤ 3 := by
          unfold three
          simp only [List.flatMap_cons, List.flatMap_nil, List.append_nil, List.length_append]
          repeat' split
          all_goals simp
        refine ⟨?_, _, rfl, .inl (inner dx s.1 s.2.2 (by omega))⟩
        dsimp only
        rw [List.length_append]
        omega)
  have e1 := fold_flat (fun dx => three.flatMap fun dy => if okN l c dx dy = true then [((c.1 + dx, c.2 + dy) : I2)] else []) (fun dx => ((.d (.int dx), .d (.int 1)) : Slot × Slot)) three [] (.u, .u)
  have h : ∃ e', F__law_near ⟨[.d (setD l), .d (cd c), .u, .u, .u], p⟩ = some (.rt (.list (cellL (nearN l c))), e') ∧ e'.pen = p := by
    refine ⟨⟨[.d (setD l), .d (cd c), .d (.list (cellL (nearN l c))), .d (.int 1), .d (.int 1)], p⟩, ?_, rfl⟩
    unfold F__law_near
    refine seq_at (e1 := ⟨[.d (setD l), .d (cd c), .o (.list (cellL [])), .u, .u], p⟩) rfl (seq_at outer ?_)
    rw [List.nil_append] at e1
    rw [show nearN l c = _ from e1.symm]
    rfl
  obtain ⟨e', h1, h2⟩ := h
  exact (ofFl_rt h1).trans (by rw [h2])
def touchC (l : List I2) (c : I2) : List (I2 × I2) := (nearN l c).map (fun n => (c, n)) ++ (if c ∈ l then [(c, c)] else [])
def touchN (one l : List I2) : List (I2 × I2) := one.flatMap (touchC l)
def touchL (ts : List (I2 × I2)) : List D := ts.map cd2
theorem touch_len (l : List I2) (c : I2) : (touchC l c).length ≤ 10 := by
  have := near_len l c
  unfold touchC
  rw [List.length_append, List.length_map]
  split
  · rw [List.length_singleton]; omega
  · rw [List.length_nil]; omega
theorem v_touches (one other : List I2) (h1 : one.length ≤ 100) (h2 : other.length ≤ 1000) (p : PenS) : defF false 6 F__law_touches [.tuple (cellL one), .tuple (cellL other)] p = some (.v (.list (touchL (touchN one (dedup other)))), p) := by
  have loop := forS_of (α := I2) (p := p) (fi := seqI (slotD 0)) (ft := nameT 4) (body := (seqS (asgO (op2 dCat (slotB 3) (lcG [5] (seqI (callN 2 (defF false 5 F__law_near) (consG (slotD 2) (consG (slotD 4) (retG []))))) (nameT 5) (retG true) (tupG (consG (slotD 4) (consG (slotD 5) (retG [])))))) 3)
  (ifS (testG (op2 dInU (slotD 4) (slotD 2))) (appS 3 (tupG (consG (slotD 4) (consG (slotD 4) (retG []))))) nextS)))
      (e := cd) (sl := fun s : List (I2 × I2) × Slot => [.d (.tuple (cellL one)), .d (.tuple (cellL other)), .d (setD (dedup other)), .o (.list (touchL s.1)), s.2, .u]) (step := fun s c => (s.1 ++ touchC (dedup other) c, .d (cd c))) (xs := one) (s := ([], .u))
      (fun xs s => s.1.length + 10 * xs.length ≤ 1000) rfl (by show 0 + 10 * one.length ≤ 1000; omega) (fun c xs s hp => by
        rw [List.length_cons] at hp
        have t1 := touch_len (dedup other) c
        refine ⟨?_, _, rfl, .inl ?_⟩
        · dsimp only
          rw [List.length_append]
          omega
        · have n9 := near_len (dedup other) c
          have l1 : (touchL s.1).length = s.1.length := List.length_map ..
          have comp := lcG_all (p := p) (sl := [.d (.tuple (cellL one)), .d (.tuple (cellL other)), .d (setD (dedup other)), .o (.list (touchL s.1)), .d (cd c), .u]) (vs := [5]) (fi := seqI (callN 2 (defF false 5 F__law_near) (consG (slotD 2) (consG (slotD 4) (retG []))))) (ft := nameT 5) (elt := tupG (consG (slotD 4) (consG (slotD 5) (retG []))))
            (e := cd) (g := fun n => cd2 (c, n)) (xs := nearN (dedup other) c) (seqI_at (callN_at (ds := [setD (dedup other), cd c]) rfl rfl (v_near _ _)) rfl) rfl (by omega) fun n _ => ⟨_, rfl, rfl⟩
          have cat : dCat (.list (touchL s.1)) (.list ((nearN (dedup other) c).map fun n => cd2 (c, n))) = some (.list (touchL (s.1 ++ (nearN (dedup other) c).map fun n => (c, n)))) := by
            show (few (touchL s.1 ++ (nearN (dedup other) c).map fun n => cd2 (c, n)) (PyData.list (touchL s.1 ++ (nearN (dedup other) c).map fun n => cd2 (c, n)))) = _
            unfold few
            rw [if_pos (by rw [List.length_append, List.length_map, l1]; omega)]
            unfold touchL
            rw [List.map_append, List.map_map]
            rfl
          refine seq_at (e1 := ⟨[.d (.tuple (cellL one)), .d (.tuple (cellL other)), .d (setD (dedup other)), .o (.list (touchL (s.1 ++ (nearN (dedup other) c).map fun n => (c, n)))), .d (cd c), .u], p⟩) ?_ ?_
          · unfold asgO thenS
            have e1 := op2_p (φ := dCat) (p := p) (sl := [.d (.tuple (cellL one)), .d (.tuple (cellL other)), .d (setD (dedup other)), .o (.list (touchL s.1)), .d (cd c), .u]) (f := slotB 3) (a := .list (touchL s.1)) rfl comp cat
            dsimp only [List.set_cons_succ, List.set_cons_zero]
            rw [e1]
            rfl
          · refine if_at (b := decide (c ∈ dedup other)) (test_at (op2_p (a := cd c) (b := setD (dedup other)) rfl rfl (dIn_set _ _))) (fun h => ?_) (fun h => ?_)
            · have q := app_at (i := 3) (sl := [.d (.tuple (cellL one)), .d (.tuple (cellL other)), .d (setD (dedup other)), .o (.list (touchL (s.1 ++ (nearN (dedup other) c).map fun n => (c, n)))), .d (cd c), .u]) (p := p) (f := tupG (consG (slotD 4) (consG (slotD 4) (retG [])))) (d := cd2 (c, c)) rfl rfl (by unfold touchL; rw [List.length_map, List.length_append, List.length_map]; omega)
              refine q.trans ?_
              unfold touchC
              rw [if_pos (of_decide_eq_true h), ← List.append_assoc]
              unfold touchL
              rw [List.map_append (l₂ := [(c, c)])]
              rfl
            · unfold touchC
              rw [if_neg (of_decide_eq_false h), List.append_nil]
              rfl)
  have e1 := fold_flat (touchC (dedup other)) (fun c => Slot.d (cd c)) one [] .u
  have h : ∃ e', F__law_touches ⟨[.d (.tuple (cellL one)), .d (.tuple (cellL other)), .u, .u, .u, .u], p⟩ = some (.rt (.list (touchL (touchN one (dedup other)))), e') ∧ e'.pen = p := by
    refine ⟨⟨[.d (.tuple (cellL one)), .d (.tuple (cellL other)), .d (setD (dedup other)), .d (.list (touchL (touchN one (dedup other)))), (one.foldl (fun s c => (s.1 ++ touchC (dedup other) c, Slot.d (cd c))) (([], .u) : List (I2 × I2) × Slot)).2, .u], p⟩, ?_, rfl⟩
    unfold F__law_touches
    refine seq_at (e1 := ⟨[.d (.tuple (cellL one)), .d (.tuple (cellL other)), .d (setD (dedup other)), .o (.list (touchL [])), .u, .u], p⟩) ?_ (seq_at loop ?_)
    · have c1 : callN 1 (defF false 3 F__law_known) (consG (slotD 1) (retG [])) ⟨[.d (.tuple (cellL one)), .d (.tuple (cellL other)), .u, .u, .u, .u], p⟩ = some (.v (setD (dedup other)), p) := callN_at (ds := [.tuple (cellL other)]) rfl rfl (v_known other h2)
      unfold parDO thenS
      rw [c1]
      rfl
    · rw [List.nil_append] at e1
      rw [show touchN one (dedup other) = _ from e1.symm]
      rfl
  obtain ⟨e', h1, h2⟩ := h
  exact (ofFl_rt h1).trans (by rw [h2])
end Sb

set_option linter.all false
set_option maxRecDepth 100000
set_option maxHeartbeats 8000000
namespace Sb
open PySem PySem.Spec PyProof.Rows L2 Fw
open PySem.W (Datum DatumOrd)
/-! ### which cells touch -/
theorem three_mem {x : Int} : x ∈ three ↔ -1 ≤ x ∧ x ≤ 1 := by
  unfold three
  simp only [List.mem_cons, List.not_mem_nil, or_false]
  omega
theorem near_mem {l : List I2} {c n : I2} (h : n ∈ nearN l c) : n ∈ l ∧ -1 ≤ n.1 - c.1 ∧ n.1 - c.1 ≤ 1 ∧ -1 ≤ n.2 - c.2 ∧ n.2 - c.2 ≤ 1 := by
  unfold nearN at h
  obtain ⟨dx, hx, h⟩ := List.mem_flatMap.mp h
  obtain ⟨dy, hy, h⟩ := List.mem_flatMap.mp h
  split at h
  · next ok =>
    rw [List.mem_singleton] at h
    subst h
    unfold okN at ok
    rw [Bool.and_eq_true] at ok
    have a := three_mem.mp hx
    have b := three_mem.mp hy
    refine ⟨of_decide_eq_true ok.2, ?_⟩
    dsimp only
    omega
  · cases h
def far (a b : I2) : Prop := 2 ≤ b.1 - a.1 ∨ 2 ≤ a.1 - b.1 ∨ 2 ≤ b.2 - a.2 ∨ 2 ≤ a.2 - b.2
theorem near_far {l : List I2} {c : I2} (h : ∀ b ∈ l, far c b) : nearN l c = [] := by
  rw [List.eq_nil_iff_forall_not_mem]
  intro n hn
  obtain ⟨m, h1⟩ := near_mem hn
  have := h n m
  unfold far at this
  omega
theorem touchC_far {l : List I2} {c : I2} (h : ∀ b ∈ l, far c b) : touchC l c = [] := by
  unfold touchC
  rw [near_far h, if_neg]
  · rfl
  · intro m
    have := h c m
    unfold far at this
    omega
theorem touch_far {one l : List I2} (h : ∀ a ∈ one, ∀ b ∈ l, far a b) : touchN one l = [] := by
  unfold touchN
  rw [List.flatMap_eq_nil_iff]
  exact fun a ha => touchC_far (h a ha)
theorem at_mem {k : Kd} {r x : Int} {c : I2} (h : c ∈ at_ k r x) : ∃ d ∈ k.shape, c = sh x (8 * upr k r) d := by
  obtain ⟨d, hd, rfl⟩ := List.mem_map.mp h
  exact ⟨d, hd, rfl⟩
theorem at_len (k : Kd) (r x : Int) : (at_ k r x).length ≤ 100 := by
  unfold at_
  rw [List.length_map]
  exact shape_len k
/-- two stages further: nothing -/
theorem touch_80 (k1 k2 : Kd) (r1 r2 : Int) : touchN (at_ k1 r1 40) (dedup (at_ k2 r2 80)) = [] := by
  refine touch_far fun a ha b hb => ?_
  obtain ⟨a0, h1, rfl⟩ := at_mem ha
  obtain ⟨b0, h2, rfl⟩ := at_mem ((dedup_mem _ _).mp hb)
  have e1 := shape_x k1 a0 h1
  have e2 := shape_x k2 b0 h2
  unfold far sh
  dsimp only
  omega
/-- the same stage, rows apart: nothing -/
theorem touch_40 (k1 k2 : Kd) (r1 r2 : Int) (h : ∀ x ∈ rowsL k1 r1, x ∉ rowsL k2 r2) : touchN (at_ k1 r1 40) (dedup (at_ k2 r2 40)) = [] := by
  refine touch_far fun a ha b hb => ?_
  obtain ⟨a0, h1, rfl⟩ := at_mem ha
  obtain ⟨b0, h2, rfl⟩ := at_mem ((dedup_mem _ _).mp hb)
  have e1 := shape_x k1 a0 h1
  have e2 := shape_x k2 b0 h2
  have w1 : k1 = .wire → a0.2 = 0 := fun e => by subst e; exact wire_y a0 h1
  have w2 : k2 = .wire → b0.2 = 0 := fun e => by subst e; exact wire_y b0 h2
  unfold far sh
  dsimp only
  unfold rowsL at h
  by_cases d1 : k1 = .wire
  · have y1 := w1 d1
    rw [if_pos d1] at h
    by_cases d2 : k2 = .wire
    · have y2 := w2 d2
      rw [if_pos d2] at h
      have := h _ (.head _)
      rw [List.mem_singleton] at this
      omega
    · rw [if_neg d2] at h
      have := h _ (.head _)
      simp only [List.mem_cons, List.not_mem_nil, or_false, not_or] at this
      omega
  · rw [if_neg d1] at h
    by_cases d2 : k2 = .wire
    · have y2 := w2 d2
      rw [if_pos d2] at h
      have i1 := h _ (.head _)
      have i2 := h _ (.tail _ (.head _))
      rw [List.mem_singleton] at i1 i2
      omega
    · rw [if_neg d2] at h
      have i1 := h _ (.head _)
      have i2 := h _ (.tail _ (.head _))
      simp only [List.mem_cons, List.not_mem_nil, or_false, not_or] at i1 i2
      omega
/-! ### side by side: ports alone -/
def outsY (k : Kd) (r : Int) : List Int := k.outs.map fun o => 8 * (upr k r + o)
def insY (k : Kd) (r : Int) : List Int := k.ins.map fun o => 8 * (upr k r + o)
def dueL (k1 k2 : Kd) (r1 r2 : Int) : List (I2 × I2) := ((outsY k1 r1).filter fun y => decide (y ∈ insY k2 r2)).map fun y => ((59, y), (60, y))
theorem near_port {l : List I2} {y : Int} {ys : List Int} (hm : ∀ c ∈ l, c.1 ≠ 59) (hl : ∀ c : I2, c ∈ l → c.1 = 60 → c.2 ∈ ys) (hy : ∀ z ∈ ys, ((60, z) : I2) ∈ l) (h8 : ∀ z ∈ ys, -1 ≤ z - y → z - y ≤ 1 → z = y) (hx : ∀ c ∈ l, 60 ≤ c.1) :
    touchC l (59, y) = if y ∈ ys then [((59, y), (60, y))] else [] := by
  have no : ¬ ((59, y) : I2) ∈ l := fun m => hm _ m rfl
  have dxm : ∀ dy, okN l (59, y) (-1) dy = false := fun dy => by
    unfold okN
    rw [show decide ((((59, y) : I2).1 + -1, ((59, y) : I2).2 + dy) ∈ l) = false from decide_eq_false fun m => by have := hx _ m; dsimp only at this; omega, Bool.and_false]
  have dx0 : ∀ dy, okN l (59, y) 0 dy = false := fun dy => by
    unfold okN
    rw [show decide ((((59, y) : I2).1 + 0, ((59, y) : I2).2 + dy) ∈ l) = false from decide_eq_false fun m => by have := hx _ m; dsimp only at this; omega, Bool.and_false]
  have dx1 : ∀ dy, -1 ≤ dy → dy ≤ 1 → okN l (59, y) 1 dy = decide (dy = 0 ∧ y ∈ ys) := fun dy h1 h2 => by
    unfold okN
    have e1 : decide (((1, dy) : I2) = (0, 0)) = false := decide_eq_false fun h => by cases h
    rw [e1]
    show decide (((59 + 1, y + dy) : I2) ∈ l) = _
    refine decide_eq_decide.mpr ⟨fun m => ?_, fun m => ?_⟩
    · have z := hl _ m (by show (59 : Int) + 1 = 60; omega)
      dsimp only at z
      have z2 := h8 _ z (by omega) (by omega)
      have z3 : dy = 0 := by omega
      subst z3
      rw [Int.add_zero] at z
      exact ⟨rfl, z⟩
    · obtain ⟨rfl, m⟩ := m
      rw [Int.add_zero]
      exact hy y m
  unfold touchC nearN three
  rw [if_neg no, List.append_nil]
  simp only [List.flatMap_cons, List.flatMap_nil, List.append_nil, dxm, dx0, dx1 (-1) (by omega) (by omega), dx1 0 (by omega) (by omega), dx1 1 (by omega) (by omega)]
  by_cases c : y ∈ ys <;> simp [c]
theorem touch_60 (k1 k2 : Kd) (r1 r2 : Int) : touchN (at_ k1 r1 40) (dedup (at_ k2 r2 60)) = dueL k1 k2 r1 r2 := by
  have e1 : at_ k1 r1 40 = k1.ini.map (sh 40 (8 * upr k1 r1)) ++ (outsY k1 r1).map fun y => ((59, y) : I2) := by
    unfold at_ Kd.shape outsY
    rw [List.map_append, List.map_map, List.map_map]
    congr 1
    apply List.map_congr_left
    intro o _
    show ((19 : Int) + 40, 8 * o + 8 * upr k1 r1) = ((59 : Int), 8 * (upr k1 r1 + o))
    refine Prod.ext ?_ ?_ <;> dsimp only <;> omega
  have e2 : at_ k2 r2 60 = (insY k2 r2).map (fun y => ((60, y) : I2)) ++ k2.tl.map (sh 60 (8 * upr k2 r2)) := by
    unfold at_ insY
    rw [shape_in, List.map_append, List.map_map, List.map_map]
    congr 1
    apply List.map_congr_left
    intro o _
    show ((0 : Int) + 60, 8 * o + 8 * upr k2 r2) = ((60 : Int), 8 * (upr k2 r2 + o))
    refine Prod.ext ?_ ?_ <;> dsimp only <;> omega
  have hx : ∀ c ∈ dedup (at_ k2 r2 60), 60 ≤ c.1 := fun c hc => by
    obtain ⟨d, hd, rfl⟩ := at_mem ((dedup_mem _ _).mp hc)
    have := shape_x k2 d hd
    show 60 ≤ d.1 + 60
    omega
  unfold touchN
  rw [e1, List.flatMap_append]
  have z1 : (k1.ini.map (sh 40 (8 * upr k1 r1))).flatMap (touchC (dedup (at_ k2 r2 60))) = [] := by
    rw [List.flatMap_eq_nil_iff]
    intro a ha
    obtain ⟨a0, h1, rfl⟩ := List.mem_map.mp ha
    refine touchC_far fun b hb => ?_
    have := ini_x k1 a0 h1
    have := hx b hb
    unfold far sh
    dsimp only
    omega
  rw [z1, List.nil_append]
  have z2 : ∀ y ∈ outsY k1 r1, touchC (dedup (at_ k2 r2 60)) (59, y) = if y ∈ insY k2 r2 then [((59, y), (60, y))] else [] := fun y hy => by
    refine near_port (fun c hc => by have := hx c hc; omega) (fun c hc h60 => ?_) (fun z hz => ?_) (fun z hz h1 h2 => ?_) hx
    · rw [dedup_mem, e2, List.mem_append] at hc
      rcases hc with hc | hc
      · obtain ⟨z, hz, rfl⟩ := List.mem_map.mp hc
        exact hz
      · obtain ⟨d, hd, rfl⟩ := List.mem_map.mp hc
        have := tl_x k2 d hd
        have h60 : d.1 + 60 = 60 := h60
        omega
    · rw [dedup_mem, e2]
      exact List.mem_append_left _ (List.mem_map_of_mem hz)
    · obtain ⟨i, _, rfl⟩ := List.mem_map.mp hz
      obtain ⟨o, _, rfl⟩ := List.mem_map.mp hy
      omega
  unfold dueL
  generalize outsY k1 r1 = os at z2
  induction os with
  | nil => rfl
  | cons y os ih =>
    rw [List.map_cons, List.flatMap_cons, z2 y (.head _), ih fun y hy => z2 y (.tail _ hy)]
    by_cases c : y ∈ insY k2 r2
    · rw [if_pos c, List.filter_cons_of_pos (p := fun y => decide (y ∈ insY k2 r2)) (decide_eq_true c)]
      rfl
    · rw [if_neg c, List.filter_cons_of_neg (p := fun y => decide (y ∈ insY k2 r2)) (by rw [decide_eq_false c]; exact Bool.false_ne_true)]
      rfl
end Sb

set_option linter.all false
set_option maxRecDepth 100000
set_option maxHeartbeats 4000000
/-! ==, in, of typed data -/
namespace Fw
open PySem PySem.Spec PyProof.Rows L2
open PySem.W (Datum DatumOrd Tup)
/-- typed data is plain -/
class Okd (α : Type) [DecidableEq α] [Datum α] : Prop where
  nr : ∀ a : α, nrm (Datum.toD a) = Datum.toD a
  pl : ∀ a : α, plain (Datum.toD a) = true
  cl : ∀ a : α, (Datum.toD a).canLay0 = true
instance : Okd Int := ⟨fun _ => rfl, fun _ => rfl, fun _ => rfl⟩
instance : Okd Bool := ⟨fun _ => rfl, fun _ => rfl, fun _ => rfl⟩
instance : Okd Unit := ⟨fun _ => rfl, fun _ => rfl, fun _ => rfl⟩
section
variable {α β : Type} [DecidableEq α] [Datum α] [Okd α] [DecidableEq β] [Datum β] [Okd β]
theorem nrmA_toD : ∀ xs : List α, nrmA (xs.map Datum.toD) = xs.map Datum.toD
  | [] => rfl
  | x :: xs => by
    show nrm (Datum.toD x) :: nrmA (xs.map Datum.toD) = _
    rw [Okd.nr, nrmA_toD xs]
    rfl
theorem plainA_toD : ∀ xs : List α, plainA (xs.map Datum.toD) = true
  | [] => rfl
  | x :: xs => by
    show (plain (Datum.toD x) && plainA (xs.map Datum.toD)) = _
    rw [Okd.pl, plainA_toD xs]
    rfl
theorem canA_toD : ∀ xs : List α, PyData.canLayAll0 (xs.map Datum.toD) = true
  | [] => rfl
  | x :: xs => by
    show ((Datum.toD x).canLay0 && PyData.canLayAll0 (xs.map Datum.toD)) = _
    rw [Okd.cl, canA_toD xs]
    rfl
instance : Okd (List α) := ⟨fun xs => congrArg PyData.list (nrmA_toD xs), fun xs => plainA_toD xs, fun xs => canA_toD xs⟩
instance : Okd (Tup α) := ⟨fun xs => congrArg PyData.tuple (nrmA_toD xs.items), fun xs => plainA_toD xs.items, fun xs => canA_toD xs.items⟩
instance : Okd (α × β) where
  nr a := by
    show PyData.tuple [nrm (Datum.toD a.1), nrm (Datum.toD a.2)] = _
    rw [Okd.nr, Okd.nr]
    rfl
  pl a := by
    show (plain (Datum.toD a.1) && (plain (Datum.toD a.2) && true)) = true
    rw [Okd.pl, Okd.pl]
    rfl
  cl a := by
    show ((Datum.toD a.1).canLay0 && ((Datum.toD a.2).canLay0 && true)) = true
    rw [Okd.cl, Okd.cl]
    rfl
theorem okD_toD (hd : Datum.depth α ≤ 64) (a : α) : okD (Datum.toD a) = true := by
  unfold okD SeqAt.shaped
  rw [Okd.nr, Okd.pl, Okd.cl, decide_eq_true (Nat.le_trans (Datum.depth_le a) hd)]
  rfl
theorem dEq_toD (hd : Datum.depth α ≤ 64) (a b : α) : dEq (Datum.toD a) (Datum.toD b) = some (.bool (decide (a = b))) := by
  unfold dEq
  rw [if_pos ⟨okD_toD hd a, okD_toD hd b⟩, Okd.nr, Okd.nr, Datum.eqv]
theorem dNe_toD (hd : Datum.depth α ≤ 64) (a b : α) : dNe (Datum.toD a) (Datum.toD b) = some (.bool (!decide (a = b))) := by
  unfold dNe
  rw [if_pos ⟨okD_toD hd a, okD_toD hd b⟩, Okd.nr, Okd.nr, Datum.eqv]
theorem any_toD (a : α) (xs : List α) : ((xs.map Datum.toD).any fun z => PyData.eqv z (Datum.toD a)) = decide (a ∈ xs) := by
  rw [List.any_map, Bool.eq_iff_iff, List.any_eq_true, decide_eq_true_eq]
  refine ⟨fun ⟨x, hx, h⟩ => ?_, fun h => ⟨a, h, ?_⟩⟩
  · rw [Function.comp_apply, Datum.eqv] at h
    exact (of_decide_eq_true h) ▸ hx
  · rw [Function.comp_apply, Datum.eqv]
    exact decide_eq_true rfl
theorem dIn_tup (hd : Datum.depth α ≤ 63) (a : α) (xs : List α) : dInU (Datum.toD a) (.tuple (xs.map Datum.toD)) = some (.bool (decide (a ∈ xs))) := by
  have h : dIn (Datum.toD a) (.tuple (xs.map Datum.toD)) = some (.bool (decide (a ∈ xs))) := by
    show (if okD (Datum.toD a) = true ∧ okD (.tuple (xs.map Datum.toD)) = true then _ else none) = _
    rw [if_pos ⟨okD_toD (by omega) a, okD_toD (α := Tup α) (by show Datum.depth α + 1 ≤ 64; omega) ⟨xs⟩⟩, nrmA_toD, Okd.nr, any_toD]
  unfold dInU
  rw [h]
theorem dIn_lst (hd : Datum.depth α ≤ 63) (a : α) (xs : List α) : dInU (Datum.toD a) (.list (xs.map Datum.toD)) = some (.bool (decide (a ∈ xs))) := by
  have h : dIn (Datum.toD a) (.list (xs.map Datum.toD)) = some (.bool (decide (a ∈ xs))) := by
    show (if okD (Datum.toD a) = true ∧ okD (.list (xs.map Datum.toD)) = true then _ else none) = _
    rw [if_pos ⟨okD_toD (by omega) a, okD_toD (α := List α) (by show Datum.depth α + 1 ≤ 64; omega) xs⟩, nrmA_toD, Okd.nr, any_toD]
  unfold dInU
  rw [h]
end
/-! ### sorted of typed data -/
theorem allO_toD {α : Type} {f : D → Option α} {e : α → D} (h : ∀ a, f (e a) = some a) : ∀ xs : List α, allO f (xs.map e) = some xs
  | [] => rfl
  | x :: xs => by
    show (f (e x)).bind _ = _
    rw [h x]
    dsimp only [Option.bind_some]
    rw [allO_toD h xs]
    rfl
theorem dSort_cells (c : I2) (xs : List I2) : dSort (.list ((c :: xs).map Datum.toD)) = some (.list ((SrtD.sortO (c :: xs)).map Datum.toD)) := by
  show (match intsD ((c :: xs).map Datum.toD) with
    | some ns => some (PyData.list ((sortI ns).map PyData.int))
    | none => (sortD2 ((c :: xs).map Datum.toD)).map PyData.list) = _
  rw [show intsD ((c :: xs).map Datum.toD) = none from rfl]
  dsimp only
  unfold sortD2
  rw [allO_toD (f := i2D) (e := Datum.toD) (fun a => rfl)]
  rfl
theorem dSort_pairs (c : I2 × I2) (xs : List (I2 × I2)) : dSort (.list ((c :: xs).map Datum.toD)) = some (.list ((SrtD.sortO (c :: xs)).map Datum.toD)) := by
  show (match intsD ((c :: xs).map Datum.toD) with
    | some ns => some (PyData.list ((sortI ns).map PyData.int))
    | none => (sortD2 ((c :: xs).map Datum.toD)).map PyData.list) = _
  rw [show intsD ((c :: xs).map Datum.toD) = none from rfl]
  dsimp only
  unfold sortD2
  rw [show allO i2D ((c :: xs).map Datum.toD) = none from rfl]
  dsimp only
  rw [allO_toD (f := i22D) (e := Datum.toD) (fun a => rfl)]
  rfl
theorem dSort_nil : dSort (.list []) = some (.list []) := rfl
end Fw

set_option linter.all false
set_option maxRecDepth 100000
set_option maxHeartbeats 8000000
namespace Sb
open PySem PySem.Spec PyProof.Rows L2 Fw
open PySem.W (Datum DatumOrd Tup)
theorem draw_at {k n : Int} {p : PenS} (i : Nat) {sl : List Slot} {f : FG (List D)} (h : GoodP k p) (hk : k < 999999999) (h0 : 0 < n) (h1 : n < 1000000) (hf : f ⟨sl, p⟩ = some (.v [.int n], p)) (hp : Fw.isP ⟨sl, p⟩ i = true) :
    ∃ (d : Nat) (p' : PenS), callP 1 i drawF f ⟨sl, p⟩ = some (.v (.int d), p') ∧ (d : Int) < n ∧ GoodP (k + 1) p' := by
  obtain ⟨d, p', hd, d0, d1, g⟩ := draw_spec (m := n) h hk h0 h1
  obtain ⟨d, rfl⟩ : ∃ m : Nat, d = (m : Int) := ⟨d.toNat, by omega⟩
  exact ⟨d, p', callP_at hf rfl hp hd, d1, g⟩
theorem pick_spec {k : Int} {p : PenS} {ds : List D} (h : GoodP k p) (hk : k < 999999999) (h0 : 0 < ds.length) (h1 : ds.length < 1000000) :
    ∃ (x : D) (p' : PenS), defF true 2 F__law_pick [.list ds] p = some (.v x, p') ∧ x ∈ ds ∧ GoodP (k + 1) p' := by
  obtain ⟨d, p', hd, d1, g⟩ := draw_at (n := (ds.length : Int)) (sl := [.p, .d (.list ds)]) 0 (f := consG (op1 dLen (slotD 1)) (retG [])) h hk (by omega) (by omega) rfl rfl
  have hi : d < ds.length := by omega
  have hx : dIx (.list ds) (.int d) = some ds[d] := by
    show L2.atI ds d = _
    unfold L2.atI ixN
    rw [if_pos (by omega), if_pos (by omega)]
    exact List.getElem?_eq_getElem hi
  refine ⟨ds[d], p', ?_, List.getElem_mem hi, g⟩
  have h2 : F__law_pick ⟨[.p, .d (.list ds)], p⟩ = _ := ret_at (op2_at (f := slotD 1) (p1 := p) rfl hd hx)
  show ofFl (F__law_pick ⟨[.p, .d (.list ds)], p⟩) = _
  rw [h2]
  rfl
theorem par_at {i j : Nat} {f : FG (List D)} {sl : List Slot} {p p1 : PenS} {a b : D} (h : f ⟨sl, p⟩ = some (.v [a, b], p1)) : parS i j f ⟨sl, p⟩ = some (.nx, ⟨(sl.set i (.d a)).set j (.d b), p1⟩) := by
  unfold parS thenS
  rw [h]
theorem kinds_at {sl : List Slot} {p : PenS} : op1 dLst (callN 0 (defF false 0 F__law_kinds) (retG [])) ⟨sl, p⟩ = some (.v (.list kdsD), p) :=
  op1_at (a := .tuple kdsD) (callN_at (ds := []) rfl rfl fun p => by rfl) rfl
theorem rise_at (k : Kd) : (dEq (.str k.nm) (.str "up")).bind dInt = some (.int k.rise) := by
  rw [up_eq]
  rcases rise_01 k with e | e <;> rw [e] <;> rfl
/-- a list of ones is not empty -/
theorem ones_eq (l : List Int) : dEq (.list (l.map fun _ => PyData.int 1)) (.list []) = some (.bool (decide (l = []))) := by
  have z := dEq_toD (α := List Int) (by decide) (l.map fun _ => (1 : Int)) []
  have e1 : (Datum.toD (l.map fun _ => (1 : Int)) : D) = .list (l.map fun _ => PyData.int 1) := by
    show PyData.list ((l.map fun _ => (1 : Int)).map PyData.int) = _
    rw [List.map_map]
    rfl
  rw [e1] at z
  refine z.trans ?_
  congr 2
  exact decide_eq_decide.mpr (by simp)
theorem touches_at {sl : List Slot} {p : PenS} {i j : Nat} (k1 k2 : Kd) (r1 r2 x : Int) (h1 : sl[i]? = some (.d (tile k1 r1))) (h2 : sl[j]? = some (.d (tile k2 r2))) :
    callN 2 (defF false 6 F__law_touches) (consG (callX 2 (defF false 5 F_cells_at) (consG (slotD i) (consG (retG (.int 40)) (retG [])))) (consG (callX 2 (defF false 5 F_cells_at) (consG (slotD j) (consG (retG (.int x)) (retG [])))) (retG []))) ⟨sl, p⟩ =
      some (.v (.list (touchL (touchN (at_ k1 r1 40) (dedup (at_ k2 r2 x))))), p) := by
  have s1 : slotD i ⟨sl, p⟩ = some (.v (tile k1 r1), p) := by unfold slotD; rw [h1]
  have s2 : slotD j ⟨sl, p⟩ = some (.v (tile k2 r2), p) := by unfold slotD; rw [h2]
  refine callN_at (ds := [.tuple (cellL (at_ k1 r1 40)), .tuple (cellL (at_ k2 r2 x))]) ?_ rfl (v_touches _ _ (at_len _ _ _) (by have := at_len k2 r2 x; omega))
  refine cons_at (callX_at (ds := [tile k1 r1, .int 40]) (cons_at s1 rfl) rfl (v_cells_at k1 r1 40)) (cons_at (callX_at (ds := [tile k2 r2, .int x]) (cons_at s2 rfl) rfl (v_cells_at k2 r2 x)) rfl)
theorem sort_same (ts : List (I2 × I2)) : ∃ es : List (I2 × I2), dSort (.list (touchL ts)) = some (.list (touchL es)) := by
  cases ts with
  | nil => exact ⟨[], rfl⟩
  | cons t ts => exact ⟨_, dSort_pairs t ts⟩
theorem pair_right {k : Int} {p : PenS} (g : GoodP k p) (hk : k < 999999990) : ∃ p', defF true 10 F__law_pair_right [] p = some (.v (.bool true), p') ∧ GoodP (k + 4) p' := by
  obtain ⟨d1, p1, h1, m1, g1⟩ := pick_spec (ds := kdsD) g (by omega) (by decide) (by decide)
  obtain ⟨k1, rfl⟩ := kd_of m1
  obtain ⟨d2, p2, h2, m2, g2⟩ := pick_spec (ds := kdsD) g1 (by omega) (by decide) (by decide)
  obtain ⟨k2, rfl⟩ := kd_of m2
  obtain ⟨a, p3, h3, _, g3⟩ := draw_at (n := 3) (sl := [.p, .d (.str k1.nm), .d (.str k2.nm), .u, .u, .u, .u, .u, .u, .u]) (f := consG (retG (.int 3)) (retG [])) 0 g2 (by omega) (by decide) (by decide) rfl rfl
  obtain ⟨r1, e1⟩ : ∃ r1 : Int, r1 = 3 + (a : Int) := ⟨_, rfl⟩
  obtain ⟨b, p4, h4, _, g4⟩ := draw_at (n := 10) (sl := [.p, .d (.str k1.nm), .d (.str k2.nm), .d (tile k1 r1), .u, .u, .u, .u, .u, .u]) (f := consG (retG (.int 10)) (retG [])) 0 g3 (by omega) (by decide) (by decide) rfl rfl
  obtain ⟨r2, e2⟩ : ∃ r2 : Int, r2 = (b : Int) + k2.rise := ⟨_, rfl⟩
  refine ⟨p4, ?_, by have e : k + 4 = k + 1 + 1 + 1 + 1 := by omega
                     rw [e]; exact g4⟩
  let oD := PyData.list (intL (outsY k1 r1))
  let iD := PyData.list (intL (insY k2 r2))
  let dD := PyData.list (touchL (dueL k1 k2 r1 r2))
  have run : F__law_pair_right ⟨[.p, .u, .u, .u, .u, .u, .u, .u, .u, .u], p⟩ = some (.rt (.bool true), ⟨[.p, .d (.str k1.nm), .d (.str k2.nm), .d (tile k1 r1), .d (tile k2 r2), .d oD, .d iD, .d dD, .u, .u], p4⟩) := by
    unfold F__law_pair_right
    refine seq_at (e1 := ⟨[.p, .d (.str k1.nm), .d (.str k2.nm), .u, .u, .u, .u, .u, .u, .u], p2⟩) ?_ ?_
    · exact par_at (cons_at (callP_at (cons_at kinds_at rfl) rfl rfl h1) (cons_at (callP_at (cons_at kinds_at rfl) rfl rfl h2) rfl))
    refine seq_at (e1 := ⟨[.p, .d (.str k1.nm), .d (.str k2.nm), .d (tile k1 r1), .u, .u, .u, .u, .u, .u], p3⟩) ?_ ?_
    · refine asg_at 3 (tup_at (ds := [.str k1.nm, .int r1]) (cons_at (p1 := p2) rfl (cons_at (op2_at (a := .int 3) (p1 := p2) rfl h3 (by rw [e1]; rfl)) rfl)) (by simp))
    refine seq_at (e1 := ⟨[.p, .d (.str k1.nm), .d (.str k2.nm), .d (tile k1 r1), .d (tile k2 r2), .u, .u, .u, .u, .u], p4⟩) ?_ ?_
    · refine asg_at 4 (tup_at (ds := [.str k2.nm, .int r2]) (cons_at (p1 := p3) rfl (cons_at (op2_at (b := .int k2.rise) (p1 := p4) h4 ?_ (by rw [e2]; rfl)) rfl)) (by simp))
      have q := rise_at k2
      rw [up_eq] at q
      exact op1_at (op2_p (a := .str k2.nm) (b := .str "up") rfl rfl (up_eq k2)) q
    refine seq_at (e1 := ⟨[.p, .d (.str k1.nm), .d (.str k2.nm), .d (tile k1 r1), .d (tile k2 r2), .u, .u, .u, .u, .u], p4⟩) ?_ ?_
    · -- rows apart
      have c := lcG_of (p := p4) (sl := [.p, .d (.str k1.nm), .d (.str k2.nm), .d (tile k1 r1), .d (tile k2 r2), .u, .u, .u, .u, .u]) (vs := [8]) (fi := seqI (callN 1 (defF false 2 F_rows_of) (consG (slotD 3) (retG [])))) (ft := nameT 8) (test := testG (op2 dInU (slotD 8) (callN 1 (defF false 2 F_rows_of) (consG (slotD 4) (retG []))))) (elt := retG (.int 1))
        (e := PyData.int) (t := fun x => decide (x ∈ rowsL k2 r2)) (g := fun _ => .int 1) (xs := rowsL k1 r1) (seqI_at (callN_at (ds := [tile k1 r1]) rfl rfl (v_rows_of k1 r1)) rfl) rfl (by unfold rowsL; split <;> simp) fun x _ =>
          ⟨_, rfl, test_at (op2_p (a := .int x) (b := .tuple (intL (rowsL k2 r2))) rfl (callN_at (ds := [tile k2 r2]) rfl rfl (v_rows_of k2 r2)) (dIn_tup (α := Int) (by decide) x (rowsL k2 r2))), fun _ => rfl⟩
      refine if_at (b := decide ((rowsL k1 r1).filter (fun x => decide (x ∈ rowsL k2 r2)) = [])) (test_at (op2_p c rfl (ones_eq _))) (fun h => ?_) (fun _ => rfl)
      have apart : ∀ x ∈ rowsL k1 r1, x ∉ rowsL k2 r2 := fun x hx m => by
        have := of_decide_eq_true h
        rw [List.filter_eq_nil_iff] at this
        exact this x hx (decide_eq_true m)
      have t := touches_at (p := p4) (sl := [.p, .d (.str k1.nm), .d (.str k2.nm), .d (tile k1 r1), .d (tile k2 r2), .u, .u, .u, .u, .u]) (i := 3) (j := 4) k1 k2 r1 r2 40 rfl rfl
      rw [touch_40 k1 k2 r1 r2 apart] at t
      exact if_at (b := false) (test_at (op2_p t rfl rfl)) (fun h => by cases h) (fun _ => rfl)
    refine seq_at (e1 := ⟨[.p, .d (.str k1.nm), .d (.str k2.nm), .d (tile k1 r1), .d (tile k2 r2), .d oD, .u, .u, .u, .u], p4⟩) ?_ ?_
    · have c := lcG_all (p := p4) (sl := [.p, .d (.str k1.nm), .d (.str k2.nm), .d (tile k1 r1), .d (tile k2 r2), .u, .u, .u, .u, .u]) (vs := [8]) (fi := seqI (callX 1 (defF false 1 F_outs_of) (consG (slotD 1) (retG [])))) (ft := nameT 8) (elt := op2 dMulU (retG (.int 8)) (op2 dAdd (callN 1 (defF false 3 F_upper) (consG (slotD 3) (retG []))) (slotD 8)))
        (e := PyData.int) (g := fun o => .int (8 * (upr k1 r1 + o))) (xs := k1.outs) (seqI_at (callX_at (ds := [.str k1.nm]) rfl rfl (v_outs_of k1)) rfl) rfl (by cases k1 <;> decide) fun x _ =>
          ⟨_, rfl, op2_p (b := .int (upr k1 r1 + x)) rfl (op2_p (a := .int (upr k1 r1)) (b := .int x) (callN_at (ds := [tile k1 r1]) rfl rfl (v_upper k1 r1)) rfl rfl) (small8 _)⟩
      have e3 : PyData.list (k1.outs.map fun o => PyData.int (8 * (upr k1 r1 + o))) = oD := by
        show _ = PyData.list (intL (outsY k1 r1))
        unfold intL outsY
        rw [List.map_map]
        rfl
      rw [e3] at c
      exact asg_at 5 c
    refine seq_at (e1 := ⟨[.p, .d (.str k1.nm), .d (.str k2.nm), .d (tile k1 r1), .d (tile k2 r2), .d oD, .d iD, .u, .u, .u], p4⟩) ?_ ?_
    · have c := lcG_all (p := p4) (sl := [.p, .d (.str k1.nm), .d (.str k2.nm), .d (tile k1 r1), .d (tile k2 r2), .d oD, .u, .u, .u, .u]) (vs := [8]) (fi := seqI (callX 1 (defF false 1 F_ins_of) (consG (slotD 2) (retG [])))) (ft := nameT 8) (elt := op2 dMulU (retG (.int 8)) (op2 dAdd (callN 1 (defF false 3 F_upper) (consG (slotD 4) (retG []))) (slotD 8)))
        (e := PyData.int) (g := fun o => .int (8 * (upr k2 r2 + o))) (xs := k2.ins) (seqI_at (callX_at (ds := [.str k2.nm]) rfl rfl (v_ins_of k2)) rfl) rfl (by cases k2 <;> decide) fun x _ =>
          ⟨_, rfl, op2_p (b := .int (upr k2 r2 + x)) rfl (op2_p (a := .int (upr k2 r2)) (b := .int x) (callN_at (ds := [tile k2 r2]) rfl rfl (v_upper k2 r2)) rfl rfl) (small8 _)⟩
      have e3 : PyData.list (k2.ins.map fun o => PyData.int (8 * (upr k2 r2 + o))) = iD := by
        show _ = PyData.list (intL (insY k2 r2))
        unfold intL insY
        rw [List.map_map]
        rfl
      rw [e3] at c
      exact asg_at 6 c
    refine seq_at (e1 := ⟨[.p, .d (.str k1.nm), .d (.str k2.nm), .d (tile k1 r1), .d (tile k2 r2), .d oD, .d iD, .d dD, .u, .u], p4⟩) ?_ ?_
    · have c := lcG_of (p := p4) (sl := [.p, .d (.str k1.nm), .d (.str k2.nm), .d (tile k1 r1), .d (tile k2 r2), .d oD, .d iD, .u, .u, .u]) (vs := [9]) (fi := seqI (slotD 5)) (ft := nameT 9) (test := testG (op2 dInU (slotD 9) (slotD 6))) (elt := tupG (consG (tupG (consG (retG (.int 59)) (consG (slotD 9) (retG [])))) (consG (tupG (consG (retG (.int 60)) (consG (slotD 9) (retG [])))) (retG []))))
        (e := PyData.int) (t := fun y => decide (y ∈ insY k2 r2)) (g := fun y => cd2 ((59, y), (60, y))) (xs := outsY k1 r1) rfl rfl (by unfold outsY; rw [List.length_map]; cases k1 <;> decide) fun y _ =>
          ⟨_, rfl, test_at (op2_p (a := .int y) (b := iD) rfl rfl (dIn_lst (α := Int) (by decide) y (insY k2 r2))), fun _ => rfl⟩
      have e3 : PyData.list (((outsY k1 r1).filter fun y => decide (y ∈ insY k2 r2)).map fun y => cd2 ((59, y), (60, y))) = dD := by
        show _ = PyData.list (touchL (dueL k1 k2 r1 r2))
        unfold touchL dueL
        rw [List.map_map]
        rfl
      rw [e3] at c
      exact asg_at 7 c
    refine seq_at (e1 := ⟨[.p, .d (.str k1.nm), .d (.str k2.nm), .d (tile k1 r1), .d (tile k2 r2), .d oD, .d iD, .d dD, .u, .u], p4⟩) ?_ ?_
    · have t := touches_at (p := p4) (sl := [.p, .d (.str k1.nm), .d (.str k2.nm), .d (tile k1 r1), .d (tile k2 r2), .d oD, .d iD, .d dD, .u, .u]) (i := 3) (j := 4) k1 k2 r1 r2 60 rfl rfl
      rw [touch_60] at t
      obtain ⟨es, hs⟩ := sort_same (dueL k1 k2 r1 r2)
      have q := dNe_toD (α := List (I2 × I2)) (by decide) es es
      rw [decide_eq_true rfl] at q
      exact if_at (b := false) (test_at (op2_p (op1_at t hs) (op1_at (a := dD) rfl hs) q)) (fun h => by cases h) (fun _ => rfl)
    · have t := touches_at (p := p4) (sl := [.p, .d (.str k1.nm), .d (.str k2.nm), .d (tile k1 r1), .d (tile k2 r2), .d oD, .d iD, .d dD, .u, .u]) (i := 3) (j := 4) k1 k2 r1 r2 80 rfl rfl
      rw [touch_80] at t
      exact ret_at (op2_p t rfl rfl)
  have run : F__law_pair_right ⟨slots0 true 10 [], p⟩ = _ := run
  exact (ofFl_rt run)
end Sb

set_option linter.all false
set_option maxRecDepth 100000
set_option maxHeartbeats 8000000
namespace Sb
open PySem PySem.Spec PyProof.Rows L2 Fw
open PySem.W (Datum DatumOrd Tup)
/-- a loop whose turns draw -/
theorem forL_ex {ft : FT} {body : FS} {c : Int} {I : List Slot → Prop} (hc : 0 ≤ c) : ∀ (ds : List D), (∀ d ∈ ds, ∀ k sl p, I sl → GoodP k p → k < 999999900 → ∃ sl1 sl' p', ft d sl = some sl1 ∧ body ⟨sl1, p⟩ = some (.nx, ⟨sl', p'⟩) ∧ I sl' ∧ GoodP (k + c) p') →
    ∀ k sl p, I sl → GoodP k p → k + c * ds.length < 999999900 → ∃ sl' p', forL ft body ds ⟨sl, p⟩ = some (.nx, ⟨sl', p'⟩) ∧ I sl' ∧ GoodP (k + c * ds.length) p'
  | [], _, k, sl, p, hI, g, _ => ⟨sl, p, rfl, hI, by rw [List.length_nil]; simpa using g⟩
  | d :: ds, h, k, sl, p, hI, g, hk => by
    have e1 : k + c * ((d :: ds).length : Nat) = k + c + c * (ds.length : Nat) := by rw [List.length_cons]; rw [Int.natCast_succ, Int.mul_add]; omega
    have hm : 0 ≤ c * (ds.length : Nat) := Int.mul_nonneg hc (by omega)
    obtain ⟨sl1, sl2, p2, h1, h2, h3, h4⟩ := h d (.head _) k sl p hI g (by omega)
    obtain ⟨sl3, p3, h5, h6, h7⟩ := forL_ex hc ds (fun d hd => h d (.tail _ hd)) (k + c) sl2 p2 h3 h4 (by omega)
    refine ⟨sl3, p3, ?_, h6, by rw [e1]; exact h7⟩
    unfold forL
    dsimp only
    rw [h1]
    dsimp only
    rw [h2]
    exact h5
theorem w1 (p : PenS) : W1 ⟨[.u, .p, .u, .u, .u, .u, .u, .u, .u, .u], p⟩ = some (.nx, ⟨[.u, .p, .u, .u, .u, .u, .u, .u, .u, .u], p⟩) := by kernel_rfl
theorem if_no {a b : FG D} {x y : D} {sl : List Slot} {p : PenS} (ha : a ⟨sl, p⟩ = some (.v x, p)) (hb : b ⟨sl, p⟩ = some (.v y, p)) (h : dNe x y = some (.bool false)) : ifS (testG (op2 dNe a b)) (retS (retG (.bool false))) nextS ⟨sl, p⟩ = some (.nx, ⟨sl, p⟩) :=
  if_at (b := false) (test_at (op2_p ha hb h)) (fun h => by cases h) (fun _ => rfl)
theorem tup2_at {a b : FG D} {x y : D} {sl : List Slot} {p : PenS} (ha : a ⟨sl, p⟩ = some (.v x, p)) (hb : b ⟨sl, p⟩ = some (.v y, p)) : tupG (consG a (consG b (retG []))) ⟨sl, p⟩ = some (.v (.tuple [x, y]), p) :=
  tup_at (ds := [x, y]) (cons_at ha (cons_at hb rfl)) (by simp)
theorem ports_same (k : Kd) : dNe (.tuple [kD (intL k.ins), kD (intL k.outs)]) (.tuple [.tuple (intL k.ins), .tuple (intL k.outs)]) = some (.bool false) := by cases k <;> kernel_rfl
theorem rows_same (a : Int) (rs : List Int) : dNe (.tuple [.int a, .tuple (intL rs)]) (.tuple [.int a, .tuple (intL rs)]) = some (.bool false) := by
  have z := dNe_toD (α := Int × Tup Int) (by decide) (a, ⟨rs⟩) (a, ⟨rs⟩)
  rw [decide_eq_true rfl] at z
  exact z
theorem cells_same (cs : List I2) : dNe (.tuple (cellL cs)) (.tuple (cellL cs)) = some (.bool false) := by
  have z := dNe_toD (α := Tup I2) (by decide) ⟨cs⟩ ⟨cs⟩
  rw [decide_eq_true rfl] at z
  exact z
def I2s (sl : List Slot) : Prop := ∃ x2 x3 x4 x8 : Slot, sl = [.u, .p, x2, x3, x4, .u, .u, .u, x8, .u]
theorem w2 {k : Int} {p : PenS} (g : GoodP k p) (hk : k < 999999800) : ∃ sl' p', W2 ⟨[.u, .p, .u, .u, .u, .u, .u, .u, .u, .u], p⟩ = some (.nx, ⟨sl', p'⟩) ∧ I2s sl' ∧ GoodP (k + 14) p' := by
  obtain ⟨sl', p', h1, h2, h3⟩ := forL_ex (ft := nameT 8) (body := W2_B) (c := 2) (I := I2s) (by omega) kdsD (fun d hd k sl p hI g hk => by
    obtain ⟨x2, x3, x4, x8, rfl⟩ := hI
    obtain ⟨kd, rfl⟩ := kd_of hd
    obtain ⟨a, p1, h1, _, g1⟩ := draw_at (n := 40) (sl := [.u, .p, x2, x3, x4, .u, .u, .u, .d (.str kd.nm), .u]) (f := consG (retG (.int 40)) (retG [])) 1 g (by omega) (by decide) (by decide) rfl rfl
    obtain ⟨b, p2, h2, _, g2⟩ := draw_at (n := 2000) (sl := [.u, .p, x2, x3, x4, .u, .u, .u, .d (.str kd.nm), .u]) (f := consG (retG (.int 2000)) (retG [])) 1 g1 (by omega) (by decide) (by decide) rfl rfl
    obtain ⟨r, er⟩ : ∃ r : Int, r = 1 + (a : Int) := ⟨_, rfl⟩
    refine ⟨[.u, .p, x2, x3, x4, .u, .u, .u, .d (.str kd.nm), .u], [.u, .p, .d (.int r), .d (.int b), .d (tile kd r), .u, .u, .u, .d (.str kd.nm), .u], p2, rfl, ?_, ⟨_, _, _, _, rfl⟩, by rw [show k + 2 = k + 1 + 1 by omega]; exact g2⟩
    unfold W2_B
    refine seq_at (e1 := ⟨[.u, .p, .d (.int r), .d (.int b), x4, .u, .u, .u, .d (.str kd.nm), .u], p2⟩) ?_ ?_
    · exact par_at (cons_at (op2_at (a := .int 1) (p1 := p) rfl h1 (by rw [er]; rfl)) (cons_at h2 rfl))
    refine seq_at (e1 := ⟨[.u, .p, .d (.int r), .d (.int b), .d (tile kd r), .u, .u, .u, .d (.str kd.nm), .u], p2⟩) rfl ?_
    refine seq_at (e1 := ⟨[.u, .p, .d (.int r), .d (.int b), .d (tile kd r), .u, .u, .u, .d (.str kd.nm), .u], p2⟩) ?_ ?_
    · exact if_no (tup2_at (callX_at (ds := [.str kd.nm]) rfl rfl (v_ins_of kd)) (callX_at (ds := [.str kd.nm]) rfl rfl (v_outs_of kd))) (tup2_at (callN_at (ds := [.str kd.nm]) rfl rfl (v_law_ins kd)) (callN_at (ds := [.str kd.nm]) rfl rfl (v_law_outs kd))) (ports_same kd)
    refine seq_at (e1 := ⟨[.u, .p, .d (.int r), .d (.int b), .d (tile kd r), .u, .u, .u, .d (.str kd.nm), .u], p2⟩) ?_ ?_
    · exact if_no (tup2_at (callN_at (ds := [tile kd r]) rfl rfl (v_upper kd r)) (callN_at (ds := [tile kd r]) rfl rfl (v_rows_of kd r))) (tup2_at (callN_at (ds := [tile kd r]) rfl rfl (v_law_upper kd r)) (callN_at (ds := [tile kd r]) rfl rfl (v_law_rows_of kd r))) (rows_same _ _)
    · exact if_no (callX_at (ds := [tile kd r, .int b]) rfl rfl (v_cells_at kd r b)) (callN_at (ds := [tile kd r, .int b]) rfl rfl (v_law_cells_at kd r b)) (cells_same _)) k [.u, .p, .u, .u, .u, .u, .u, .u, .u, .u] p ⟨_, _, _, _, rfl⟩ g (by show k + 2 * 7 < _; omega)
  refine ⟨sl', p', ?_, h2, h3⟩
  unfold W2 forS thenS
  have e : seqI (callN 0 (defF false 0 F__law_kinds) (retG [])) ⟨[.u, .p, .u, .u, .u, .u, .u, .u, .u, .u], p⟩ = some (.v kdsD, p) := seqI_at (d := .tuple kdsD) (callN_at (ds := []) rfl rfl fun p => by rfl) rfl
  rw [e]
  exact h1
def I3s (sl : List Slot) : Prop := ∃ x2 x3 x4 x5 x8 : Slot, sl = [.u, .p, x2, x3, x4, x5, .u, .u, x8, .u]
theorem w3 {k : Int} {p : PenS} {sl : List Slot} (hs : I2s sl) (g : GoodP k p) (hk : k < 999999800) : ∃ sl' p', W3 ⟨sl, p⟩ = some (.nx, ⟨sl', p'⟩) ∧ I3s sl' ∧ GoodP (k + 48) p' := by
  obtain ⟨sl', p', h1, h2, h3⟩ := forL_ex (ft := nameT 5) (body := W3_B) (c := 4) (I := I3s) (by omega) (rgD 0 12) (fun d hd k sl p hI g hk => by
    obtain ⟨x2, x3, x4, x5, x8, rfl⟩ := hI
    obtain ⟨p', h1, g1⟩ := pair_right g (by omega)
    refine ⟨[.u, .p, x2, x3, x4, .d d, .u, .u, x8, .u], [.u, .p, x2, x3, x4, .d d, .u, .u, x8, .u], p', rfl, ?_, ⟨_, _, _, _, _, rfl⟩, g1⟩
    unfold W3_B W3_1
    have c : callP 0 1 (defF true 10 F__law_pair_right) (retG []) ⟨[.u, .p, x2, x3, x4, .d d, .u, .u, x8, .u], p⟩ = some (.v (.bool true), p') := callP_at (ds := []) rfl rfl rfl h1
    unfold ifS thenS notG testG Fw.bindG
    rw [c]
    rfl) k sl p (by obtain ⟨x2, x3, x4, x8, rfl⟩ := hs; exact ⟨_, _, _, _, _, rfl⟩) g (by show k + 4 * 12 < _; omega)
  exact ⟨sl', p', h1, h2, h3⟩
def odds : List D := [.str "Wire", .str "", .none, .int 5, .tuple [.str "wire"], .list [], .dict [], .str "cross", .bool true]
def nmD (o : D) : D := .tuple [.str "name", o]
def told (n : Nat) (o : D) : Slot := .o (.list (List.replicate n (nmD o)))
theorem cW5 (p : PenS) (x2 x3 x4 x5 x7 x8 : Slot) : ∀ o ∈ odds, W5 ⟨[.u, .p, x2, x3, x4, x5, .u, x7, x8, .d o], p⟩ = some (.nx, ⟨[.u, .p, x2, x3, x4, x5, told 1 o, x7, x8, .d o], p⟩) := by
  refine all_cons (by kernel_rfl) ?_
  refine all_cons (by kernel_rfl) ?_
  refine all_cons (by kernel_rfl) ?_
  refine all_cons (by kernel_rfl) ?_
  refine all_cons (by kernel_rfl) ?_
  refine all_cons (by kernel_rfl) ?_
  refine all_cons (by kernel_rfl) ?_
  refine all_cons (by kernel_rfl) ?_
  refine all_cons (by kernel_rfl) ?_
  exact all_nil
theorem cW6 (p : PenS) (x2 x3 x4 x5 x7 x8 : Slot) : ∀ o ∈ odds, W6 ⟨[.u, .p, x2, x3, x4, x5, (told 1 o), x7, x8, .d o], p⟩ = some (.nx, ⟨[.u, .p, x2, x3, x4, x5, told 2 o, x7, x8, .d o], p⟩) := by
  refine all_cons (by kernel_rfl) ?_
  refine all_cons (by kernel_rfl) ?_
  refine all_cons (by kernel_rfl) ?_
  refine all_cons (by kernel_rfl) ?_
  refine all_cons (by kernel_rfl) ?_
  refine all_cons (by kernel_rfl) ?_
  refine all_cons (by kernel_rfl) ?_
  refine all_cons (by kernel_rfl) ?_
  refine all_cons (by kernel_rfl) ?_
  exact all_nil
theorem cW7 (p : PenS) (x2 x3 x4 x5 x7 x8 : Slot) : ∀ o ∈ odds, W7 ⟨[.u, .p, x2, x3, x4, x5, (told 2 o), x7, x8, .d o], p⟩ = some (.nx, ⟨[.u, .p, x2, x3, x4, x5, told 3 o, x7, x8, .d o], p⟩) := by
  refine all_cons (by kernel_rfl) ?_
  refine all_cons (by kernel_rfl) ?_
  refine all_cons (by kernel_rfl) ?_
  refine all_cons (by kernel_rfl) ?_
  refine all_cons (by kernel_rfl) ?_
  refine all_cons (by kernel_rfl) ?_
  refine all_cons (by kernel_rfl) ?_
  refine all_cons (by kernel_rfl) ?_
  refine all_cons (by kernel_rfl) ?_
  exact all_nil
theorem cW8 (p : PenS) (x2 x3 x4 x5 x7 x8 : Slot) : ∀ o ∈ odds, W8 ⟨[.u, .p, x2, x3, x4, x5, (told 3 o), x7, x8, .d o], p⟩ = some (.nx, ⟨[.u, .p, x2, x3, x4, x5, told 4 o, x7, x8, .d o], p⟩) := by
  refine all_cons (by kernel_rfl) ?_
  refine all_cons (by kernel_rfl) ?_
  refine all_cons (by kernel_rfl) ?_
  refine all_cons (by kernel_rfl) ?_
  refine all_cons (by kernel_rfl) ?_
  refine all_cons (by kernel_rfl) ?_
  refine all_cons (by kernel_rfl) ?_
  refine all_cons (by kernel_rfl) ?_
  refine all_cons (by kernel_rfl) ?_
  exact all_nil
theorem cW9 (p : PenS) (x2 x3 x4 x5 x7 x8 : Slot) : ∀ o ∈ odds, W9 ⟨[.u, .p, x2, x3, x4, x5, (told 4 o), x7, x8, .d o], p⟩ = some (.nx, ⟨[.u, .p, x2, x3, x4, x5, told 5 o, x7, x8, .d o], p⟩) := by
  refine all_cons (by kernel_rfl) ?_
  refine all_cons (by kernel_rfl) ?_
  refine all_cons (by kernel_rfl) ?_
  refine all_cons (by kernel_rfl) ?_
  refine all_cons (by kernel_rfl) ?_
  refine all_cons (by kernel_rfl) ?_
  refine all_cons (by kernel_rfl) ?_
  refine all_cons (by kernel_rfl) ?_
  refine all_cons (by kernel_rfl) ?_
  exact all_nil
theorem cW10 (p : PenS) (x2 x3 x4 x5 x7 x8 : Slot) : ∀ o ∈ odds, W10 ⟨[.u, .p, x2, x3, x4, x5, told 5 o, x7, x8, .d o], p⟩ = some (.nx, ⟨[.u, .p, x2, x3, x4, x5, told 5 o, x7, x8, .d o], p⟩) := by
  refine all_cons (by kernel_rfl) ?_
  refine all_cons (by kernel_rfl) ?_
  refine all_cons (by kernel_rfl) ?_
  refine all_cons (by kernel_rfl) ?_
  refine all_cons (by kernel_rfl) ?_
  refine all_cons (by kernel_rfl) ?_
  refine all_cons (by kernel_rfl) ?_
  refine all_cons (by kernel_rfl) ?_
  refine all_cons (by kernel_rfl) ?_
  exact all_nil
def bads (n : Nat) : List D := [.tuple [], .tuple [.int 0, .int 1, .int 1], .tuple (List.replicate n (.int 2)), .tuple (List.replicate n (.bool true)), .none, .str "1", .int 5, .dict []]
def badG : FG D := (lstG (consG (tupG (retG [])) (consG (tupG (consG (retG (.int 0)) (consG (retG (.int 1)) (consG (retG (.int 1)) (retG []))))) (consG (op2 dMulU (tupG (consG (retG (.int 2)) (retG []))) (op1 dLen (callN 1 (defF false 1 F__law_ins) (consG (slotD 8) (retG []))))) (consG (op2 dMulU (tupG (consG (retG (.bool true)) (retG []))) (op1 dLen (callN 1 (defF false 1 F__law_ins) (consG (slotD 8) (retG []))))) (consG (retG .none) (consG (retG (.str "1")) (consG (retG (.int 5)) (consG (retG (.dict [])) (retG []))))))))))
theorem bl_wire (p : PenS) (x2 x3 x4 x5 x6 x7 x9 : Slot) : badG ⟨[.u, .p, x2, x3, x4, x5, x6, x7, .d (.str "wire"), x9], p⟩ = some (.v (.list (bads (Kd.wire).ins.length)), p) := by kernel_rfl
theorem c13_wire (p : PenS) (x2 x3 x4 x5 x6 x9 : Slot) : ∀ b ∈ bads (Kd.wire).ins.length, W13 ⟨[.u, .p, x2, x3, x4, x5, x6, .d b, .d (.str "wire"), x9], p⟩ = some (.rt (.bool true), ⟨[.u, .p, x2, x3, x4, x5, x6, .d b, .d (.str "wire"), x9], p⟩) := by
  refine all_cons (by kernel_rfl) ?_
  refine all_cons (by kernel_rfl) ?_
  refine all_cons (by kernel_rfl) ?_
  refine all_cons (by kernel_rfl) ?_
  refine all_cons (by kernel_rfl) ?_
  refine all_cons (by kernel_rfl) ?_
  refine all_cons (by kernel_rfl) ?_
  refine all_cons (by kernel_rfl) ?_
  exact all_nil
theorem bl_up (p : PenS) (x2 x3 x4 x5 x6 x7 x9 : Slot) : badG ⟨[.u, .p, x2, x3, x4, x5, x6, x7, .d (.str "up"), x9], p⟩ = some (.v (.list (bads (Kd.up).ins.length)), p) := by kernel_rfl
theorem c13_up (p : PenS) (x2 x3 x4 x5 x6 x9 : Slot) : ∀ b ∈ bads (Kd.up).ins.length, W13 ⟨[.u, .p, x2, x3, x4, x5, x6, .d b, .d (.str "up"), x9], p⟩ = some (.rt (.bool true), ⟨[.u, .p, x2, x3, x4, x5, x6, .d b, .d (.str "up"), x9], p⟩) := by
  refine all_cons (by kernel_rfl) ?_
  refine all_cons (by kernel_rfl) ?_
  refine all_cons (by kernel_rfl) ?_
  refine all_cons (by kernel_rfl) ?_
  refine all_cons (by kernel_rfl) ?_
  refine all_cons (by kernel_rfl) ?_
  refine all_cons (by kernel_rfl) ?_
  refine all_cons (by kernel_rfl) ?_
  exact all_nil
theorem bl_down (p : PenS) (x2 x3 x4 x5 x6 x7 x9 : Slot) : badG ⟨[.u, .p, x2, x3, x4, x5, x6, x7, .d (.str "down"), x9], p⟩ = some (.v (.list (bads (Kd.down).ins.length)), p) := by kernel_rfl
theorem c13_down (p : PenS) (x2 x3 x4 x5 x6 x9 : Slot) : ∀ b ∈ bads (Kd.down).ins.length, W13 ⟨[.u, .p, x2, x3, x4, x5, x6, .d b, .d (.str "down"), x9], p⟩ = some (.rt (.bool true), ⟨[.u, .p, x2, x3, x4, x5, x6, .d b, .d (.str "down"), x9], p⟩) := by
  refine all_cons (by kernel_rfl) ?_
  refine all_cons (by kernel_rfl) ?_
  refine all_cons (by kernel_rfl) ?_
  refine all_cons (by kernel_rfl) ?_
  refine all_cons (by kernel_rfl) ?_
  refine all_cons (by kernel_rfl) ?_
  refine all_cons (by kernel_rfl) ?_
  refine all_cons (by kernel_rfl) ?_
  exact all_nil
theorem bl_copy (p : PenS) (x2 x3 x4 x5 x6 x7 x9 : Slot) : badG ⟨[.u, .p, x2, x3, x4, x5, x6, x7, .d (.str "copy"), x9], p⟩ = some (.v (.list (bads (Kd.copy).ins.length)), p) := by kernel_rfl
theorem c13_copy (p : PenS) (x2 x3 x4 x5 x6 x9 : Slot) : ∀ b ∈ bads (Kd.copy).ins.length, W13 ⟨[.u, .p, x2, x3, x4, x5, x6, .d b, .d (.str "copy"), x9], p⟩ = some (.rt (.bool true), ⟨[.u, .p, x2, x3, x4, x5, x6, .d b, .d (.str "copy"), x9], p⟩) := by
  refine all_cons (by kernel_rfl) ?_
  refine all_cons (by kernel_rfl) ?_
  refine all_cons (by kernel_rfl) ?_
  refine all_cons (by kernel_rfl) ?_
  refine all_cons (by kernel_rfl) ?_
  refine all_cons (by kernel_rfl) ?_
  refine all_cons (by kernel_rfl) ?_
  refine all_cons (by kernel_rfl) ?_
  exact all_nil
theorem bl_or (p : PenS) (x2 x3 x4 x5 x6 x7 x9 : Slot) : badG ⟨[.u, .p, x2, x3, x4, x5, x6, x7, .d (.str "or"), x9], p⟩ = some (.v (.list (bads (Kd.or).ins.length)), p) := by kernel_rfl
theorem c13_or (p : PenS) (x2 x3 x4 x5 x6 x9 : Slot) : ∀ b ∈ bads (Kd.or).ins.length, W13 ⟨[.u, .p, x2, x3, x4, x5, x6, .d b, .d (.str "or"), x9], p⟩ = some (.rt (.bool true), ⟨[.u, .p, x2, x3, x4, x5, x6, .d b, .d (.str "or"), x9], p⟩) := by
  refine all_cons (by kernel_rfl) ?_
  refine all_cons (by kernel_rfl) ?_
  refine all_cons (by kernel_rfl) ?_
  refine all_cons (by kernel_rfl) ?_
  refine all_cons (by kernel_rfl) ?_
  refine all_cons (by kernel_rfl) ?_
  refine all_cons (by kernel_rfl) ?_
  refine all_cons (by kernel_rfl) ?_
  exact all_nil
theorem bl_xor (p : PenS) (x2 x3 x4 x5 x6 x7 x9 : Slot) : badG ⟨[.u, .p, x2, x3, x4, x5, x6, x7, .d (.str "xor"), x9], p⟩ = some (.v (.list (bads (Kd.xor).ins.length)), p) := by kernel_rfl
theorem c13_xor (p : PenS) (x2 x3 x4 x5 x6 x9 : Slot) : ∀ b ∈ bads (Kd.xor).ins.length, W13 ⟨[.u, .p, x2, x3, x4, x5, x6, .d b, .d (.str "xor"), x9], p⟩ = some (.rt (.bool true), ⟨[.u, .p, x2, x3, x4, x5, x6, .d b, .d (.str "xor"), x9], p⟩) := by
  refine all_cons (by kernel_rfl) ?_
  refine all_cons (by kernel_rfl) ?_
  refine all_cons (by kernel_rfl) ?_
  refine all_cons (by kernel_rfl) ?_
  refine all_cons (by kernel_rfl) ?_
  refine all_cons (by kernel_rfl) ?_
  refine all_cons (by kernel_rfl) ?_
  refine all_cons (by kernel_rfl) ?_
  exact all_nil
theorem bl_but (p : PenS) (x2 x3 x4 x5 x6 x7 x9 : Slot) : badG ⟨[.u, .p, x2, x3, x4, x5, x6, x7, .d (.str "but"), x9], p⟩ = some (.v (.list (bads (Kd.but).ins.length)), p) := by kernel_rfl
theorem c13_but (p : PenS) (x2 x3 x4 x5 x6 x9 : Slot) : ∀ b ∈ bads (Kd.but).ins.length, W13 ⟨[.u, .p, x2, x3, x4, x5, x6, .d b, .d (.str "but"), x9], p⟩ = some (.rt (.bool true), ⟨[.u, .p, x2, x3, x4, x5, x6, .d b, .d (.str "but"), x9], p⟩) := by
  refine all_cons (by kernel_rfl) ?_
  refine all_cons (by kernel_rfl) ?_
  refine all_cons (by kernel_rfl) ?_
  refine all_cons (by kernel_rfl) ?_
  refine all_cons (by kernel_rfl) ?_
  refine all_cons (by kernel_rfl) ?_
  refine all_cons (by kernel_rfl) ?_
  refine all_cons (by kernel_rfl) ?_
  exact all_nil
theorem bl (k : Kd) (p : PenS) (x2 x3 x4 x5 x6 x7 x9 : Slot) : badG ⟨[.u, .p, x2, x3, x4, x5, x6, x7, .d (.str k.nm), x9], p⟩ = some (.v (.list (bads k.ins.length)), p) := by
  cases k
  · exact bl_wire p x2 x3 x4 x5 x6 x7 x9
  · exact bl_up p x2 x3 x4 x5 x6 x7 x9
  · exact bl_down p x2 x3 x4 x5 x6 x7 x9
  · exact bl_copy p x2 x3 x4 x5 x6 x7 x9
  · exact bl_or p x2 x3 x4 x5 x6 x7 x9
  · exact bl_xor p x2 x3 x4 x5 x6 x7 x9
  · exact bl_but p x2 x3 x4 x5 x6 x7 x9
theorem c13 (k : Kd) (p : PenS) (x2 x3 x4 x5 x6 x9 : Slot) : ∀ b ∈ bads k.ins.length, W13 ⟨[.u, .p, x2, x3, x4, x5, x6, .d b, .d (.str k.nm), x9], p⟩ = some (.rt (.bool true), ⟨[.u, .p, x2, x3, x4, x5, x6, .d b, .d (.str k.nm), x9], p⟩) := by
  cases k
  · exact c13_wire p x2 x3 x4 x5 x6 x9
  · exact c13_up p x2 x3 x4 x5 x6 x9
  · exact c13_down p x2 x3 x4 x5 x6 x9
  · exact c13_copy p x2 x3 x4 x5 x6 x9
  · exact c13_or p x2 x3 x4 x5 x6 x9
  · exact c13_xor p x2 x3 x4 x5 x6 x9
  · exact c13_but p x2 x3 x4 x5 x6 x9
theorem law_holds : ∀ pp, GoodP 0 pp → ∃ e', F_law ⟨lawSl 10, pp⟩ = some (.rt (.bool true), e') := by
  intro pp g
  obtain ⟨sl2, p2, h2, i2, g2⟩ := w2 g (by omega)
  obtain ⟨sl3, p3, h3, i3, g3⟩ := w3 i2 g2 (by omega)
  obtain ⟨x2, x3, x4, x5, x8, rfl⟩ := i3
  obtain ⟨o, p4, h4, mo, g4⟩ := pick_spec (ds := odds) g3 (by omega) (by decide) (by decide)
  obtain ⟨kd, p5, h5, mk, g5⟩ := pick_spec (ds := kdsD) g4 (by omega) (by decide) (by decide)
  obtain ⟨k, rfl⟩ := kd_of mk
  obtain ⟨b, p6, h6, mb, g6⟩ := pick_spec (ds := bads k.ins.length) g5 (by omega) (by show 0 < 8; decide) (by show 8 < 1000000; decide)
  refine ⟨⟨[.u, .p, x2, x3, x4, x5, told 5 o, .d b, .d (.str k.nm), .d o], p6⟩, ?_⟩
  show F_law ⟨[.u, .p, .u, .u, .u, .u, .u, .u, .u, .u], pp⟩ = _
  unfold F_law
  refine seq_at (w1 pp) (seq_at h2 (seq_at h3 ?_))
  refine seq_at (e1 := ⟨[.u, .p, x2, x3, x4, x5, .u, .u, x8, .d o], p4⟩) (asg_at 9 (callP_at (cons_at (a := .list odds) (p1 := p3) rfl rfl) rfl rfl h4)) ?_
  refine seq_at (cW5 p4 x2 x3 x4 x5 .u x8 o mo) (seq_at (cW6 p4 x2 x3 x4 x5 .u x8 o mo) (seq_at (cW7 p4 x2 x3 x4 x5 .u x8 o mo) (seq_at (cW8 p4 x2 x3 x4 x5 .u x8 o mo) (seq_at (cW9 p4 x2 x3 x4 x5 .u x8 o mo) (seq_at (cW10 p4 x2 x3 x4 x5 .u x8 o mo) ?_)))))
  refine seq_at (e1 := ⟨[.u, .p, x2, x3, x4, x5, told 5 o, .u, .d (.str k.nm), .d o], p5⟩) (asg_at 8 (callP_at (cons_at kinds_at rfl) rfl rfl h5)) ?_
  refine seq_at (e1 := ⟨[.u, .p, x2, x3, x4, x5, told 5 o, .d b, .d (.str k.nm), .d o], p6⟩) (asg_at 7 (callP_at (cons_at (bl k p5 x2 x3 x4 x5 (told 5 o) .u (.d o)) rfl) rfl rfl h6)) ?_
  exact c13 k p6 x2 x3 x4 x5 (told 5 o) (.d o) b mb
end Sb

set_option linter.all false
set_option maxRecDepth 100000
set_option maxHeartbeats 0
namespace Sb
open PySem PySem.Spec PyProof.Rows L2 Fw
theorem at__law_fault {K : PySem.W.Frag} {mg : Str → Option Value} {XC : Str → Option Addr} {g0 : Addr} {C_BadNumber C_BadRow C_BadName : Addr} (T : Bv mg) (M : Exm ⟨K, XC⟩ ["BadNumber", "BadRow", "BadName"]) (V_BadRow : XC "BadRow" = some C_BadRow) (m_BadRow : mg "BadRow" = some (.ref C_BadRow)) (X_BadRow : XfC K C_BadRow) (n_BadRow_row : PySem.W.findIn K (.ref C_BadRow) "row" = some none) (V_BadNumber : XC "BadNumber" = some C_BadNumber) (m_BadNumber : mg "BadNumber" = some (.ref C_BadNumber)) (X_BadNumber : XfC K C_BadNumber) (n_BadNumber_what : PySem.W.findIn K (.ref C_BadNumber) "what" = some none) (n_BadNumber_number : PySem.W.findIn K (.ref C_BadNumber) "number" = some none) (V_BadName : XC "BadName" = some C_BadName) (m_BadName : mg "BadName" = some (.ref C_BadName)) (X_BadName : XfC K C_BadName) (n_BadName_name : PySem.W.findIn K (.ref C_BadName) "name" = some none) (X : Cx) (eK : X.K = K) (em : X.mg = mg) (hg : X.A.guards = some []) (hu : X.A.units + 80 < cLine) (q0 : Str) (cd0 : Value) : LamX.GivesTo X ["_law_call", "_law_told", "error"] "_law_fault" (defScope (top 60)) g0 cd0 (defBody (top 60)) "_law_call" q0 (TTw ⟨K, XC⟩ 3 F__law_fault) := by
  subst eK
  subst em
  exact gives__law_fault T hg hu M V_BadRow m_BadRow X_BadRow n_BadRow_row V_BadNumber m_BadNumber X_BadNumber n_BadNumber_what n_BadNumber_number V_BadName m_BadName X_BadName n_BadName_name
theorem all_mk {l : PySem.W.OpenLaw} {w : World} {K : PySem.W.Frag} {h : Heap} {mg : Str → Option Value} {fa : Addr} (X : K.In h) (G : h.Ns mainGlobals mg) (hfa : mg "law" = some (.ref fa)) (own : OwnT fa h)
    {C_BadNumber N_BadNumber C_BadRow N_BadRow C_BadName N_BadName C_SparkError p_INS p_ONE_WAYS p_OUTS p_RUNS f_BadNumber f_BadRow f_BadName f_is_integer f_is_below f_is_row f_is_bits f_is_kind f__check_kind f_kinds f_ins_of f_outs_of f_word_of f__run f_tile_cells f_upper f_rows_of f_cells_at f_is_tile f__law_pen f__law_draw f__law_pick f__law_known f__law_line f__law_one_way f__law_shape f__law_kinds f__law_ins f__law_outs f__law_upper f__law_rows_of f__law_cells_at f__law_near f__law_fault f__law_touches f__law_pair_right f_law c_law P_law : Addr} {q_BadNumber q_BadRow q_BadName : Str} {bs_BadNumber sb_BadNumber bs_BadRow sb_BadRow bs_BadName sb_BadName : List Value} {sn_BadNumber sn_BadRow sn_BadName : List Str} {ab_BadNumber ab_BadRow ab_BadName : Bool} {co_BadNumber co_BadRow co_BadName : Option Bool} {dd_BadNumber dd_BadRow dd_BadName od_BadNumber an_BadNumber od_BadRow an_BadRow od_BadName an_BadName od_is_integer an_is_integer od_is_below an_is_below od_is_row an_is_row od_is_bits an_is_bits od_is_kind an_is_kind od__check_kind an__check_kind od_kinds an_kinds od_ins_of an_ins_of od_outs_of an_outs_of od_word_of an_word_of od__run an__run od_tile_cells an_tile_cells od_upper an_upper od_rows_of an_rows_of od_cells_at an_cells_at od_is_tile an_is_tile od__law_pen an__law_pen od__law_draw an__law_draw od__law_pick an__law_pick od__law_known an__law_known od__law_line an__law_line od__law_one_way an__law_one_way od__law_shape an__law_shape od__law_kinds an__law_kinds od__law_ins an__law_ins od__law_outs an__law_outs od__law_upper an__law_upper od__law_rows_of an__law_rows_of od__law_cells_at an__law_cells_at od__law_near an__law_near od__law_fault an__law_fault od__law_touches an__law_touches od__law_pair_right an__law_pair_right od_law an_law oo_law : Option Addr} {k0_BadNumber k1_BadNumber k2_BadNumber k3_BadNumber k5_BadNumber k0_BadRow k1_BadRow k2_BadRow k3_BadRow k5_BadRow k0_BadName k1_BadName k2_BadName k3_BadName k5_BadName : Option Value} {U_KINDS U_ONE_WAY U_PITCH oc_BadNumber kV_BadNumber dc_BadNumber pm_BadNumber cd_BadNumber ct_BadNumber oc_BadRow kV_BadRow dc_BadRow pm_BadRow cd_BadRow ct_BadRow oc_BadName kV_BadName dc_BadName pm_BadName cd_BadName ct_BadName oc_is_integer kV_is_integer dc_is_integer pm_is_integer cd_is_integer ct_is_integer oc_is_below kV_is_below dc_is_below pm_is_below cd_is_below ct_is_below oc_is_row kV_is_row dc_is_row pm_is_row cd_is_row ct_is_row oc_is_bits kV_is_bits dc_is_bits pm_is_bits cd_is_bits ct_is_bits oc_is_kind kV_is_kind dc_is_kind pm_is_kind cd_is_kind ct_is_kind oc__check_kind kV__check_kind dc__check_kind pm__check_kind cd__check_kind ct__check_kind oc_kinds kV_kinds dc_kinds pm_kinds cd_kinds ct_kinds oc_ins_of kV_ins_of dc_ins_of pm_ins_of cd_ins_of ct_ins_of oc_outs_of kV_outs_of dc_outs_of pm_outs_of cd_outs_of ct_outs_of oc_word_of kV_word_of dc_word_of pm_word_of cd_word_of ct_word_of oc__run kV__run dc__run pm__run cd__run ct__run oc_tile_cells kV_tile_cells dc_tile_cells pm_tile_cells cd_tile_cells ct_tile_cells oc_upper kV_upper dc_upper pm_upper cd_upper ct_upper oc_rows_of kV_rows_of dc_rows_of pm_rows_of cd_rows_of ct_rows_of oc_cells_at kV_cells_at dc_cells_at pm_cells_at cd_cells_at ct_cells_at oc_is_tile kV_is_tile dc_is_tile pm_is_tile cd_is_tile ct_is_tile oc__law_pen kV__law_pen dc__law_pen pm__law_pen cd__law_pen ct__law_pen oc__law_draw kV__law_draw dc__law_draw pm__law_draw cd__law_draw ct__law_draw oc__law_pick kV__law_pick dc__law_pick pm__law_pick cd__law_pick ct__law_pick oc__law_known kV__law_known dc__law_known pm__law_known cd__law_known ct__law_known oc__law_line kV__law_line dc__law_line pm__law_line cd__law_line ct__law_line oc__law_one_way kV__law_one_way dc__law_one_way pm__law_one_way cd__law_one_way ct__law_one_way oc__law_shape kV__law_shape dc__law_shape pm__law_shape cd__law_shape ct__law_shape oc__law_kinds kV__law_kinds dc__law_kinds pm__law_kinds cd__law_kinds ct__law_kinds oc__law_ins kV__law_ins dc__law_ins pm__law_ins cd__law_ins ct__law_ins oc__law_outs kV__law_outs dc__law_outs pm__law_outs cd__law_outs ct__law_outs oc__law_upper kV__law_upper dc__law_upper pm__law_upper cd__law_upper ct__law_upper oc__law_rows_of kV__law_rows_of dc__law_rows_of pm__law_rows_of cd__law_rows_of ct__law_rows_of oc__law_cells_at kV__law_cells_at dc__law_cells_at pm__law_cells_at cd__law_cells_at ct__law_cells_at oc__law_near kV__law_near dc__law_near pm__law_near cd__law_near ct__law_near oc__law_fault kV__law_fault dc__law_fault pm__law_fault cd__law_fault ct__law_fault oc__law_touches kV__law_touches dc__law_touches pm__law_touches cd__law_touches ct__law_touches oc__law_pair_right kV__law_pair_right dc__law_pair_right pm__law_pair_right cd__law_pair_right ct__law_pair_right oc_law kV_law dc_law pm_law ct_law oe_law : Value} {sl_BadNumber sl_BadRow sl_BadName sl_is_integer sl_is_below sl_is_row sl_is_bits sl_is_kind sl__check_kind sl_kinds sl_ins_of sl_outs_of sl_word_of sl__run sl_tile_cells sl_upper sl_rows_of sl_cells_at sl_is_tile sl__law_pen sl__law_draw sl__law_pick sl__law_known sl__law_line sl__law_one_way sl__law_shape sl__law_kinds sl__law_ins sl__law_outs sl__law_upper sl__law_rows_of sl__law_cells_at sl__law_near sl__law_fault sl__law_touches sl__law_pair_right sl_law os_law : Array (Option Value)} {vs_law : Array Value}
    (hn : PySem.W.specialIn K (.builtin "object.__class__") "__get__" = some (some (.builtin "getset_descriptor.__get__")))
    (ht : PySem.W.takesIn K (.builtin "object.__class__") = some true)
    (g_BadNumber : PySem.W.nsIn K mainGlobals "BadNumber" = some (some (.ref C_BadNumber)))
    (x_BadNumber : K.lookup C_BadNumber = some (excClassObj "BadNumber" q_BadNumber C_BadNumber N_BadNumber bs_BadNumber [.ref C_SparkError, .type "ValueError", .type "Exception", .type "BaseException", .type "object"] true sn_BadNumber sb_BadNumber ab_BadNumber co_BadNumber dd_BadNumber k0_BadNumber k1_BadNumber k2_BadNumber k3_BadNumber k5_BadNumber "ValueError.__new__"))
    (sa_BadNumber : PySem.W.findIn K (.ref C_BadNumber) "__setattr__" = some (some (.builtin "object.__setattr__")))
    (ga_BadNumber : PySem.W.findIn K (.ref C_BadNumber) "__getattribute__" = some (some (.builtin "BaseException.__getattribute__")))
    (gg_BadNumber : PySem.W.findIn K (.ref C_BadNumber) "__getattr__" = some none)
    (hc_BadNumber : PySem.W.findIn K (.ref C_BadNumber) "__class__" = some (some (.builtin "object.__class__")))
    (kc_BadNumber : PySem.W.keepIn K (.ref C_BadNumber) = true)
    (n_BadNumber_what : PySem.W.findIn K (.ref C_BadNumber) "what" = some none)
    (n_BadNumber_number : PySem.W.findIn K (.ref C_BadNumber) "number" = some none)
    (g_BadRow : PySem.W.nsIn K mainGlobals "BadRow" = some (some (.ref C_BadRow)))
    (x_BadRow : K.lookup C_BadRow = some (excClassObj "BadRow" q_BadRow C_BadRow N_BadRow bs_BadRow [.ref C_SparkError, .type "ValueError", .type "Exception", .type "BaseException", .type "object"] true sn_BadRow sb_BadRow ab_BadRow co_BadRow dd_BadRow k0_BadRow k1_BadRow k2_BadRow k3_BadRow k5_BadRow "ValueError.__new__"))
    (sa_BadRow : PySem.W.findIn K (.ref C_BadRow) "__setattr__" = some (some (.builtin "object.__setattr__")))
    (ga_BadRow : PySem.W.findIn K (.ref C_BadRow) "__getattribute__" = some (some (.builtin "BaseException.__getattribute__")))
    (gg_BadRow : PySem.W.findIn K (.ref C_BadRow) "__getattr__" = some none)
    (hc_BadRow : PySem.W.findIn K (.ref C_BadRow) "__class__" = some (some (.builtin "object.__class__")))
    (kc_BadRow : PySem.W.keepIn K (.ref C_BadRow) = true)
    (n_BadRow_row : PySem.W.findIn K (.ref C_BadRow) "row" = some none)
    (g_BadName : PySem.W.nsIn K mainGlobals "BadName" = some (some (.ref C_BadName)))
    (x_BadName : K.lookup C_BadName = some (excClassObj "BadName" q_BadName C_BadName N_BadName bs_BadName [.ref C_SparkError, .type "ValueError", .type "Exception", .type "BaseException", .type "object"] true sn_BadName sb_BadName ab_BadName co_BadName dd_BadName k0_BadName k1_BadName k2_BadName k3_BadName k5_BadName "ValueError.__new__"))
    (sa_BadName : PySem.W.findIn K (.ref C_BadName) "__setattr__" = some (some (.builtin "object.__setattr__")))
    (ga_BadName : PySem.W.findIn K (.ref C_BadName) "__getattribute__" = some (some (.builtin "BaseException.__getattribute__")))
    (gg_BadName : PySem.W.findIn K (.ref C_BadName) "__getattr__" = some none)
    (hc_BadName : PySem.W.findIn K (.ref C_BadName) "__class__" = some (some (.builtin "object.__class__")))
    (kc_BadName : PySem.W.keepIn K (.ref C_BadName) = true)
    (n_BadName_name : PySem.W.findIn K (.ref C_BadName) "name" = some none)
    (m_BadNumber_BadNumber : PySem.W.exmOne K (.ref C_BadNumber) (.ref C_BadNumber) = some true)
    (m_BadNumber_BadRow : PySem.W.exmOne K (.ref C_BadNumber) (.ref C_BadRow) = some false)
    (m_BadNumber_BadName : PySem.W.exmOne K (.ref C_BadNumber) (.ref C_BadName) = some false)
    (m_BadRow_BadNumber : PySem.W.exmOne K (.ref C_BadRow) (.ref C_BadNumber) = some false)
    (m_BadRow_BadRow : PySem.W.exmOne K (.ref C_BadRow) (.ref C_BadRow) = some true)
    (m_BadRow_BadName : PySem.W.exmOne K (.ref C_BadRow) (.ref C_BadName) = some false)
    (m_BadName_BadNumber : PySem.W.exmOne K (.ref C_BadName) (.ref C_BadNumber) = some false)
    (m_BadName_BadRow : PySem.W.exmOne K (.ref C_BadName) (.ref C_BadRow) = some false)
    (m_BadName_BadName : PySem.W.exmOne K (.ref C_BadName) (.ref C_BadName) = some true)
    (g_KINDS : PySem.W.nsIn K mainGlobals "KINDS" = some (some U_KINDS))
    (r_KINDS : kRd K 8 U_KINDS = some (kD [(.str "wire"), (.str "up"), (.str "down"), (.str "copy"), (.str "or"), (.str "xor"), (.str "but")]))
    (g_ONE_WAY : PySem.W.nsIn K mainGlobals "ONE_WAY" = some (some U_ONE_WAY))
    (r_ONE_WAY : kRd K 8 U_ONE_WAY = some (kD [(kD [(.int 0), (.int 0)]), (kD [(.int 1), (.int 0)]), (kD [(.int 2), (.int (-1))]), (kD [(.int 2), (.int 0)]), (kD [(.int 2), (.int 1)]), (kD [(.int 3), (.int (-1))]), (kD [(.int 3), (.int 1)]), (kD [(.int 4), (.int 0)])]))
    (g_PITCH : PySem.W.nsIn K mainGlobals "PITCH" = some (some U_PITCH))
    (r_PITCH : kRd K 8 U_PITCH = some (.int 8))
    (g_INS : PySem.W.nsIn K mainGlobals "INS" = some (some (.ref p_INS)))
    (t_INS : He.dicW K p_INS = some (He.keysIn w.params (List.map (·.1) ([("wire", (kD [(.int 0)])), ("up", (kD [(.int 1)])), ("down", (kD [(.int 0)])), ("copy", (kD [(.int 0)])), ("or", (kD [(.int 0), (.int 1)])), ("xor", (kD [(.int 0), (.int 1)])), ("but", (kD [(.int 0), (.int 1)]))] : List (Str × D)))))
    (r_INS : mapO (fun q : Str × D => kAt K p_INS 8 q.1) ([("wire", (kD [(.int 0)])), ("up", (kD [(.int 1)])), ("down", (kD [(.int 0)])), ("copy", (kD [(.int 0)])), ("or", (kD [(.int 0), (.int 1)])), ("xor", (kD [(.int 0), (.int 1)])), ("but", (kD [(.int 0), (.int 1)]))] : List (Str × D)) = some (List.map (·.2) ([("wire", (kD [(.int 0)])), ("up", (kD [(.int 1)])), ("down", (kD [(.int 0)])), ("copy", (kD [(.int 0)])), ("or", (kD [(.int 0), (.int 1)])), ("xor", (kD [(.int 0), (.int 1)])), ("but", (kD [(.int 0), (.int 1)]))] : List (Str × D))))
    (g_ONE_WAYS : PySem.W.nsIn K mainGlobals "ONE_WAYS" = some (some (.ref p_ONE_WAYS)))
    (t_ONE_WAYS : He.dicW K p_ONE_WAYS = some (He.keysIn w.params (List.map (·.1) ([("wire", (kD [])), ("up", (kD [])), ("down", (kD [])), ("copy", (kD [])), ("or", (kD [(kD [(.int 3), (.int 2)]), (kD [(.int 3), (.int 6)])])), ("xor", (kD [(kD [(.int 3), (.int 2)]), (kD [(.int 3), (.int 6)])])), ("but", (kD [(kD [(.int 4), (.int 1)]), (kD [(.int 4), (.int 5)])]))] : List (Str × D)))))
    (r_ONE_WAYS : mapO (fun q : Str × D => kAt K p_ONE_WAYS 8 q.1) ([("wire", (kD [])), ("up", (kD [])), ("down", (kD [])), ("copy", (kD [])), ("or", (kD [(kD [(.int 3), (.int 2)]), (kD [(.int 3), (.int 6)])])), ("xor", (kD [(kD [(.int 3), (.int 2)]), (kD [(.int 3), (.int 6)])])), ("but", (kD [(kD [(.int 4), (.int 1)]), (kD [(.int 4), (.int 5)])]))] : List (Str × D)) = some (List.map (·.2) ([("wire", (kD [])), ("up", (kD [])), ("down", (kD [])), ("copy", (kD [])), ("or", (kD [(kD [(.int 3), (.int 2)]), (kD [(.int 3), (.int 6)])])), ("xor", (kD [(kD [(.int 3), (.int 2)]), (kD [(.int 3), (.int 6)])])), ("but", (kD [(kD [(.int 4), (.int 1)]), (kD [(.int 4), (.int 5)])]))] : List (Str × D))))
    (g_OUTS : PySem.W.nsIn K mainGlobals "OUTS" = some (some (.ref p_OUTS)))
    (t_OUTS : He.dicW K p_OUTS = some (He.keysIn w.params (List.map (·.1) ([("wire", (kD [(.int 0)])), ("up", (kD [(.int 0)])), ("down", (kD [(.int 1)])), ("copy", (kD [(.int 0), (.int 1)])), ("or", (kD [(.int 0)])), ("xor", (kD [(.int 0)])), ("but", (kD [(.int 0)]))] : List (Str × D)))))
    (r_OUTS : mapO (fun q : Str × D => kAt K p_OUTS 8 q.1) ([("wire", (kD [(.int 0)])), ("up", (kD [(.int 0)])), ("down", (kD [(.int 1)])), ("copy", (kD [(.int 0), (.int 1)])), ("or", (kD [(.int 0)])), ("xor", (kD [(.int 0)])), ("but", (kD [(.int 0)]))] : List (Str × D)) = some (List.map (·.2) ([("wire", (kD [(.int 0)])), ("up", (kD [(.int 0)])), ("down", (kD [(.int 1)])), ("copy", (kD [(.int 0), (.int 1)])), ("or", (kD [(.int 0)])), ("xor", (kD [(.int 0)])), ("but", (kD [(.int 0)]))] : List (Str × D))))
    (g_RUNS : PySem.W.nsIn K mainGlobals "RUNS" = some (some (.ref p_RUNS)))
    (t_RUNS : He.dicW K p_RUNS = some (He.keysIn w.params (List.map (·.1) ([("wire", (kD [(kD [(.int 0), (.int 0), (.int 19), (.int 0)])])), ("up", (kD [(kD [(.int 0), (.int 8), (.int 5), (.int 8)]), (kD [(.int 6), (.int 7), (.int 13), (.int 0)]), (kD [(.int 14), (.int 0), (.int 19), (.int 0)])])), ("down", (kD [(kD [(.int 0), (.int 0), (.int 5), (.int 0)]), (kD [(.int 6), (.int 1), (.int 13), (.int 8)]), (kD [(.int 14), (.int 8), (.int 19), (.int 8)])])), ("copy", (kD [(kD [(.int 0), (.int 0), (.int 4), (.int 0)]), (kD [(.int 5), (.int (-1)), (.int 6), (.int (-1))]), (kD [(.int 7), (.int 0), (.int 19), (.int 0)]), (kD [(.int 5), (.int 1), (.int 12), (.int 8)]), (kD [(.int 13), (.int 8), (.int 19), (.int 8)])])), ("or", (kD [(kD [(.int 0), (.int 0), (.int 1), (.int 0)]), (kD [(.int 2), (.int 1), (.int 2), (.int 1)]), (kD [(.int 8), (.int 3), (.int 8), (.int 3)]), (kD [(.int 0), (.int 8), (.int 1), (.int 8)]), (kD [(.int 2), (.int 7), (.int 2), (.int 7)]), (kD [(.int 8), (.int 5), (.int 8), (.int 5)]), (kD [(.int 9), (.int 4), (.int 9), (.int 4)]), (kD [(.int 10), (.int 4), (.int 14), (.int 0)]), (kD [(.int 15), (.int 0), (.int 19), (.int 0)])])), ("xor", (kD [(kD [(.int 0), (.int 0), (.int 1), (.int 0)]), (kD [(.int 2), (.int 1), (.int 2), (.int 1)]), (kD [(.int 8), (.int 3), (.int 8), (.int 3)]), (kD [(.int 0), (.int 8), (.int 1), (.int 8)]), (kD [(.int 2), (.int 7), (.int 2), (.int 7)]), (kD [(.int 8), (.int 5), (.int 8), (.int 5)]), (kD [(.int 9), (.int 3), (.int 9), (.int 3)]), (kD [(.int 9), (.int 4), (.int 9), (.int 4)]), (kD [(.int 9), (.int 5), (.int 9), (.int 5)]), (kD [(.int 10), (.int 4), (.int 14), (.int 0)]), (kD [(.int 15), (.int 0), (.int 19), (.int 0)])])), ("but", (kD [(kD [(.int 0), (.int 0), (.int 3), (.int 0)]), (kD [(.int 9), (.int 2), (.int 10), (.int 3)]), (kD [(.int 0), (.int 8), (.int 1), (.int 8)]), (kD [(.int 2), (.int 7), (.int 3), (.int 6)]), (kD [(.int 9), (.int 5), (.int 10), (.int 5)]), (kD [(.int 11), (.int 4), (.int 11), (.int 4)]), (kD [(.int 11), (.int 5), (.int 11), (.int 5)]), (kD [(.int 11), (.int 6), (.int 11), (.int 6)]), (kD [(.int 12), (.int 5), (.int 17), (.int 0)]), (kD [(.int 18), (.int 0), (.int 19), (.int 0)])]))] : List (Str × D)))))
    (r_RUNS : mapO (fun q : Str × D => kAt K p_RUNS 8 q.1) ([("wire", (kD [(kD [(.int 0), (.int 0), (.int 19), (.int 0)])])), ("up", (kD [(kD [(.int 0), (.int 8), (.int 5), (.int 8)]), (kD [(.int 6), (.int 7), (.int 13), (.int 0)]), (kD [(.int 14), (.int 0), (.int 19), (.int 0)])])), ("down", (kD [(kD [(.int 0), (.int 0), (.int 5), (.int 0)]), (kD [(.int 6), (.int 1), (.int 13), (.int 8)]), (kD [(.int 14), (.int 8), (.int 19), (.int 8)])])), ("copy", (kD [(kD [(.int 0), (.int 0), (.int 4), (.int 0)]), (kD [(.int 5), (.int (-1)), (.int 6), (.int (-1))]), (kD [(.int 7), (.int 0), (.int 19), (.int 0)]), (kD [(.int 5), (.int 1), (.int 12), (.int 8)]), (kD [(.int 13), (.int 8), (.int 19), (.int 8)])])), ("or", (kD [(kD [(.int 0), (.int 0), (.int 1), (.int 0)]), (kD [(.int 2), (.int 1), (.int 2), (.int 1)]), (kD [(.int 8), (.int 3), (.int 8), (.int 3)]), (kD [(.int 0), (.int 8), (.int 1), (.int 8)]), (kD [(.int 2), (.int 7), (.int 2), (.int 7)]), (kD [(.int 8), (.int 5), (.int 8), (.int 5)]), (kD [(.int 9), (.int 4), (.int 9), (.int 4)]), (kD [(.int 10), (.int 4), (.int 14), (.int 0)]), (kD [(.int 15), (.int 0), (.int 19), (.int 0)])])), ("xor", (kD [(kD [(.int 0), (.int 0), (.int 1), (.int 0)]), (kD [(.int 2), (.int 1), (.int 2), (.int 1)]), (kD [(.int 8), (.int 3), (.int 8), (.int 3)]), (kD [(.int 0), (.int 8), (.int 1), (.int 8)]), (kD [(.int 2), (.int 7), (.int 2), (.int 7)]), (kD [(.int 8), (.int 5), (.int 8), (.int 5)]), (kD [(.int 9), (.int 3), (.int 9), (.int 3)]), (kD [(.int 9), (.int 4), (.int 9), (.int 4)]), (kD [(.int 9), (.int 5), (.int 9), (.int 5)]), (kD [(.int 10), (.int 4), (.int 14), (.int 0)]), (kD [(.int 15), (.int 0), (.int 19), (.int 0)])])), ("but", (kD [(kD [(.int 0), (.int 0), (.int 3), (.int 0)]), (kD [(.int 9), (.int 2), (.int 10), (.int 3)]), (kD [(.int 0), (.int 8), (.int 1), (.int 8)]), (kD [(.int 2), (.int 7), (.int 3), (.int 6)]), (kD [(.int 9), (.int 5), (.int 10), (.int 5)]), (kD [(.int 11), (.int 4), (.int 11), (.int 4)]), (kD [(.int 11), (.int 5), (.int 11), (.int 5)]), (kD [(.int 11), (.int 6), (.int 11), (.int 6)]), (kD [(.int 12), (.int 5), (.int 17), (.int 0)]), (kD [(.int 18), (.int 0), (.int 19), (.int 0)])]))] : List (Str × D)) = some (List.map (·.2) ([("wire", (kD [(kD [(.int 0), (.int 0), (.int 19), (.int 0)])])), ("up", (kD [(kD [(.int 0), (.int 8), (.int 5), (.int 8)]), (kD [(.int 6), (.int 7), (.int 13), (.int 0)]), (kD [(.int 14), (.int 0), (.int 19), (.int 0)])])), ("down", (kD [(kD [(.int 0), (.int 0), (.int 5), (.int 0)]), (kD [(.int 6), (.int 1), (.int 13), (.int 8)]), (kD [(.int 14), (.int 8), (.int 19), (.int 8)])])), ("copy", (kD [(kD [(.int 0), (.int 0), (.int 4), (.int 0)]), (kD [(.int 5), (.int (-1)), (.int 6), (.int (-1))]), (kD [(.int 7), (.int 0), (.int 19), (.int 0)]), (kD [(.int 5), (.int 1), (.int 12), (.int 8)]), (kD [(.int 13), (.int 8), (.int 19), (.int 8)])])), ("or", (kD [(kD [(.int 0), (.int 0), (.int 1), (.int 0)]), (kD [(.int 2), (.int 1), (.int 2), (.int 1)]), (kD [(.int 8), (.int 3), (.int 8), (.int 3)]), (kD [(.int 0), (.int 8), (.int 1), (.int 8)]), (kD [(.int 2), (.int 7), (.int 2), (.int 7)]), (kD [(.int 8), (.int 5), (.int 8), (.int 5)]), (kD [(.int 9), (.int 4), (.int 9), (.int 4)]), (kD [(.int 10), (.int 4), (.int 14), (.int 0)]), (kD [(.int 15), (.int 0), (.int 19), (.int 0)])])), ("xor", (kD [(kD [(.int 0), (.int 0), (.int 1), (.int 0)]), (kD [(.int 2), (.int 1), (.int 2), (.int 1)]), (kD [(.int 8), (.int 3), (.int 8), (.int 3)]), (kD [(.int 0), (.int 8), (.int 1), (.int 8)]), (kD [(.int 2), (.int 7), (.int 2), (.int 7)]), (kD [(.int 8), (.int 5), (.int 8), (.int 5)]), (kD [(.int 9), (.int 3), (.int 9), (.int 3)]), (kD [(.int 9), (.int 4), (.int 9), (.int 4)]), (kD [(.int 9), (.int 5), (.int 9), (.int 5)]), (kD [(.int 10), (.int 4), (.int 14), (.int 0)]), (kD [(.int 15), (.int 0), (.int 19), (.int 0)])])), ("but", (kD [(kD [(.int 0), (.int 0), (.int 3), (.int 0)]), (kD [(.int 9), (.int 2), (.int 10), (.int 3)]), (kD [(.int 0), (.int 8), (.int 1), (.int 8)]), (kD [(.int 2), (.int 7), (.int 3), (.int 6)]), (kD [(.int 9), (.int 5), (.int 10), (.int 5)]), (kD [(.int 11), (.int 4), (.int 11), (.int 4)]), (kD [(.int 11), (.int 5), (.int 11), (.int 5)]), (kD [(.int 11), (.int 6), (.int 11), (.int 6)]), (kD [(.int 12), (.int 5), (.int 17), (.int 0)]), (kD [(.int 18), (.int 0), (.int 19), (.int 0)])]))] : List (Str × D))))
    (a_BadNumber : PySem.W.findIn K (.ref C_BadNumber) "__init__" = some (some (.ref f_BadNumber)))
    (l_BadNumber : K.lookup f_BadNumber = some ⟨oc_BadNumber, od_BadNumber, .func (PySem.W.fnOf "__init__" "BadNumber.__init__" (defArgs (inClass (top 3) 0)) (defBody (inClass (top 3) 0)) (defScope (inClass (top 3) 0)) .none kV_BadNumber dc_BadNumber pm_BadNumber an_BadNumber cd_BadNumber ct_BadNumber), sl_BadNumber⟩)
    (c_BadNumber : PySem.W.codeIn K cd_BadNumber "BadNumber.__init__" = true)
    (k_BadNumber : PySem.W.keepIn K (.ref f_BadNumber) = true)
    (t_BadNumber : PySem.W.typeIn K (.ref f_BadNumber) = some (.type "function"))
    (a_BadRow : PySem.W.findIn K (.ref C_BadRow) "__init__" = some (some (.ref f_BadRow)))
    (l_BadRow : K.lookup f_BadRow = some ⟨oc_BadRow, od_BadRow, .func (PySem.W.fnOf "__init__" "BadRow.__init__" (defArgs (inClass (top 4) 0)) (defBody (inClass (top 4) 0)) (defScope (inClass (top 4) 0)) .none kV_BadRow dc_BadRow pm_BadRow an_BadRow cd_BadRow ct_BadRow), sl_BadRow⟩)
    (c_BadRow : PySem.W.codeIn K cd_BadRow "BadRow.__init__" = true)
    (k_BadRow : PySem.W.keepIn K (.ref f_BadRow) = true)
    (t_BadRow : PySem.W.typeIn K (.ref f_BadRow) = some (.type "function"))
    (a_BadName : PySem.W.findIn K (.ref C_BadName) "__init__" = some (some (.ref f_BadName)))
    (l_BadName : K.lookup f_BadName = some ⟨oc_BadName, od_BadName, .func (PySem.W.fnOf "__init__" "BadName.__init__" (defArgs (inClass (top 5) 0)) (defBody (inClass (top 5) 0)) (defScope (inClass (top 5) 0)) .none kV_BadName dc_BadName pm_BadName an_BadName cd_BadName ct_BadName), sl_BadName⟩)
    (c_BadName : PySem.W.codeIn K cd_BadName "BadName.__init__" = true)
    (k_BadName : PySem.W.keepIn K (.ref f_BadName) = true)
    (t_BadName : PySem.W.typeIn K (.ref f_BadName) = some (.type "function"))
    (a_is_integer : PySem.W.nsIn K mainGlobals "is_integer" = some (some (.ref f_is_integer)))
    (l_is_integer : K.lookup f_is_integer = some ⟨oc_is_integer, od_is_integer, .func (PySem.W.fnOf "is_integer" "is_integer" (defArgs (top 7)) (defBody (top 7)) (defScope (top 7)) .none kV_is_integer dc_is_integer pm_is_integer an_is_integer cd_is_integer ct_is_integer), sl_is_integer⟩)
    (c_is_integer : PySem.W.codeIn K cd_is_integer "is_integer" = true)
    (k_is_integer : PySem.W.keepIn K (.ref f_is_integer) = true)
    (a_is_below : PySem.W.nsIn K mainGlobals "is_below" = some (some (.ref f_is_below)))
    (l_is_below : K.lookup f_is_below = some ⟨oc_is_below, od_is_below, .func (PySem.W.fnOf "is_below" "is_below" (defArgs (top 8)) (defBody (top 8)) (defScope (top 8)) .none kV_is_below dc_is_below pm_is_below an_is_below cd_is_below ct_is_below), sl_is_below⟩)
    (c_is_below : PySem.W.codeIn K cd_is_below "is_below" = true)
    (k_is_below : PySem.W.keepIn K (.ref f_is_below) = true)
    (a_is_row : PySem.W.nsIn K mainGlobals "is_row" = some (some (.ref f_is_row)))
    (l_is_row : K.lookup f_is_row = some ⟨oc_is_row, od_is_row, .func (PySem.W.fnOf "is_row" "is_row" (defArgs (top 9)) (defBody (top 9)) (defScope (top 9)) .none kV_is_row dc_is_row pm_is_row an_is_row cd_is_row ct_is_row), sl_is_row⟩)
    (c_is_row : PySem.W.codeIn K cd_is_row "is_row" = true)
    (k_is_row : PySem.W.keepIn K (.ref f_is_row) = true)
    (a_is_bits : PySem.W.nsIn K mainGlobals "is_bits" = some (some (.ref f_is_bits)))
    (l_is_bits : K.lookup f_is_bits = some ⟨oc_is_bits, od_is_bits, .func (PySem.W.fnOf "is_bits" "is_bits" (defArgs (top 10)) (defBody (top 10)) (defScope (top 10)) .none kV_is_bits dc_is_bits pm_is_bits an_is_bits cd_is_bits ct_is_bits), sl_is_bits⟩)
    (c_is_bits : PySem.W.codeIn K cd_is_bits "is_bits" = true)
    (k_is_bits : PySem.W.keepIn K (.ref f_is_bits) = true)
    (a_is_kind : PySem.W.nsIn K mainGlobals "is_kind" = some (some (.ref f_is_kind)))
    (l_is_kind : K.lookup f_is_kind = some ⟨oc_is_kind, od_is_kind, .func (PySem.W.fnOf "is_kind" "is_kind" (defArgs (top 27)) (defBody (top 27)) (defScope (top 27)) .none kV_is_kind dc_is_kind pm_is_kind an_is_kind cd_is_kind ct_is_kind), sl_is_kind⟩)
    (c_is_kind : PySem.W.codeIn K cd_is_kind "is_kind" = true)
    (k_is_kind : PySem.W.keepIn K (.ref f_is_kind) = true)
    (a__check_kind : PySem.W.nsIn K mainGlobals "_check_kind" = some (some (.ref f__check_kind)))
    (l__check_kind : K.lookup f__check_kind = some ⟨oc__check_kind, od__check_kind, .func (PySem.W.fnOf "_check_kind" "_check_kind" (defArgs (top 28)) (defBody (top 28)) (defScope (top 28)) .none kV__check_kind dc__check_kind pm__check_kind an__check_kind cd__check_kind ct__check_kind), sl__check_kind⟩)
    (c__check_kind : PySem.W.codeIn K cd__check_kind "_check_kind" = true)
    (k__check_kind : PySem.W.keepIn K (.ref f__check_kind) = true)
    (a_kinds : PySem.W.nsIn K mainGlobals "kinds" = some (some (.ref f_kinds)))
    (l_kinds : K.lookup f_kinds = some ⟨oc_kinds, od_kinds, .func (PySem.W.fnOf "kinds" "kinds" (defArgs (top 29)) (defBody (top 29)) (defScope (top 29)) .none kV_kinds dc_kinds pm_kinds an_kinds cd_kinds ct_kinds), sl_kinds⟩)
    (c_kinds : PySem.W.codeIn K cd_kinds "kinds" = true)
    (k_kinds : PySem.W.keepIn K (.ref f_kinds) = true)
    (a_ins_of : PySem.W.nsIn K mainGlobals "ins_of" = some (some (.ref f_ins_of)))
    (l_ins_of : K.lookup f_ins_of = some ⟨oc_ins_of, od_ins_of, .func (PySem.W.fnOf "ins_of" "ins_of" (defArgs (top 30)) (defBody (top 30)) (defScope (top 30)) .none kV_ins_of dc_ins_of pm_ins_of an_ins_of cd_ins_of ct_ins_of), sl_ins_of⟩)
    (c_ins_of : PySem.W.codeIn K cd_ins_of "ins_of" = true)
    (k_ins_of : PySem.W.keepIn K (.ref f_ins_of) = true)
    (a_outs_of : PySem.W.nsIn K mainGlobals "outs_of" = some (some (.ref f_outs_of)))
    (l_outs_of : K.lookup f_outs_of = some ⟨oc_outs_of, od_outs_of, .func (PySem.W.fnOf "outs_of" "outs_of" (defArgs (top 31)) (defBody (top 31)) (defScope (top 31)) .none kV_outs_of dc_outs_of pm_outs_of an_outs_of cd_outs_of ct_outs_of), sl_outs_of⟩)
    (c_outs_of : PySem.W.codeIn K cd_outs_of "outs_of" = true)
    (k_outs_of : PySem.W.keepIn K (.ref f_outs_of) = true)
    (a_word_of : PySem.W.nsIn K mainGlobals "word_of" = some (some (.ref f_word_of)))
    (l_word_of : K.lookup f_word_of = some ⟨oc_word_of, od_word_of, .func (PySem.W.fnOf "word_of" "word_of" (defArgs (top 32)) (defBody (top 32)) (defScope (top 32)) .none kV_word_of dc_word_of pm_word_of an_word_of cd_word_of ct_word_of), sl_word_of⟩)
    (c_word_of : PySem.W.codeIn K cd_word_of "word_of" = true)
    (k_word_of : PySem.W.keepIn K (.ref f_word_of) = true)
    (a__run : PySem.W.nsIn K mainGlobals "_run" = some (some (.ref f__run)))
    (l__run : K.lookup f__run = some ⟨oc__run, od__run, .func (PySem.W.fnOf "_run" "_run" (defArgs (top 33)) (defBody (top 33)) (defScope (top 33)) .none kV__run dc__run pm__run an__run cd__run ct__run), sl__run⟩)
    (c__run : PySem.W.codeIn K cd__run "_run" = true)
    (k__run : PySem.W.keepIn K (.ref f__run) = true)
    (a_tile_cells : PySem.W.nsIn K mainGlobals "tile_cells" = some (some (.ref f_tile_cells)))
    (l_tile_cells : K.lookup f_tile_cells = some ⟨oc_tile_cells, od_tile_cells, .func (PySem.W.fnOf "tile_cells" "tile_cells" (defArgs (top 34)) (defBody (top 34)) (defScope (top 34)) .none kV_tile_cells dc_tile_cells pm_tile_cells an_tile_cells cd_tile_cells ct_tile_cells), sl_tile_cells⟩)
    (c_tile_cells : PySem.W.codeIn K cd_tile_cells "tile_cells" = true)
    (k_tile_cells : PySem.W.keepIn K (.ref f_tile_cells) = true)
    (a_upper : PySem.W.nsIn K mainGlobals "upper" = some (some (.ref f_upper)))
    (l_upper : K.lookup f_upper = some ⟨oc_upper, od_upper, .func (PySem.W.fnOf "upper" "upper" (defArgs (top 35)) (defBody (top 35)) (defScope (top 35)) .none kV_upper dc_upper pm_upper an_upper cd_upper ct_upper), sl_upper⟩)
    (c_upper : PySem.W.codeIn K cd_upper "upper" = true)
    (k_upper : PySem.W.keepIn K (.ref f_upper) = true)
    (a_rows_of : PySem.W.nsIn K mainGlobals "rows_of" = some (some (.ref f_rows_of)))
    (l_rows_of : K.lookup f_rows_of = some ⟨oc_rows_of, od_rows_of, .func (PySem.W.fnOf "rows_of" "rows_of" (defArgs (top 36)) (defBody (top 36)) (defScope (top 36)) .none kV_rows_of dc_rows_of pm_rows_of an_rows_of cd_rows_of ct_rows_of), sl_rows_of⟩)
    (c_rows_of : PySem.W.codeIn K cd_rows_of "rows_of" = true)
    (k_rows_of : PySem.W.keepIn K (.ref f_rows_of) = true)
    (a_cells_at : PySem.W.nsIn K mainGlobals "cells_at" = some (some (.ref f_cells_at)))
    (l_cells_at : K.lookup f_cells_at = some ⟨oc_cells_at, od_cells_at, .func (PySem.W.fnOf "cells_at" "cells_at" (defArgs (top 37)) (defBody (top 37)) (defScope (top 37)) .none kV_cells_at dc_cells_at pm_cells_at an_cells_at cd_cells_at ct_cells_at), sl_cells_at⟩)
    (c_cells_at : PySem.W.codeIn K cd_cells_at "cells_at" = true)
    (k_cells_at : PySem.W.keepIn K (.ref f_cells_at) = true)
    (a_is_tile : PySem.W.nsIn K mainGlobals "is_tile" = some (some (.ref f_is_tile)))
    (l_is_tile : K.lookup f_is_tile = some ⟨oc_is_tile, od_is_tile, .func (PySem.W.fnOf "is_tile" "is_tile" (defArgs (top 44)) (defBody (top 44)) (defScope (top 44)) .none kV_is_tile dc_is_tile pm_is_tile an_is_tile cd_is_tile ct_is_tile), sl_is_tile⟩)
    (c_is_tile : PySem.W.codeIn K cd_is_tile "is_tile" = true)
    (k_is_tile : PySem.W.keepIn K (.ref f_is_tile) = true)
    (a__law_pen : PySem.W.nsIn K mainGlobals "_law_pen" = some (some (.ref f__law_pen)))
    (l__law_pen : K.lookup f__law_pen = some ⟨oc__law_pen, od__law_pen, .func (PySem.W.fnOf "_law_pen" "_law_pen" (defArgs (top 46)) (defBody (top 46)) (defScope (top 46)) .none kV__law_pen dc__law_pen pm__law_pen an__law_pen cd__law_pen ct__law_pen), sl__law_pen⟩)
    (c__law_pen : PySem.W.codeIn K cd__law_pen "_law_pen" = true)
    (k__law_pen : PySem.W.keepIn K (.ref f__law_pen) = true)
    (a__law_draw : PySem.W.nsIn K mainGlobals "_law_draw" = some (some (.ref f__law_draw)))
    (l__law_draw : K.lookup f__law_draw = some ⟨oc__law_draw, od__law_draw, .func (PySem.W.fnOf "_law_draw" "_law_draw" (defArgs (top 47)) (defBody (top 47)) (defScope (top 47)) .none kV__law_draw dc__law_draw pm__law_draw an__law_draw cd__law_draw ct__law_draw), sl__law_draw⟩)
    (c__law_draw : PySem.W.codeIn K cd__law_draw "_law_draw" = true)
    (k__law_draw : PySem.W.keepIn K (.ref f__law_draw) = true)
    (a__law_pick : PySem.W.nsIn K mainGlobals "_law_pick" = some (some (.ref f__law_pick)))
    (l__law_pick : K.lookup f__law_pick = some ⟨oc__law_pick, od__law_pick, .func (PySem.W.fnOf "_law_pick" "_law_pick" (defArgs (top 48)) (defBody (top 48)) (defScope (top 48)) .none kV__law_pick dc__law_pick pm__law_pick an__law_pick cd__law_pick ct__law_pick), sl__law_pick⟩)
    (c__law_pick : PySem.W.codeIn K cd__law_pick "_law_pick" = true)
    (k__law_pick : PySem.W.keepIn K (.ref f__law_pick) = true)
    (a__law_known : PySem.W.nsIn K mainGlobals "_law_known" = some (some (.ref f__law_known)))
    (l__law_known : K.lookup f__law_known = some ⟨oc__law_known, od__law_known, .func (PySem.W.fnOf "_law_known" "_law_known" (defArgs (top 49)) (defBody (top 49)) (defScope (top 49)) .none kV__law_known dc__law_known pm__law_known an__law_known cd__law_known ct__law_known), sl__law_known⟩)
    (c__law_known : PySem.W.codeIn K cd__law_known "_law_known" = true)
    (k__law_known : PySem.W.keepIn K (.ref f__law_known) = true)
    (a__law_line : PySem.W.nsIn K mainGlobals "_law_line" = some (some (.ref f__law_line)))
    (l__law_line : K.lookup f__law_line = some ⟨oc__law_line, od__law_line, .func (PySem.W.fnOf "_law_line" "_law_line" (defArgs (top 50)) (defBody (top 50)) (defScope (top 50)) .none kV__law_line dc__law_line pm__law_line an__law_line cd__law_line ct__law_line), sl__law_line⟩)
    (c__law_line : PySem.W.codeIn K cd__law_line "_law_line" = true)
    (k__law_line : PySem.W.keepIn K (.ref f__law_line) = true)
    (a__law_one_way : PySem.W.nsIn K mainGlobals "_law_one_way" = some (some (.ref f__law_one_way)))
    (l__law_one_way : K.lookup f__law_one_way = some ⟨oc__law_one_way, od__law_one_way, .func (PySem.W.fnOf "_law_one_way" "_law_one_way" (defArgs (top 51)) (defBody (top 51)) (defScope (top 51)) .none kV__law_one_way dc__law_one_way pm__law_one_way an__law_one_way cd__law_one_way ct__law_one_way), sl__law_one_way⟩)
    (c__law_one_way : PySem.W.codeIn K cd__law_one_way "_law_one_way" = true)
    (k__law_one_way : PySem.W.keepIn K (.ref f__law_one_way) = true)
    (a__law_shape : PySem.W.nsIn K mainGlobals "_law_shape" = some (some (.ref f__law_shape)))
    (l__law_shape : K.lookup f__law_shape = some ⟨oc__law_shape, od__law_shape, .func (PySem.W.fnOf "_law_shape" "_law_shape" (defArgs (top 52)) (defBody (top 52)) (defScope (top 52)) .none kV__law_shape dc__law_shape pm__law_shape an__law_shape cd__law_shape ct__law_shape), sl__law_shape⟩)
    (c__law_shape : PySem.W.codeIn K cd__law_shape "_law_shape" = true)
    (k__law_shape : PySem.W.keepIn K (.ref f__law_shape) = true)
    (a__law_kinds : PySem.W.nsIn K mainGlobals "_law_kinds" = some (some (.ref f__law_kinds)))
    (l__law_kinds : K.lookup f__law_kinds = some ⟨oc__law_kinds, od__law_kinds, .func (PySem.W.fnOf "_law_kinds" "_law_kinds" (defArgs (top 53)) (defBody (top 53)) (defScope (top 53)) .none kV__law_kinds dc__law_kinds pm__law_kinds an__law_kinds cd__law_kinds ct__law_kinds), sl__law_kinds⟩)
    (c__law_kinds : PySem.W.codeIn K cd__law_kinds "_law_kinds" = true)
    (k__law_kinds : PySem.W.keepIn K (.ref f__law_kinds) = true)
    (a__law_ins : PySem.W.nsIn K mainGlobals "_law_ins" = some (some (.ref f__law_ins)))
    (l__law_ins : K.lookup f__law_ins = some ⟨oc__law_ins, od__law_ins, .func (PySem.W.fnOf "_law_ins" "_law_ins" (defArgs (top 54)) (defBody (top 54)) (defScope (top 54)) .none kV__law_ins dc__law_ins pm__law_ins an__law_ins cd__law_ins ct__law_ins), sl__law_ins⟩)
    (c__law_ins : PySem.W.codeIn K cd__law_ins "_law_ins" = true)
    (k__law_ins : PySem.W.keepIn K (.ref f__law_ins) = true)
    (a__law_outs : PySem.W.nsIn K mainGlobals "_law_outs" = some (some (.ref f__law_outs)))
    (l__law_outs : K.lookup f__law_outs = some ⟨oc__law_outs, od__law_outs, .func (PySem.W.fnOf "_law_outs" "_law_outs" (defArgs (top 55)) (defBody (top 55)) (defScope (top 55)) .none kV__law_outs dc__law_outs pm__law_outs an__law_outs cd__law_outs ct__law_outs), sl__law_outs⟩)
    (c__law_outs : PySem.W.codeIn K cd__law_outs "_law_outs" = true)
    (k__law_outs : PySem.W.keepIn K (.ref f__law_outs) = true)
    (a__law_upper : PySem.W.nsIn K mainGlobals "_law_upper" = some (some (.ref f__law_upper)))
    (l__law_upper : K.lookup f__law_upper = some ⟨oc__law_upper, od__law_upper, .func (PySem.W.fnOf "_law_upper" "_law_upper" (defArgs (top 56)) (defBody (top 56)) (defScope (top 56)) .none kV__law_upper dc__law_upper pm__law_upper an__law_upper cd__law_upper ct__law_upper), sl__law_upper⟩)
    (c__law_upper : PySem.W.codeIn K cd__law_upper "_law_upper" = true)
    (k__law_upper : PySem.W.keepIn K (.ref f__law_upper) = true)
    (a__law_rows_of : PySem.W.nsIn K mainGlobals "_law_rows_of" = some (some (.ref f__law_rows_of)))
    (l__law_rows_of : K.lookup f__law_rows_of = some ⟨oc__law_rows_of, od__law_rows_of, .func (PySem.W.fnOf "_law_rows_of" "_law_rows_of" (defArgs (top 57)) (defBody (top 57)) (defScope (top 57)) .none kV__law_rows_of dc__law_rows_of pm__law_rows_of an__law_rows_of cd__law_rows_of ct__law_rows_of), sl__law_rows_of⟩)
    (c__law_rows_of : PySem.W.codeIn K cd__law_rows_of "_law_rows_of" = true)
    (k__law_rows_of : PySem.W.keepIn K (.ref f__law_rows_of) = true)
    (a__law_cells_at : PySem.W.nsIn K mainGlobals "_law_cells_at" = some (some (.ref f__law_cells_at)))
    (l__law_cells_at : K.lookup f__law_cells_at = some ⟨oc__law_cells_at, od__law_cells_at, .func (PySem.W.fnOf "_law_cells_at" "_law_cells_at" (defArgs (top 58)) (defBody (top 58)) (defScope (top 58)) .none kV__law_cells_at dc__law_cells_at pm__law_cells_at an__law_cells_at cd__law_cells_at ct__law_cells_at), sl__law_cells_at⟩)
    (c__law_cells_at : PySem.W.codeIn K cd__law_cells_at "_law_cells_at" = true)
    (k__law_cells_at : PySem.W.keepIn K (.ref f__law_cells_at) = true)
    (a__law_near : PySem.W.nsIn K mainGlobals "_law_near" = some (some (.ref f__law_near)))
    (l__law_near : K.lookup f__law_near = some ⟨oc__law_near, od__law_near, .func (PySem.W.fnOf "_law_near" "_law_near" (defArgs (top 59)) (defBody (top 59)) (defScope (top 59)) .none kV__law_near dc__law_near pm__law_near an__law_near cd__law_near ct__law_near), sl__law_near⟩)
    (c__law_near : PySem.W.codeIn K cd__law_near "_law_near" = true)
    (k__law_near : PySem.W.keepIn K (.ref f__law_near) = true)
    (a__law_fault : PySem.W.nsIn K mainGlobals "_law_fault" = some (some (.ref f__law_fault)))
    (l__law_fault : K.lookup f__law_fault = some ⟨oc__law_fault, od__law_fault, .func (PySem.W.fnOf "_law_fault" "_law_fault" (defArgs (top 60)) (defBody (top 60)) (defScope (top 60)) .none kV__law_fault dc__law_fault pm__law_fault an__law_fault cd__law_fault ct__law_fault), sl__law_fault⟩)
    (c__law_fault : PySem.W.codeIn K cd__law_fault "_law_fault" = true)
    (k__law_fault : PySem.W.keepIn K (.ref f__law_fault) = true)
    (a__law_touches : PySem.W.nsIn K mainGlobals "_law_touches" = some (some (.ref f__law_touches)))
    (l__law_touches : K.lookup f__law_touches = some ⟨oc__law_touches, od__law_touches, .func (PySem.W.fnOf "_law_touches" "_law_touches" (defArgs (top 61)) (defBody (top 61)) (defScope (top 61)) .none kV__law_touches dc__law_touches pm__law_touches an__law_touches cd__law_touches ct__law_touches), sl__law_touches⟩)
    (c__law_touches : PySem.W.codeIn K cd__law_touches "_law_touches" = true)
    (k__law_touches : PySem.W.keepIn K (.ref f__law_touches) = true)
    (a__law_pair_right : PySem.W.nsIn K mainGlobals "_law_pair_right" = some (some (.ref f__law_pair_right)))
    (l__law_pair_right : K.lookup f__law_pair_right = some ⟨oc__law_pair_right, od__law_pair_right, .func (PySem.W.fnOf "_law_pair_right" "_law_pair_right" (defArgs (top 62)) (defBody (top 62)) (defScope (top 62)) .none kV__law_pair_right dc__law_pair_right pm__law_pair_right an__law_pair_right cd__law_pair_right ct__law_pair_right), sl__law_pair_right⟩)
    (c__law_pair_right : PySem.W.codeIn K cd__law_pair_right "_law_pair_right" = true)
    (k__law_pair_right : PySem.W.keepIn K (.ref f__law_pair_right) = true)
    (a_law : PySem.W.nsIn K mainGlobals "law" = some (some (.ref f_law)))
    (l_law : K.lookup f_law = some ⟨oc_law, od_law, .func (PySem.W.fnOf "law" "law" (defArgs (top 63)) (defBody (top 63)) (defScope (top 63)) .none kV_law dc_law pm_law an_law (.ref c_law) ct_law), sl_law⟩)
    (cd_law : PySem.W.codeIn K (.ref c_law) "law" = true)
    (lc_law : K.lookup c_law = some ⟨oe_law, oo_law, .fields vs_law, os_law⟩)
    (vt_law : vs_law[11]? = some (.ref P_law))
    (np_law : K.lookup P_law = none)
    (z_isinstance : PySem.W.nsIn K mainGlobals "isinstance" = some none)
    (z_int : PySem.W.nsIn K mainGlobals "int" = some none)
    (z_bool : PySem.W.nsIn K mainGlobals "bool" = some none)
    (z_str : PySem.W.nsIn K mainGlobals "str" = some none)
    (z_tuple : PySem.W.nsIn K mainGlobals "tuple" = some none)
    (z_list : PySem.W.nsIn K mainGlobals "list" = some none)
    (z_dict : PySem.W.nsIn K mainGlobals "dict" = some none)
    (z_set : PySem.W.nsIn K mainGlobals "set" = some none)
    (z_len : PySem.W.nsIn K mainGlobals "len" = some none)
    (z_all : PySem.W.nsIn K mainGlobals "all" = some none)
    (z_any : PySem.W.nsIn K mainGlobals "any" = some none)
    (z_enumerate : PySem.W.nsIn K mainGlobals "enumerate" = some none)
    (z_zip : PySem.W.nsIn K mainGlobals "zip" = some none)
    (z_range : PySem.W.nsIn K mainGlobals "range" = some none)
    (z_sorted : PySem.W.nsIn K mainGlobals "sorted" = some none)
    (z_max : PySem.W.nsIn K mainGlobals "max" = some none)
    (z_min : PySem.W.nsIn K mainGlobals "min" = some none)
    (z_abs : PySem.W.nsIn K mainGlobals "abs" = some none)
    (z_repr : PySem.W.nsIn K mainGlobals "repr" = some none)
    (z_reversed : PySem.W.nsIn K mainGlobals "reversed" = some none)
    : LawAt l w K 63 "_law_script" mg fa h := by
  have e := hfa.symm.trans (PySem.W.mg_of X G a_law)
  cases e
  have E_BadNumber : Err K mg (.ref C_SparkError :: veT) "BadNumber" C_BadNumber := ⟨PySem.W.mg_of X G g_BadNumber, ⟨_, _, _, _, _, _, _, _, _, _, _, _, _, x_BadNumber⟩, sa_BadNumber, ga_BadNumber, gg_BadNumber, hc_BadNumber, kc_BadNumber, hn, ht⟩
  have E_BadRow : Err K mg (.ref C_SparkError :: veT) "BadRow" C_BadRow := ⟨PySem.W.mg_of X G g_BadRow, ⟨_, _, _, _, _, _, _, _, _, _, _, _, _, x_BadRow⟩, sa_BadRow, ga_BadRow, gg_BadRow, hc_BadRow, kc_BadRow, hn, ht⟩
  have E_BadName : Err K mg (.ref C_SparkError :: veT) "BadName" C_BadName := ⟨PySem.W.mg_of X G g_BadName, ⟨_, _, _, _, _, _, _, _, _, _, _, _, _, x_BadName⟩, sa_BadName, ga_BadName, gg_BadName, hc_BadName, kc_BadName, hn, ht⟩
  have F_BadNumber := fun_mk (st := inClass (top 3) 0) l_BadNumber c_BadNumber k_BadNumber
  have b_BadNumber := F_BadNumber.binds (ps := ["self", "what", "number"]) fun _ _ _ _ _ _ us hl => match us, hl with | [_, _, _], _ => rfl
  have F_BadRow := fun_mk (st := inClass (top 4) 0) l_BadRow c_BadRow k_BadRow
  have b_BadRow := F_BadRow.binds (ps := ["self", "row"]) fun _ _ _ _ _ _ us hl => match us, hl with | [_, _], _ => rfl
  have F_BadName := fun_mk (st := inClass (top 5) 0) l_BadName c_BadName k_BadName
  have b_BadName := F_BadName.binds (ps := ["self", "name"]) fun _ _ _ _ _ _ us hl => match us, hl with | [_, _], _ => rfl
  have F_is_integer := fun_mk (st := top 7) l_is_integer c_is_integer k_is_integer
  have b_is_integer := F_is_integer.binds (ps := ["value"]) fun _ _ _ _ _ _ us hl => match us, hl with | [_], _ => rfl
  have F_is_below := fun_mk (st := top 8) l_is_below c_is_below k_is_below
  have b_is_below := F_is_below.binds (ps := ["value", "end"]) fun _ _ _ _ _ _ us hl => match us, hl with | [_, _], _ => rfl
  have F_is_row := fun_mk (st := top 9) l_is_row c_is_row k_is_row
  have b_is_row := F_is_row.binds (ps := ["value"]) fun _ _ _ _ _ _ us hl => match us, hl with | [_], _ => rfl
  have F_is_bits := fun_mk (st := top 10) l_is_bits c_is_bits k_is_bits
  have b_is_bits := F_is_bits.binds (ps := ["value", "many"]) fun _ _ _ _ _ _ us hl => match us, hl with | [_, _], _ => rfl
  have F_is_kind := fun_mk (st := top 27) l_is_kind c_is_kind k_is_kind
  have b_is_kind := F_is_kind.binds (ps := ["value"]) fun _ _ _ _ _ _ us hl => match us, hl with | [_], _ => rfl
  have F__check_kind := fun_mk (st := top 28) l__check_kind c__check_kind k__check_kind
  have b__check_kind := F__check_kind.binds (ps := ["kind"]) fun _ _ _ _ _ _ us hl => match us, hl with | [_], _ => rfl
  have F_kinds := fun_mk (st := top 29) l_kinds c_kinds k_kinds
  have b_kinds := F_kinds.binds (ps := []) fun _ _ _ _ _ _ us hl => match us, hl with | [], _ => rfl
  have F_ins_of := fun_mk (st := top 30) l_ins_of c_ins_of k_ins_of
  have b_ins_of := F_ins_of.binds (ps := ["kind"]) fun _ _ _ _ _ _ us hl => match us, hl with | [_], _ => rfl
  have F_outs_of := fun_mk (st := top 31) l_outs_of c_outs_of k_outs_of
  have b_outs_of := F_outs_of.binds (ps := ["kind"]) fun _ _ _ _ _ _ us hl => match us, hl with | [_], _ => rfl
  have F_word_of := fun_mk (st := top 32) l_word_of c_word_of k_word_of
  have b_word_of := F_word_of.binds (ps := ["kind", "bits"]) fun _ _ _ _ _ _ us hl => match us, hl with | [_, _], _ => rfl
  have F__run := fun_mk (st := top 33) l__run c__run k__run
  have b__run := F__run.binds (ps := ["x", "y", "u", "v"]) fun _ _ _ _ _ _ us hl => match us, hl with | [_, _, _, _], _ => rfl
  have F_tile_cells := fun_mk (st := top 34) l_tile_cells c_tile_cells k_tile_cells
  have b_tile_cells := F_tile_cells.binds (ps := ["kind"]) fun _ _ _ _ _ _ us hl => match us, hl with | [_], _ => rfl
  have F_upper := fun_mk (st := top 35) l_upper c_upper k_upper
  have b_upper := F_upper.binds (ps := ["tile"]) fun _ _ _ _ _ _ us hl => match us, hl with | [_], _ => rfl
  have F_rows_of := fun_mk (st := top 36) l_rows_of c_rows_of k_rows_of
  have b_rows_of := F_rows_of.binds (ps := ["tile"]) fun _ _ _ _ _ _ us hl => match us, hl with | [_], _ => rfl
  have F_cells_at := fun_mk (st := top 37) l_cells_at c_cells_at k_cells_at
  have b_cells_at := F_cells_at.binds (ps := ["tile", "x"]) fun _ _ _ _ _ _ us hl => match us, hl with | [_, _], _ => rfl
  have F_is_tile := fun_mk (st := top 44) l_is_tile c_is_tile k_is_tile
  have b_is_tile := F_is_tile.binds (ps := ["kind", "cells"]) fun _ _ _ _ _ _ us hl => match us, hl with | [_, _], _ => rfl
  have F__law_pen := fun_mk (st := top 46) l__law_pen c__law_pen k__law_pen
  have b__law_pen := F__law_pen.binds (ps := ["_law_script"]) fun _ _ _ _ _ _ us hl => match us, hl with | [_], _ => rfl
  have F__law_draw := fun_mk (st := top 47) l__law_draw c__law_draw k__law_draw
  have b__law_draw := F__law_draw.binds (ps := ["_law_pen_here", "_law_many"]) fun _ _ _ _ _ _ us hl => match us, hl with | [_, _], _ => rfl
  have F__law_pick := fun_mk (st := top 48) l__law_pick c__law_pick k__law_pick
  have b__law_pick := F__law_pick.binds (ps := ["_law_pen_here", "_law_some"]) fun _ _ _ _ _ _ us hl => match us, hl with | [_, _], _ => rfl
  have F__law_known := fun_mk (st := top 49) l__law_known c__law_known k__law_known
  have b__law_known := F__law_known.binds (ps := ["_law_cells"]) fun _ _ _ _ _ _ us hl => match us, hl with | [_], _ => rfl
  have F__law_line := fun_mk (st := top 50) l__law_line c__law_line k__law_line
  have b__law_line := F__law_line.binds (ps := ["_law_x", "_law_y", "_law_u", "_law_v"]) fun _ _ _ _ _ _ us hl => match us, hl with | [_, _, _, _], _ => rfl
  have F__law_one_way := fun_mk (st := top 51) l__law_one_way c__law_one_way k__law_one_way
  have b__law_one_way := F__law_one_way.binds (ps := ["_law_x", "_law_y"]) fun _ _ _ _ _ _ us hl => match us, hl with | [_, _], _ => rfl
  have F__law_shape := fun_mk (st := top 52) l__law_shape c__law_shape k__law_shape
  have b__law_shape := F__law_shape.binds (ps := ["_law_kind"]) fun _ _ _ _ _ _ us hl => match us, hl with | [_], _ => rfl
  have F__law_kinds := fun_mk (st := top 53) l__law_kinds c__law_kinds k__law_kinds
  have b__law_kinds := F__law_kinds.binds (ps := []) fun _ _ _ _ _ _ us hl => match us, hl with | [], _ => rfl
  have F__law_ins := fun_mk (st := top 54) l__law_ins c__law_ins k__law_ins
  have b__law_ins := F__law_ins.binds (ps := ["_law_kind"]) fun _ _ _ _ _ _ us hl => match us, hl with | [_], _ => rfl
  have F__law_outs := fun_mk (st := top 55) l__law_outs c__law_outs k__law_outs
  have b__law_outs := F__law_outs.binds (ps := ["_law_kind"]) fun _ _ _ _ _ _ us hl => match us, hl with | [_], _ => rfl
  have F__law_upper := fun_mk (st := top 56) l__law_upper c__law_upper k__law_upper
  have b__law_upper := F__law_upper.binds (ps := ["_law_tile"]) fun _ _ _ _ _ _ us hl => match us, hl with | [_], _ => rfl
  have F__law_rows_of := fun_mk (st := top 57) l__law_rows_of c__law_rows_of k__law_rows_of
  have b__law_rows_of := F__law_rows_of.binds (ps := ["_law_tile"]) fun _ _ _ _ _ _ us hl => match us, hl with | [_], _ => rfl
  have F__law_cells_at := fun_mk (st := top 58) l__law_cells_at c__law_cells_at k__law_cells_at
  have b__law_cells_at := F__law_cells_at.binds (ps := ["_law_tile", "_law_x"]) fun _ _ _ _ _ _ us hl => match us, hl with | [_, _], _ => rfl
  have F__law_near := fun_mk (st := top 59) l__law_near c__law_near k__law_near
  have b__law_near := F__law_near.binds (ps := ["_law_known_here", "_law_cell"]) fun _ _ _ _ _ _ us hl => match us, hl with | [_, _], _ => rfl
  have F__law_fault := fun_mk (st := top 60) l__law_fault c__law_fault k__law_fault
  have b__law_fault := F__law_fault.binds (ps := ["_law_call"]) fun _ _ _ _ _ _ us hl => match us, hl with | [_], _ => rfl
  have F__law_touches := fun_mk (st := top 61) l__law_touches c__law_touches k__law_touches
  have b__law_touches := F__law_touches.binds (ps := ["_law_one", "_law_other"]) fun _ _ _ _ _ _ us hl => match us, hl with | [_, _], _ => rfl
  have F__law_pair_right := fun_mk (st := top 62) l__law_pair_right c__law_pair_right k__law_pair_right
  have b__law_pair_right := F__law_pair_right.binds (ps := ["_law_pen_here"]) fun _ _ _ _ _ _ us hl => match us, hl with | [_], _ => rfl
  have T : Bv mg := ⟨PySem.W.mg_none_of X G z_isinstance, PySem.W.mg_none_of X G z_int, PySem.W.mg_none_of X G z_bool, PySem.W.mg_none_of X G z_str, PySem.W.mg_none_of X G z_tuple, PySem.W.mg_none_of X G z_list, PySem.W.mg_none_of X G z_dict, PySem.W.mg_none_of X G z_set, PySem.W.mg_none_of X G z_len, PySem.W.mg_none_of X G z_all, PySem.W.mg_none_of X G z_any, PySem.W.mg_none_of X G z_enumerate, PySem.W.mg_none_of X G z_zip, PySem.W.mg_none_of X G z_range, PySem.W.mg_none_of X G z_sorted, PySem.W.mg_none_of X G z_max, PySem.W.mg_none_of X G z_min, PySem.W.mg_none_of X G z_abs, PySem.W.mg_none_of X G z_repr, PySem.W.mg_none_of X G z_reversed⟩
  obtain ⟨XC, hXC⟩ : ∃ XC : Str → Option Addr, XC = fun x => List.lookup x [(("BadNumber" : Str), C_BadNumber), (("BadRow" : Str), C_BadRow), (("BadName" : Str), C_BadName)] := ⟨_, rfl⟩
  have y_BadNumber : XC "BadNumber" = some C_BadNumber := by rw [hXC]; kernel_rfl
  have y_BadRow : XC "BadRow" = some C_BadRow := by rw [hXC]; kernel_rfl
  have y_BadName : XC "BadName" = some C_BadName := by rw [hXC]; kernel_rfl
  have EX : Exm ⟨K, XC⟩ ([(("BadNumber" : Str), C_BadNumber), (("BadRow" : Str), C_BadRow), (("BadName" : Str), C_BadName)].map (·.1)) := Exm.of (G := ⟨K, XC⟩) [(("BadNumber" : Str), C_BadNumber), (("BadRow" : Str), C_BadRow), (("BadName" : Str), C_BadName)] (List.forall_mem_cons.mpr ⟨y_BadNumber, List.forall_mem_cons.mpr ⟨y_BadRow, List.forall_mem_cons.mpr ⟨y_BadName, (fun _ h => nomatch h)⟩⟩⟩)
    (List.forall_mem_cons.mpr ⟨List.forall_mem_cons.mpr ⟨(m_BadNumber_BadNumber.trans (by kernel_rfl)), List.forall_mem_cons.mpr ⟨(m_BadNumber_BadRow.trans (by kernel_rfl)), List.forall_mem_cons.mpr ⟨(m_BadNumber_BadName.trans (by kernel_rfl)), (fun _ h => nomatch h)⟩⟩⟩, List.forall_mem_cons.mpr ⟨List.forall_mem_cons.mpr ⟨(m_BadRow_BadNumber.trans (by kernel_rfl)), List.forall_mem_cons.mpr ⟨(m_BadRow_BadRow.trans (by kernel_rfl)), List.forall_mem_cons.mpr ⟨(m_BadRow_BadName.trans (by kernel_rfl)), (fun _ h => nomatch h)⟩⟩⟩, List.forall_mem_cons.mpr ⟨List.forall_mem_cons.mpr ⟨(m_BadName_BadNumber.trans (by kernel_rfl)), List.forall_mem_cons.mpr ⟨(m_BadName_BadRow.trans (by kernel_rfl)), List.forall_mem_cons.mpr ⟨(m_BadName_BadName.trans (by kernel_rfl)), (fun _ h => nomatch h)⟩⟩⟩, (fun _ h => nomatch h)⟩⟩⟩)
  obtain ⟨v_KINDS, H_KINDS⟩ := Cst.of (XC := XC) 8 (PySem.W.mg_of X G g_KINDS) r_KINDS
  obtain ⟨v_ONE_WAY, H_ONE_WAY⟩ := Cst.of (XC := XC) 8 (PySem.W.mg_of X G g_ONE_WAY) r_ONE_WAY
  obtain ⟨v_PITCH, H_PITCH⟩ := Cst.of (XC := XC) 8 (PySem.W.mg_of X G g_PITCH) r_PITCH
  have H_INS : Tab K w XC mg "INS" p_INS [("wire", (kD [(.int 0)])), ("up", (kD [(.int 1)])), ("down", (kD [(.int 0)])), ("copy", (kD [(.int 0)])), ("or", (kD [(.int 0), (.int 1)])), ("xor", (kD [(.int 0), (.int 1)])), ("but", (kD [(.int 0), (.int 1)]))] := Tab.of 8 (PySem.W.mg_of X G g_INS) t_INS r_INS
  have H_ONE_WAYS : Tab K w XC mg "ONE_WAYS" p_ONE_WAYS [("wire", (kD [])), ("up", (kD [])), ("down", (kD [])), ("copy", (kD [])), ("or", (kD [(kD [(.int 3), (.int 2)]), (kD [(.int 3), (.int 6)])])), ("xor", (kD [(kD [(.int 3), (.int 2)]), (kD [(.int 3), (.int 6)])])), ("but", (kD [(kD [(.int 4), (.int 1)]), (kD [(.int 4), (.int 5)])]))] := Tab.of 8 (PySem.W.mg_of X G g_ONE_WAYS) t_ONE_WAYS r_ONE_WAYS
  have H_OUTS : Tab K w XC mg "OUTS" p_OUTS [("wire", (kD [(.int 0)])), ("up", (kD [(.int 0)])), ("down", (kD [(.int 1)])), ("copy", (kD [(.int 0), (.int 1)])), ("or", (kD [(.int 0)])), ("xor", (kD [(.int 0)])), ("but", (kD [(.int 0)]))] := Tab.of 8 (PySem.W.mg_of X G g_OUTS) t_OUTS r_OUTS
  have H_RUNS : Tab K w XC mg "RUNS" p_RUNS [("wire", (kD [(kD [(.int 0), (.int 0), (.int 19), (.int 0)])])), ("up", (kD [(kD [(.int 0), (.int 8), (.int 5), (.int 8)]), (kD [(.int 6), (.int 7), (.int 13), (.int 0)]), (kD [(.int 14), (.int 0), (.int 19), (.int 0)])])), ("down", (kD [(kD [(.int 0), (.int 0), (.int 5), (.int 0)]), (kD [(.int 6), (.int 1), (.int 13), (.int 8)]), (kD [(.int 14), (.int 8), (.int 19), (.int 8)])])), ("copy", (kD [(kD [(.int 0), (.int 0), (.int 4), (.int 0)]), (kD [(.int 5), (.int (-1)), (.int 6), (.int (-1))]), (kD [(.int 7), (.int 0), (.int 19), (.int 0)]), (kD [(.int 5), (.int 1), (.int 12), (.int 8)]), (kD [(.int 13), (.int 8), (.int 19), (.int 8)])])), ("or", (kD [(kD [(.int 0), (.int 0), (.int 1), (.int 0)]), (kD [(.int 2), (.int 1), (.int 2), (.int 1)]), (kD [(.int 8), (.int 3), (.int 8), (.int 3)]), (kD [(.int 0), (.int 8), (.int 1), (.int 8)]), (kD [(.int 2), (.int 7), (.int 2), (.int 7)]), (kD [(.int 8), (.int 5), (.int 8), (.int 5)]), (kD [(.int 9), (.int 4), (.int 9), (.int 4)]), (kD [(.int 10), (.int 4), (.int 14), (.int 0)]), (kD [(.int 15), (.int 0), (.int 19), (.int 0)])])), ("xor", (kD [(kD [(.int 0), (.int 0), (.int 1), (.int 0)]), (kD [(.int 2), (.int 1), (.int 2), (.int 1)]), (kD [(.int 8), (.int 3), (.int 8), (.int 3)]), (kD [(.int 0), (.int 8), (.int 1), (.int 8)]), (kD [(.int 2), (.int 7), (.int 2), (.int 7)]), (kD [(.int 8), (.int 5), (.int 8), (.int 5)]), (kD [(.int 9), (.int 3), (.int 9), (.int 3)]), (kD [(.int 9), (.int 4), (.int 9), (.int 4)]), (kD [(.int 9), (.int 5), (.int 9), (.int 5)]), (kD [(.int 10), (.int 4), (.int 14), (.int 0)]), (kD [(.int 15), (.int 0), (.int 19), (.int 0)])])), ("but", (kD [(kD [(.int 0), (.int 0), (.int 3), (.int 0)]), (kD [(.int 9), (.int 2), (.int 10), (.int 3)]), (kD [(.int 0), (.int 8), (.int 1), (.int 8)]), (kD [(.int 2), (.int 7), (.int 3), (.int 6)]), (kD [(.int 9), (.int 5), (.int 10), (.int 5)]), (kD [(.int 11), (.int 4), (.int 11), (.int 4)]), (kD [(.int 11), (.int 5), (.int 11), (.int 5)]), (kD [(.int 11), (.int 6), (.int 11), (.int 6)]), (kD [(.int 12), (.int 5), (.int 17), (.int 0)]), (kD [(.int 18), (.int 0), (.int 19), (.int 0)])]))] := Tab.of 8 (PySem.W.mg_of X G g_RUNS) t_RUNS r_RUNS
  have W__law_fault : WhyAt K mg "_law_fault" "_law_call" (top 60) f__law_fault := ⟨PySem.W.mg_of X G a__law_fault, k__law_fault, _, _, _, _, _, _, _, _, _, l__law_fault, c__law_fault, b__law_fault⟩
  have Y__law_fault := fun Xc eK em hg hu q0 cd0 => at__law_fault (g0 := f__law_fault) T EX y_BadRow (PySem.W.mg_of X G g_BadRow) (E_BadRow.xf hasB) n_BadRow_row y_BadNumber (PySem.W.mg_of X G g_BadNumber) (E_BadNumber.xf hasB) n_BadNumber_what n_BadNumber_number y_BadName (PySem.W.mg_of X G g_BadName) (E_BadName.xf hasB) n_BadName_name Xc eK em hg hu q0 cd0
  obtain ⟨hP, hC⟩ := own.at X l_law lc_law vt_law
  refine ⟨(PySem.W.fnOf "law" "law" (defArgs (top 63)) (defBody (top 63)) (defScope (top 63)) .none kV_law dc_law pm_law an_law (.ref c_law) ct_law), [(c_law, P_law)], spLaw K [(P_law, ((("law" : Str) ++ (".<locals>." : Str)) ++ ("<lambda>" : Str)))], fun p hp => ?_, fun p hp => ?_, fun p hp => ?_, fun s u => .of_eq rfl, fun H a ns hl hH hS => ⟨a, ns, rfl, hS, hl, fun t ht => ?_, fun _ => rfl⟩, fun base XB GB HT => ?_⟩
  · rw [List.mem_singleton.mp hp]; exact hP
  · rw [List.mem_singleton.mp hp]; exact np_law
  · rw [List.mem_singleton.mp hp]; exact hC
  · rw [List.mem_singleton.mp ht]; exact hH _ (List.mem_singleton.mpr rfl)
  have H_BadNumber : Exn K XC mg l.prog w base "BadNumber" ["what", "number"] ["self", "what", "number"] C_BadNumber f_BadNumber _ := ⟨E_BadNumber.oex hasB refsS, a_BadNumber, t_BadNumber, ok_BadNumber_init F_BadNumber (E_BadNumber.oex hasB refsS) n_BadNumber_what n_BadNumber_number, b_BadNumber, PySem.W.mg_of X G g_BadNumber, y_BadNumber⟩
  have H_BadRow : Exn K XC mg l.prog w base "BadRow" ["row"] ["self", "row"] C_BadRow f_BadRow _ := ⟨E_BadRow.oex hasB refsS, a_BadRow, t_BadRow, ok_BadRow_init F_BadRow (E_BadRow.oex hasB refsS) n_BadRow_row, b_BadRow, PySem.W.mg_of X G g_BadRow, y_BadRow⟩
  have H_BadName : Exn K XC mg l.prog w base "BadName" ["name"] ["self", "name"] C_BadName f_BadName _ := ⟨E_BadName.oex hasB refsS, a_BadName, t_BadName, ok_BadName_init F_BadName (E_BadName.oex hasB refsS) n_BadName_name, b_BadName, PySem.W.mg_of X G g_BadName, y_BadName⟩
  have H_is_integer : Fw.Fn K mg l.prog w base CX0 "is_integer" 1 f_is_integer _ ["value"] (spN ⟨K, XC⟩ false 1 (defF false 1 Sb.F_is_integer)) := ⟨PySem.W.mg_of X G a_is_integer, k_is_integer, b_is_integer, ok_is_integer F_is_integer T⟩
  have H_is_below : Fw.Fn K mg l.prog w base CX0 "is_below" 2 f_is_below _ ["value", "end"] (spN ⟨K, XC⟩ false 2 (defF false 2 Sb.F_is_below)) := ⟨PySem.W.mg_of X G a_is_below, k_is_below, b_is_below, ok_is_below F_is_below T H_is_integer⟩
  have H_is_row : Fw.Fn K mg l.prog w base CX0 "is_row" 1 f_is_row _ ["value"] (spN ⟨K, XC⟩ false 1 (defF false 1 Sb.F_is_row)) := ⟨PySem.W.mg_of X G a_is_row, k_is_row, b_is_row, ok_is_row F_is_row T⟩
  have H_is_bits : Fw.Fn K mg l.prog w base CX0 "is_bits" 3 f_is_bits _ ["value", "many"] (spN ⟨K, XC⟩ false 2 (defF false 3 Sb.F_is_bits)) := ⟨PySem.W.mg_of X G a_is_bits, k_is_bits, b_is_bits, ok_is_bits F_is_bits T H_is_row H_is_below⟩
  have H_is_kind : Fw.Fn K mg l.prog w base CX0 "is_kind" 1 f_is_kind _ ["value"] (spN ⟨K, XC⟩ false 1 (defF false 1 Sb.F_is_kind)) := ⟨PySem.W.mg_of X G a_is_kind, k_is_kind, b_is_kind, ok_is_kind F_is_kind T H_KINDS⟩
  have H__check_kind : Fw.Fn K mg l.prog w base (L2.CX l.prog w) "_check_kind" 3 f__check_kind _ ["kind"] (spX ⟨K, XC⟩ false 1 (defF false 1 Sb.F__check_kind)) := ⟨PySem.W.mg_of X G a__check_kind, k__check_kind, b__check_kind, ok__check_kind F__check_kind T H_is_kind H_BadName⟩
  have H_kinds : Fw.Fn K mg l.prog w base CX0 "kinds" 1 f_kinds _ [] (spN ⟨K, XC⟩ false 0 (defF false 0 Sb.F_kinds)) := ⟨PySem.W.mg_of X G a_kinds, k_kinds, b_kinds, ok_kinds F_kinds T H_KINDS⟩
  have H_ins_of : Fw.Fn K mg l.prog w base (L2.CX l.prog w) "ins_of" 4 f_ins_of _ ["kind"] (spX ⟨K, XC⟩ false 1 (defF false 1 Sb.F_ins_of)) := ⟨PySem.W.mg_of X G a_ins_of, k_ins_of, b_ins_of, ok_ins_of F_ins_of T H__check_kind H_INS⟩
  have H_outs_of : Fw.Fn K mg l.prog w base (L2.CX l.prog w) "outs_of" 4 f_outs_of _ ["kind"] (spX ⟨K, XC⟩ false 1 (defF false 1 Sb.F_outs_of)) := ⟨PySem.W.mg_of X G a_outs_of, k_outs_of, b_outs_of, ok_outs_of F_outs_of T H__check_kind H_OUTS⟩
  have H_word_of : Fw.Fn K mg l.prog w base (L2.CX l.prog w) "word_of" 4 f_word_of _ ["kind", "bits"] (spX ⟨K, XC⟩ false 2 (defF false 2 Sb.F_word_of)) := ⟨PySem.W.mg_of X G a_word_of, k_word_of, b_word_of, ok_word_of F_word_of T H__check_kind H_is_bits H_BadRow H_INS⟩
  have H__run : Fw.Fn K mg l.prog w base CX0 "_run" 1 f__run _ ["x", "y", "u", "v"] (spN ⟨K, XC⟩ false 4 (defF false 6 Sb.F__run)) := ⟨PySem.W.mg_of X G a__run, k__run, b__run, ok__run F__run T⟩
  have H_tile_cells : Fw.Fn K mg l.prog w base (L2.CX l.prog w) "tile_cells" 4 f_tile_cells _ ["kind"] (spX ⟨K, XC⟩ false 1 (defF false 8 Sb.F_tile_cells)) := ⟨PySem.W.mg_of X G a_tile_cells, k_tile_cells, b_tile_cells, ok_tile_cells F_tile_cells T H__check_kind H__run H_ONE_WAY H_ONE_WAYS H_RUNS⟩
  have H_upper : Fw.Fn K mg l.prog w base CX0 "upper" 1 f_upper _ ["tile"] (spN ⟨K, XC⟩ false 1 (defF false 3 Sb.F_upper)) := ⟨PySem.W.mg_of X G a_upper, k_upper, b_upper, ok_upper F_upper T⟩
  have H_rows_of : Fw.Fn K mg l.prog w base CX0 "rows_of" 2 f_rows_of _ ["tile"] (spN ⟨K, XC⟩ false 1 (defF false 2 Sb.F_rows_of)) := ⟨PySem.W.mg_of X G a_rows_of, k_rows_of, b_rows_of, ok_rows_of F_rows_of T H_upper⟩
  have H_cells_at : Fw.Fn K mg l.prog w base (L2.CX l.prog w) "cells_at" 5 f_cells_at _ ["tile", "x"] (spX ⟨K, XC⟩ false 2 (defF false 5 Sb.F_cells_at)) := ⟨PySem.W.mg_of X G a_cells_at, k_cells_at, b_cells_at, ok_cells_at F_cells_at T H_upper H_tile_cells H_PITCH⟩
  have H_is_tile : Fw.Fn K mg l.prog w base (L2.CX l.prog w) "is_tile" 4 f_is_tile _ ["kind", "cells"] (spX ⟨K, XC⟩ false 2 (defF false 3 Sb.F_is_tile)) := ⟨PySem.W.mg_of X G a_is_tile, k_is_tile, b_is_tile, ok_is_tile F_is_tile T H__check_kind⟩
  have H__law_pen : Fw.Fn K mg l.prog w base CX0 "_law_pen" 1 f__law_pen _ ["_law_script"] (Fw.spPen K) := ⟨PySem.W.mg_of X G a__law_pen, k__law_pen, b__law_pen, ok_pen F__law_pen T⟩
  have H__law_draw : Fw.Fn K mg l.prog w base CX0 "_law_draw" 1 f__law_draw _ ["_law_pen_here", "_law_many"] (spN ⟨K, XC⟩ true 1 drawF) := ⟨PySem.W.mg_of X G a__law_draw, k__law_draw, b__law_draw, ok__law_draw F__law_draw T⟩
  have H__law_pick : Fw.Fn K mg l.prog w base CX0 "_law_pick" 2 f__law_pick _ ["_law_pen_here", "_law_some"] (spN ⟨K, XC⟩ true 1 (defF true 2 Sb.F__law_pick)) := ⟨PySem.W.mg_of X G a__law_pick, k__law_pick, b__law_pick, ok__law_pick F__law_pick T H__law_draw⟩
  have H__law_known : Fw.Fn K mg l.prog w base CX0 "_law_known" 1 f__law_known _ ["_law_cells"] (spN ⟨K, XC⟩ false 1 (defF false 3 Sb.F__law_known)) := ⟨PySem.W.mg_of X G a__law_known, k__law_known, b__law_known, ok__law_known F__law_known T⟩
  have H__law_line : Fw.Fn K mg l.prog w base CX0 "_law_line" 1 f__law_line _ ["_law_x", "_law_y", "_law_u", "_law_v"] (spN ⟨K, XC⟩ false 4 (defF false 6 Sb.F__law_line)) := ⟨PySem.W.mg_of X G a__law_line, k__law_line, b__law_line, ok__law_line F__law_line T⟩
  have H__law_one_way : Fw.Fn K mg l.prog w base CX0 "_law_one_way" 1 f__law_one_way _ ["_law_x", "_law_y"] (spN ⟨K, XC⟩ false 2 (defF false 5 Sb.F__law_one_way)) := ⟨PySem.W.mg_of X G a__law_one_way, k__law_one_way, b__law_one_way, ok__law_one_way F__law_one_way T⟩
  have H__law_shape : Fw.Fn K mg l.prog w base CX0 "_law_shape" 2 f__law_shape _ ["_law_kind"] (spN ⟨K, XC⟩ false 1 (defF false 2 Sb.F__law_shape)) := ⟨PySem.W.mg_of X G a__law_shape, k__law_shape, b__law_shape, ok__law_shape F__law_shape T H__law_line H__law_one_way⟩
  have H__law_kinds : Fw.Fn K mg l.prog w base CX0 "_law_kinds" 1 f__law_kinds _ [] (spN ⟨K, XC⟩ false 0 (defF false 0 Sb.F__law_kinds)) := ⟨PySem.W.mg_of X G a__law_kinds, k__law_kinds, b__law_kinds, ok__law_kinds F__law_kinds T⟩
  have H__law_ins : Fw.Fn K mg l.prog w base CX0 "_law_ins" 1 f__law_ins _ ["_law_kind"] (spN ⟨K, XC⟩ false 1 (defF false 1 Sb.F__law_ins)) := ⟨PySem.W.mg_of X G a__law_ins, k__law_ins, b__law_ins, ok__law_ins F__law_ins T⟩
  have H__law_outs : Fw.Fn K mg l.prog w base CX0 "_law_outs" 1 f__law_outs _ ["_law_kind"] (spN ⟨K, XC⟩ false 1 (defF false 1 Sb.F__law_outs)) := ⟨PySem.W.mg_of X G a__law_outs, k__law_outs, b__law_outs, ok__law_outs F__law_outs T⟩
  have H__law_upper : Fw.Fn K mg l.prog w base CX0 "_law_upper" 1 f__law_upper _ ["_law_tile"] (spN ⟨K, XC⟩ false 1 (defF false 1 Sb.F__law_upper)) := ⟨PySem.W.mg_of X G a__law_upper, k__law_upper, b__law_upper, ok__law_upper F__law_upper T⟩
  have H__law_rows_of : Fw.Fn K mg l.prog w base CX0 "_law_rows_of" 2 f__law_rows_of _ ["_law_tile"] (spN ⟨K, XC⟩ false 1 (defF false 2 Sb.F__law_rows_of)) := ⟨PySem.W.mg_of X G a__law_rows_of, k__law_rows_of, b__law_rows_of, ok__law_rows_of F__law_rows_of T H__law_upper⟩
  have H__law_cells_at : Fw.Fn K mg l.prog w base CX0 "_law_cells_at" 3 f__law_cells_at _ ["_law_tile", "_law_x"] (spN ⟨K, XC⟩ false 2 (defF false 5 Sb.F__law_cells_at)) := ⟨PySem.W.mg_of X G a__law_cells_at, k__law_cells_at, b__law_cells_at, ok__law_cells_at F__law_cells_at T H__law_upper H__law_shape⟩
  have H__law_near : Fw.Fn K mg l.prog w base CX0 "_law_near" 1 f__law_near _ ["_law_known_here", "_law_cell"] (spN ⟨K, XC⟩ false 2 (defF false 5 Sb.F__law_near)) := ⟨PySem.W.mg_of X G a__law_near, k__law_near, b__law_near, ok__law_near F__law_near T⟩
  have H__law_touches : Fw.Fn K mg l.prog w base CX0 "_law_touches" 2 f__law_touches _ ["_law_one", "_law_other"] (spN ⟨K, XC⟩ false 2 (defF false 6 Sb.F__law_touches)) := ⟨PySem.W.mg_of X G a__law_touches, k__law_touches, b__law_touches, ok__law_touches F__law_touches T H__law_known H__law_near⟩
  have H__law_pair_right : Fw.Fn K mg l.prog w base CX0 "_law_pair_right" 6 f__law_pair_right _ ["_law_pen_here"] (spN ⟨K, XC⟩ true 0 (defF true 10 Sb.F__law_pair_right)) := ⟨PySem.W.mg_of X G a__law_pair_right, k__law_pair_right, b__law_pair_right, ok__law_pair_right F__law_pair_right T H__law_pick H__law_kinds H__law_draw H_rows_of H__law_touches H_cells_at H_upper H_outs_of H_ins_of⟩
  exact ok_law l_law cd_law T rfl (HT _ (List.mem_singleton.mpr rfl)) H__law_pen H_kinds H__law_kinds H__law_draw H_ins_of H_outs_of H__law_ins H__law_outs H_upper H_rows_of H__law_upper H__law_rows_of H_cells_at H__law_cells_at H__law_pair_right H__law_pick H_tile_cells H_word_of H_is_tile W__law_fault Y__law_fault law_holds
end Sb
open PySem PySem.W PyProof.Rows
set_option maxRecDepth 100000 in
set_option maxHeartbeats 0 in
theorem PySem.Challenge.cw_sparkboard_k17_whole_shapes_and_rows_holds : PySem.Challenge.rw_sparkboard_k17_whole_shapes_and_rows.Holds := by
  w_on; o_law; k_head; (case hw => w_witness2)
  k_fill
  refine Fw.walk_T (l := PySem.Challenge.rw_sparkboard_k17_whole_shapes_and_rows) (n := 63) (x := "_law_script") rfl (by decide) rfl (by kernel_rfl) ?F
  case F =>
    intro w mg fa h Y G hmg
    have KX := PySem.W.km_in_of Y
    refine' ⟨_, KX, fun own => ?_⟩
    refine' Sb.all_mk KX G hmg own ?hn ?ht ?g_BadNumber ?x_BadNumber ?sa_BadNumber ?ga_BadNumber ?gg_BadNumber ?hc_BadNumber ?kc_BadNumber ?n_BadNumber_what ?n_BadNumber_number ?g_BadRow ?x_BadRow ?sa_BadRow ?ga_BadRow ?gg_BadRow ?hc_BadRow ?kc_BadRow ?n_BadRow_row ?g_BadName ?x_BadName ?sa_BadName ?ga_BadName ?gg_BadName ?hc_BadName ?kc_BadName ?n_BadName_name ?m_BadNumber_BadNumber ?m_BadNumber_BadRow ?m_BadNumber_BadName ?m_BadRow_BadNumber ?m_BadRow_BadRow ?m_BadRow_BadName ?m_BadName_BadNumber ?m_BadName_BadRow ?m_BadName_BadName ?g_KINDS ?r_KINDS ?g_ONE_WAY ?r_ONE_WAY ?g_PITCH ?r_PITCH ?g_INS ?t_INS ?r_INS ?g_ONE_WAYS ?t_ONE_WAYS ?r_ONE_WAYS ?g_OUTS ?t_OUTS ?r_OUTS ?g_RUNS ?t_RUNS ?r_RUNS ?a_BadNumber ?l_BadNumber ?c_BadNumber ?k_BadNumber ?t_BadNumber ?a_BadRow ?l_BadRow ?c_BadRow ?k_BadRow ?t_BadRow ?a_BadName ?l_BadName ?c_BadName ?k_BadName ?t_BadName ?a_is_integer ?l_is_integer ?c_is_integer ?k_is_integer ?a_is_below ?l_is_below ?c_is_below ?k_is_below ?a_is_row ?l_is_row ?c_is_row ?k_is_row ?a_is_bits ?l_is_bits ?c_is_bits ?k_is_bits ?a_is_kind ?l_is_kind ?c_is_kind ?k_is_kind ?a__check_kind ?l__check_kind ?c__check_kind ?k__check_kind ?a_kinds ?l_kinds ?c_kinds ?k_kinds ?a_ins_of ?l_ins_of ?c_ins_of ?k_ins_of ?a_outs_of ?l_outs_of ?c_outs_of ?k_outs_of ?a_word_of ?l_word_of ?c_word_of ?k_word_of ?a__run ?l__run ?c__run ?k__run ?a_tile_cells ?l_tile_cells ?c_tile_cells ?k_tile_cells ?a_upper ?l_upper ?c_upper ?k_upper ?a_rows_of ?l_rows_of ?c_rows_of ?k_rows_of ?a_cells_at ?l_cells_at ?c_cells_at ?k_cells_at ?a_is_tile ?l_is_tile ?c_is_tile ?k_is_tile ?a__law_pen ?l__law_pen ?c__law_pen ?k__law_pen ?a__law_draw ?l__law_draw ?c__law_draw ?k__law_draw ?a__law_pick ?l__law_pick ?c__law_pick ?k__law_pick ?a__law_known ?l__law_known ?c__law_known ?k__law_known ?a__law_line ?l__law_line ?c__law_line ?k__law_line ?a__law_one_way ?l__law_one_way ?c__law_one_way ?k__law_one_way ?a__law_shape ?l__law_shape ?c__law_shape ?k__law_shape ?a__law_kinds ?l__law_kinds ?c__law_kinds ?k__law_kinds ?a__law_ins ?l__law_ins ?c__law_ins ?k__law_ins ?a__law_outs ?l__law_outs ?c__law_outs ?k__law_outs ?a__law_upper ?l__law_upper ?c__law_upper ?k__law_upper ?a__law_rows_of ?l__law_rows_of ?c__law_rows_of ?k__law_rows_of ?a__law_cells_at ?l__law_cells_at ?c__law_cells_at ?k__law_cells_at ?a__law_near ?l__law_near ?c__law_near ?k__law_near ?a__law_fault ?l__law_fault ?c__law_fault ?k__law_fault ?a__law_touches ?l__law_touches ?c__law_touches ?k__law_touches ?a__law_pair_right ?l__law_pair_right ?c__law_pair_right ?k__law_pair_right ?a_law ?l_law ?cd_law ?lc_law ?vt_law ?np_law ?z_isinstance ?z_int ?z_bool ?z_str ?z_tuple ?z_list ?z_dict ?z_set ?z_len ?z_all ?z_any ?z_enumerate ?z_zip ?z_range ?z_sorted ?z_max ?z_min ?z_abs ?z_repr ?z_reversed
    (case hn => k_is)
    (case ht => k_is)
    (case g_BadNumber => k_is)
    (case x_BadNumber => k_is)
    (case sa_BadNumber => k_is)
    (case ga_BadNumber => k_is)
    (case gg_BadNumber => k_is)
    (case hc_BadNumber => k_is)
    (case kc_BadNumber => k_is)
    (case n_BadNumber_what => k_is)
    (case n_BadNumber_number => k_is)
    (case g_BadRow => k_is)
    (case x_BadRow => k_is)
    (case sa_BadRow => k_is)
    (case ga_BadRow => k_is)
    (case gg_BadRow => k_is)
    (case hc_BadRow => k_is)
    (case kc_BadRow => k_is)
    (case n_BadRow_row => k_is)
    (case g_BadName => k_is)
    (case x_BadName => k_is)
    (case sa_BadName => k_is)
    (case ga_BadName => k_is)
    (case gg_BadName => k_is)
    (case hc_BadName => k_is)
    (case kc_BadName => k_is)
    (case n_BadName_name => k_is)
    (case m_BadNumber_BadNumber => kts_exm)
    (case m_BadNumber_BadRow => kts_exm)
    (case m_BadNumber_BadName => kts_exm)
    (case m_BadRow_BadNumber => kts_exm)
    (case m_BadRow_BadRow => kts_exm)
    (case m_BadRow_BadName => kts_exm)
    (case m_BadName_BadNumber => kts_exm)
    (case m_BadName_BadRow => kts_exm)
    (case m_BadName_BadName => kts_exm)
    (case g_KINDS => k_is)
    (case r_KINDS => kernel_rfl)
    (case g_ONE_WAY => k_is)
    (case r_ONE_WAY => kernel_rfl)
    (case g_PITCH => k_is)
    (case r_PITCH => kernel_rfl)
    (case g_INS => k_is)
    (case t_INS => kernel_rfl)
    (case r_INS => kernel_rfl)
    (case g_ONE_WAYS => k_is)
    (case t_ONE_WAYS => kernel_rfl)
    (case r_ONE_WAYS => kernel_rfl)
    (case g_OUTS => k_is)
    (case t_OUTS => kernel_rfl)
    (case r_OUTS => kernel_rfl)
    (case g_RUNS => k_is)
    (case t_RUNS => kernel_rfl)
    (case r_RUNS => kernel_rfl)
    (case a_BadNumber => k_is)
    (case l_BadNumber => k_is)
    (case c_BadNumber => k_is)
    (case k_BadNumber => k_is)
    (case t_BadNumber => k_is)
    (case a_BadRow => k_is)
    (case l_BadRow => k_is)
    (case c_BadRow => k_is)
    (case k_BadRow => k_is)
    (case t_BadRow => k_is)
    (case a_BadName => k_is)
    (case l_BadName => k_is)
    (case c_BadName => k_is)
    (case k_BadName => k_is)
    (case t_BadName => k_is)
    (case a_is_integer => k_is)
    (case l_is_integer => k_is)
    (case c_is_integer => k_is)
    (case k_is_integer => k_is)
    (case a_is_below => k_is)
    (case l_is_below => k_is)
    (case c_is_below => k_is)
    (case k_is_below => k_is)
    (case a_is_row => k_is)
    (case l_is_row => k_is)
    (case c_is_row => k_is)
    (case k_is_row => k_is)
    (case a_is_bits => k_is)
    (case l_is_bits => k_is)
    (case c_is_bits => k_is)
    (case k_is_bits => k_is)
    (case a_is_kind => k_is)
    (case l_is_kind => k_is)
    (case c_is_kind => k_is)
    (case k_is_kind => k_is)
    (case a__check_kind => k_is)
    (case l__check_kind => k_is)
    (case c__check_kind => k_is)
    (case k__check_kind => k_is)
    (case a_kinds => k_is)
    (case l_kinds => k_is)
    (case c_kinds => k_is)
    (case k_kinds => k_is)
    (case a_ins_of => k_is)
    (case l_ins_of => k_is)
    (case c_ins_of => k_is)
    (case k_ins_of => k_is)
    (case a_outs_of => k_is)
    (case l_outs_of => k_is)
    (case c_outs_of => k_is)
    (case k_outs_of => k_is)
    (case a_word_of => k_is)
    (case l_word_of => k_is)
    (case c_word_of => k_is)
    (case k_word_of => k_is)
    (case a__run => k_is)
    (case l__run => k_is)
    (case c__run => k_is)
    (case k__run => k_is)
    (case a_tile_cells => k_is)
    (case l_tile_cells => k_is)
    (case c_tile_cells => k_is)
    (case k_tile_cells => k_is)
    (case a_upper => k_is)
    (case l_upper => k_is)
    (case c_upper => k_is)
    (case k_upper => k_is)
    (case a_rows_of => k_is)
    (case l_rows_of => k_is)
    (case c_rows_of => k_is)
    (case k_rows_of => k_is)
    (case a_cells_at => k_is)
    (case l_cells_at => k_is)
    (case c_cells_at => k_is)
    (case k_cells_at => k_is)
    (case a_is_tile => k_is)
    (case l_is_tile => k_is)
    (case c_is_tile => k_is)
    (case k_is_tile => k_is)
    (case a__law_pen => k_is)
    (case l__law_pen => k_is)
    (case c__law_pen => k_is)
    (case k__law_pen => k_is)
    (case a__law_draw => k_is)
    (case l__law_draw => k_is)
    (case c__law_draw => k_is)
    (case k__law_draw => k_is)
    (case a__law_pick => k_is)
    (case l__law_pick => k_is)
    (case c__law_pick => k_is)
    (case k__law_pick => k_is)
    (case a__law_known => k_is)
    (case l__law_known => k_is)
    (case c__law_known => k_is)
    (case k__law_known => k_is)
    (case a__law_line => k_is)
    (case l__law_line => k_is)
    (case c__law_line => k_is)
    (case k__law_line => k_is)
    (case a__law_one_way => k_is)
    (case l__law_one_way => k_is)
    (case c__law_one_way => k_is)
    (case k__law_one_way => k_is)
    (case a__law_shape => k_is)
    (case l__law_shape => k_is)
    (case c__law_shape => k_is)
    (case k__law_shape => k_is)
    (case a__law_kinds => k_is)
    (case l__law_kinds => k_is)
    (case c__law_kinds => k_is)
    (case k__law_kinds => k_is)
    (case a__law_ins => k_is)
    (case l__law_ins => k_is)
    (case c__law_ins => k_is)
    (case k__law_ins => k_is)
    (case a__law_outs => k_is)
    (case l__law_outs => k_is)
    (case c__law_outs => k_is)
    (case k__law_outs => k_is)
    (case a__law_upper => k_is)
    (case l__law_upper => k_is)
    (case c__law_upper => k_is)
    (case k__law_upper => k_is)
    (case a__law_rows_of => k_is)
    (case l__law_rows_of => k_is)
    (case c__law_rows_of => k_is)
    (case k__law_rows_of => k_is)
    (case a__law_cells_at => k_is)
    (case l__law_cells_at => k_is)
    (case c__law_cells_at => k_is)
    (case k__law_cells_at => k_is)
    (case a__law_near => k_is)
    (case l__law_near => k_is)
    (case c__law_near => k_is)
    (case k__law_near => k_is)
    (case a__law_fault => k_is)
    (case l__law_fault => k_is)
    (case c__law_fault => k_is)
    (case k__law_fault => k_is)
    (case a__law_touches => k_is)
    (case l__law_touches => k_is)
    (case c__law_touches => k_is)
    (case k__law_touches => k_is)
    (case a__law_pair_right => k_is)
    (case l__law_pair_right => k_is)
    (case c__law_pair_right => k_is)
    (case k__law_pair_right => k_is)
    (case a_law => k_is)
    (case l_law => k_is)
    (case cd_law => k_is)
    (case lc_law => k_is)
    (case vt_law => rfl)
    (case np_law => kernel_rfl)
    (case z_isinstance => k_is)
    (case z_int => k_is)
    (case z_bool => k_is)
    (case z_str => k_is)
    (case z_tuple => k_is)
    (case z_list => k_is)
    (case z_dict => k_is)
    (case z_set => k_is)
    (case z_len => k_is)
    (case z_all => k_is)
    (case z_any => k_is)
    (case z_enumerate => k_is)
    (case z_zip => k_is)
    (case z_range => k_is)
    (case z_sorted => k_is)
    (case z_max => k_is)
    (case z_min => k_is)
    (case z_abs => k_is)
    (case z_repr => k_is)
    (case z_reversed => k_is)
