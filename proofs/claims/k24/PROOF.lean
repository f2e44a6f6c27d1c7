import PyProof.Rows.All
import Wide.All
import OpenK.AllK
import Wide.FinOn
import HandS.TryMany
import HandS.ExcField
import HandS.ExcInit
import HandS.ForMost
import HandS.Codes
import HandS.IsInst
import HandS.Style
import HandS.More
import HandS.SlotsOwn
import HandS.OwnEq
import KE.GoesMore
import HandS.TupAny
import HandS.Lambda
import HandS.Deep
import HandS.Conv
import PyProof.P3In
import HandS.WordsExc
import HandS.Dict
import PyProof.AutoSeq1
import HandS.Iter
import HandS.Ends
import HandS.Zip
import HandS.SortInts
import PyProof.ReprLen
import PyProof.ReprRoads
import PyProof.RowDictHeap
import PyProof.CallFns
import HandS.EndBits
import HandS.Defaults
import HandS.SetFor
import HandS.HeadHook3
import PySem.Challenge.RW_sparkboard_k24_whole_wires_of_each_lengt
import KE.DatumOrd
import HandS.SortRule
import HandS.Small
import HandS.TupMul
import HandS.Walk
import KE.KDictWalk
import HandS.TupLen
import KE.Datum
import PySem.Challenge.RW_sparkboard_k24_whole_wires_of_each_lengt
set_option Elab.async false
set_option linter.all false
set_option maxRecDepth 100000
set_option maxHeartbeats 4000000
namespace Fw
open PySem PySem.Spec PyProof.Rows L2
/-! ### several except clauses, each with a name for what it caught; the name has the slot i -/
abbrev Suit := Addr → Value → Option Addr → TS
def unEnds (i : Nat) (D : Ends) : Ends := { nx := fun σ H => D.nx (σ.set i none) H, rt := D.rt, bk := fun σ H => D.bk (σ.set i none) H, ct := fun σ H => D.ct (σ.set i none) H }
def wNamed (K : PySem.W.Frag) (i : Nat) (none_ : WX) (D : Ends) : List (Value × Suit) → WX
  | [] => none_
  | y :: r => fun cls d σ H => ∃ b, PySem.W.exmOne K cls y.1 = some b ∧ (b = true → ∀ a, H a = none → y.2 a cls d (unEnds i D) (σ.set i (some (.ref a))) H) ∧ (b = false → wNamed K i none_ D r cls d σ H)
inductive Clauses (X : Cx) (n : Str) : List ExceptHandler → List (Value × Suit) → Prop
  | nil : Clauses X n [] []
  | cons {x : Str} {c : Value} {ts : Suit} {b : Stmt} {bs : List Stmt} {p q : Pos} {hs : List ExceptHandler} {l : List (Value × Suit)} (nm : Names X x c)
      (su : ∀ (a : Addr) (o : Obj) (cls : Value) (d : Option Addr) (pn : List (Addr × Obj)), Zc cls d o → (∃ vs, o.data = .fields vs) → PSs (X.suite a ((a, o) :: pn)) (b :: bs) (ts a cls d)) (r : Clauses X n hs l) :
      Clauses X n (.ExceptHandler (some (.Name x p)) (some n) (b :: bs) q :: hs) ((c, ts) :: l)
section
variable {X : Cx} {n : Str} {i : Nat} {body : List Stmt} {h : ExceptHandler} {hs : List ExceptHandler} {l : List (Value × Suit)} {pos : Pos} {tb : WX → TS} {none_ : WX}
theorem ps_tryN (stk : X.stack = X.env :: X.outer) (frm : X.env.frame = some X.env.locals) (nd : X.N.Nodup) (at_ : X.N[i]? = some n) (lo : X.env.kindOf n = some .local) (tk : Takes X none_)
    (run : ∀ (W : WX) (pn : List (Addr × Obj)) (xe : Value → Shared → Prop), Takes (X.tr pn xe) W → PassesOwn (model X.prog X.w) X.A X.env xe → PSs (X.tr pn xe) body (tb W))
    (cl : Clauses X n (h :: hs) l) : PS X (.Try body (h :: hs) [] [] pos) (fun D σ H => tb (wNamed X.K i none_ D l) D σ H) := by
  constructor
  intro pins s σ H D I pre
  have ok := I.ok
  have vis : Loc X.env.scope n := .inl lo
  have allF : X.A.frames = some (X.env :: X.outer) := by
    rw [← stk]
    exact ok.frames
  apply wpAny_Try_except
  refine wpAny_mono ((run (wNamed X.K i none_ D l) (X.pn ++ pins) (fun e s₁ => wpAny (model X.prog X.w) X.A (noteFrame e X.env) (fun _ s₂ => wpAny (model X.prog X.w) X.A (setFlight e none) (fun _ s₃ => wpAny (model X.prog X.w) X.A (handleBy e X.env (h :: hs)) (SP X pins D) X.xe s₃) X.xe s₂) X.xe s₁) ?_ PassesOwn.looking).run [] s σ H D (I.toTry _) pre) ?_ (fun _ _ z => z)
  · rintro _ s' ⟨a, B, sI, pins', σ', H', cls, d, rfl, J0, nb, up, sky, na, os, ag, w⟩
    have J : Inv X pins σ' H' sI := J0.ofTry ok
    show wpAny (model X.prog X.w) X.A (noteFrame (.ref a) X.env) _ _ _
    refine Sky.land Zc.steady allF frm (show Sky B (X.env :: X.outer) a (Zc cls d) X.env.locals s'.heap by rw [← stk]; exact sky) ?_
    intro h3 fl up3
    have J3 : Inv X pins σ' H' { s' with heap := h3 } := J.landed nb fl.1 (up.trans up3) os ag
    obtain ⟨oe, vs, he, hz, hd⟩ := fl.there
    have noFrame : a ∉ frs (X.env :: X.outer) := fun m => by
      obtain ⟨_, o', e', hn⟩ := fl.2.2.1.mem m
      cases he.symm.trans e'
      exact hn _ hd
    have noLoc : a ≠ X.env.locals := fun z => noFrame (List.mem_filterMap.mpr ⟨X.env, List.mem_cons_self, by rw [frm, z]⟩)
    have noFs : a ∉ X.fs := fun m => by
      obtain ⟨e, me, q⟩ := List.mem_filterMap.mp m
      exact noFrame (List.mem_filterMap.mpr ⟨e, List.mem_cons_of_mem _ me, q⟩)
    have S := J3.suite he hd na noLoc noFs
    have look : PySem.W.Looks (model X.prog X.w) h3 (typeOf (.ref a)) cls := fun A Q E s k q => wpAny_typeOf_ref (k _ _ he) (by rw [hz.1]; exact q)
    -- clause by clause
    have go : ∀ {hs' : List ExceptHandler} {l' : List (Value × Suit)}, Clauses X n hs' l' → wNamed X.K i none_ D l' cls d σ' H' → wpAny (model X.prog X.w) X.A (handleBy (.ref a) X.env hs') (SP X pins D) X.xe { s' with heap := h3 } := by
      intro hs' l' cl'
      induction cl' with
      | nil =>
        intro w
        apply wpAny_handleBy_nil
        obtain ⟨k1, k2, k3, o, vs', T, oT, ts', ae, az, ad, a1, ar⟩ := id fl
        unfold PySem.passOn
        refine wpAny_bind (wpAny_field ae ad a1 ?_)
        rw [if_neg (show ¬ ((Value.ref T == Value.none) = true) by simp)]
        have last : wpAny (model X.prog X.w) X.A (setFlight (.ref a) X.env.frame) (fun _ s4 => wpAny (model X.prog X.w) X.A (throw (.ref a) : Sem Flow) (SP X pins D) X.xe s4) X.xe { s' with heap := h3 } := by
          rw [frm]
          exact HandSPX.setFlight_upZ fl fun h4 hh4 up4 => wpAny_throw (tk _ _ ⟨a, B, sI, pins, σ', H', cls, d, rfl, J, nb, (up.trans up3).trans up4, .inr (.inr (by rw [stk]; exact hh4)), na, os, ag, w⟩)
        first
          | exact wpAny_bind (wpAny_pure (wpAny_bind last))
          | exact wpAny_bind last
      | @cons x c ts b bs p q hs2 l2 nm su r ih =>
        rintro ⟨k, hk, yes, no⟩
        refine wpAny_handleBy_cons (codeAny_handlers_test ?_) (by intro q; cases q)
        have met := PySem.W.exm_one (M := model X.prog X.w) J3.kIn look hk
        have asked : ∀ {Q : Value → Shared → Prop} {E : Value → Shared → Prop}, Q c { s' with heap := h3 } → wpAny (model X.prog X.w) (X.A.mark (some (.ref a))) (eval (.Name x p) X.env) Q E { s' with heap := h3 } := fun {Q E} q => by
          obtain ⟨g1, g2, m | ⟨m, v, nn⟩⟩ := nm
          · exact ld_glob (X := X.suite a ((a, oe) :: (X.pn ++ pins))) S g1 m q g2
          · exact ld_blt (X := X.suite a ((a, oe) :: (X.pn ++ pins))) S g1 m v q nn g2
        refine asked (met.here ?_)
        cases k with
        | false =>
          show wpAny _ X.A (handleBy (.ref a) X.env hs2) _ _ _
          exact ih (no rfl)
        | true =>
          refine codeAny_handlers_suite_as (HandSPX.lands_againZ fl fun h4 fl4 up4 => ?_)
          have J4 : Inv X pins σ' H' { s' with heap := h4 } := J.landed nb fl4.1 ((up.trans up3).trans up4) os ag
          obtain ⟨o4, v4, e4, z4, d4⟩ := fl4.there
          refine store_ok (X := X.suite a ((a, o4) :: (X.pn ++ pins))) (v := .ref a) (J4.suite e4 d4 na noLoc noFs) nd at_ vis rfl (fun s5 S5 => ?_) (.inr lo)
          have gone : ∀ {σ6 : L2.St} {H6 : Hp} {s6 : Shared} {Q : Shared → Prop}, Inv (X.suite a ((a, o4) :: (X.pn ++ pins))) [] σ6 H6 s6 → (∀ s7, Inv X pins (σ6.set i none) H6 s7 → Q s7) → wpAny (model X.prog X.w) X.A (do bindName X.env n .none; unbindBehindTheSuite X.env n q) (fun _ s7 => Q s7) X.xe s6 := fun S6 hq => gone_ok (S6.unsuite ok) nd at_ lo hq
          refine wpAny_mono ((su a o4 cls d (X.pn ++ pins) z4 ⟨_, d4⟩).run [] s5 _ H' _ S5 (yes rfl a na)) (fun f s6 z => ?_) (fun _ _ z => False.elim z)
          match f, z with
          | .next, ⟨σ6, H6, S6, q6⟩ => exact gone S6 fun s7 J7 => ⟨_, _, J7, q6⟩
          | .brk, ⟨σ6, H6, S6, q6⟩ => exact gone S6 fun s7 J7 => ⟨_, _, J7, q6⟩
          | .cont, ⟨σ6, H6, S6, q6⟩ => exact gone S6 fun s7 J7 => ⟨_, _, J7, q6⟩
          | .ret u, ⟨v6, σ6, H6, S6, r6, q6⟩ => exact gone S6 fun s7 J7 => ⟨_, _, _, J7, r6, q6⟩
    exact go cl w
  · intro f s1 z
    match f, z with
    | .next, ⟨σ1, H1, J1, q⟩ => exact wpAny_execs_nil ⟨σ1, H1, J1.ofTry ok, q⟩
    | .brk, ⟨σ1, H1, J1, q⟩ => exact ⟨σ1, H1, J1.ofTry ok, q⟩
    | .cont, ⟨σ1, H1, J1, q⟩ => exact ⟨σ1, H1, J1.ofTry ok, q⟩
    | .ret u, ⟨v, σ1, H1, J1, r, q⟩ => exact ⟨v, σ1, H1, J1.ofTry ok, r, q⟩
end
end Fw

set_option linter.all false
set_option maxRecDepth 100000
set_option maxHeartbeats 4000000
namespace Sb
open PySem PySem.Spec PyProof.Rows L2
/-! ### values as data: None, bools, ints, texts, tuples and lists of such; a dict is told as a dict alone -/
mutual
inductive Da (H : Hp) : V → PyData → Prop
  | non : Da H .non .none
  | bl (b : Bool) : Da H (.bl b) (.bool b)
  | int (i : Int) : Da H (.int i) (.int i)
  | str (x : Str) : Da H (.str x) (.str x)
  | lst {a : Addr} {xs : List V} {ds : List PyData} : H a = some (.lst xs) → Das H xs ds → Da H (.ref a) (.list ds)
  | tup {a : Addr} {xs : List V} {ds : List PyData} : H a = some (.tup xs) → Das H xs ds → Da H (.ref a) (.tuple ds)
inductive Das (H : Hp) : List V → List PyData → Prop
  | nil : Das H [] []
  | cons {v : V} {vs : List V} {d : PyData} {ds : List PyData} : Da H v d → Das H vs ds → Das H (v :: vs) (d :: ds)
end
/-- lists and tuples stand -/
structure Kp (H H' : Hp) : Prop where
  t : ∀ a xs, H a = some (.tup xs) → H' a = some (.tup xs)
  l : ∀ a xs, H a = some (.lst xs) → H' a = some (.lst xs)
theorem Kp.of {H H' : Hp} (s : Same H H') : Kp H H' := ⟨fun a xs h => s a _ h, fun a xs h => s a _ h⟩
theorem Kp.trans {H H1 H2 : Hp} (a : Kp H H1) (b : Kp H1 H2) : Kp H H2 := ⟨fun c xs h => b.t c xs (a.t c xs h), fun c xs h => b.l c xs (a.l c xs h)⟩
mutual
theorem Da.kp {H H' : Hp} (k : Kp H H') : ∀ (d : PyData) (v : V), Da H v d → Da H' v d
  | .none, _, h => by cases h; exact .non
  | .bool b, _, h => by cases h; exact .bl b
  | .int i, _, h => by cases h; exact .int i
  | .str x, _, h => by cases h; exact .str x
  | .list ds, _, h => by
    cases h with
    | lst ha hs => exact .lst (k.l _ _ ha) (Das.kp k ds _ hs)
  | .tuple ds, _, h => by
    cases h with
    | tup ha hs => exact .tup (k.t _ _ ha) (Das.kp k ds _ hs)
  | .dict _, _, h => by cases h
theorem Das.kp {H H' : Hp} (k : Kp H H') : ∀ (ds : List PyData) (vs : List V), Das H vs ds → Das H' vs ds
  | [], _, h => by cases h; exact .nil
  | d :: ds, _, h => by
    cases h with
    | cons h1 h2 => exact .cons (Da.kp k d _ h1) (Das.kp k ds _ h2)
end
theorem Da.same {H H' : Hp} (s : Same H H') {d : PyData} {v : V} (h : Da H v d) : Da H' v d := Da.kp (.of s) d v h
theorem Das.same {H H' : Hp} (s : Same H H') {d : List PyData} {v : List V} (h : Das H v d) : Das H' v d := Das.kp (.of s) d v h
theorem Das.length {H : Hp} : ∀ {vs : List V} {ds : List PyData}, Das H vs ds → vs.length = ds.length
  | _, _, .nil => rfl
  | _, _, .cons _ t => congrArg (· + 1) t.length
theorem Das.get {H : Hp} : ∀ {vs : List V} {ds : List PyData} {i : Nat} {x : V}, Das H vs ds → vs[i]? = some x → ∃ d, ds[i]? = some d ∧ Da H x d
  | _, _, 0, _, .cons h _, e => by cases e; exact ⟨_, rfl, h⟩
  | _, _, i + 1, x, .cons _ t, e => Das.get (i := i) t (by simpa using e)
  | _, _, 0, _, .nil, e => by cases e
  | _, _, i + 1, _, .nil, e => by cases e
theorem Das.at {H : Hp} : ∀ {vs : List V} {ds : List PyData} {i : Nat} {d : PyData}, Das H vs ds → ds[i]? = some d → ∃ x, vs[i]? = some x ∧ Da H x d
  | _, _, 0, _, .cons h _, e => by cases e; exact ⟨_, rfl, h⟩
  | _, _, i + 1, d, .cons _ t, e => Das.at (i := i) t (by simpa using e)
  | _, _, 0, _, .nil, e => by cases e
  | _, _, i + 1, _, .nil, e => by cases e
theorem Das.app {H : Hp} : ∀ {vs us : List V} {ds es : List PyData}, Das H vs ds → Das H us es → Das H (vs ++ us) (ds ++ es)
  | _, _, _, _, .nil, h => h
  | _, _, _, _, .cons h t, u => .cons h (t.app u)
theorem Das.one {H : Hp} {v : V} {d : PyData} (h : Da H v d) : Das H [v] [d] := .cons h .nil
theorem Das.take {H : Hp} : ∀ {vs : List V} {ds : List PyData} (n : Nat), Das H vs ds → Das H (vs.take n) (ds.take n)
  | _, _, 0, _ => .nil
  | _, _, _ + 1, .nil => .nil
  | _, _, n + 1, .cons h t => .cons h (Das.take n t)
theorem Das.drop {H : Hp} : ∀ {vs : List V} {ds : List PyData} (n : Nat), Das H vs ds → Das H (vs.drop n) (ds.drop n)
  | _, _, 0, h => h
  | _, _, _ + 1, .nil => .nil
  | _, _, n + 1, .cons _ t => Das.drop n t
/-- the same, or a dict -/
def Dx (H : Hp) (v : V) (d : PyData) : Prop := Da H v d ∨ ∃ a kvs, v = .ref a ∧ H a = some (.dK kvs) ∧ d = .dict []
theorem Dx.same {H H' : Hp} (s : Same H H') {d : PyData} {v : V} (h : Dx H v d) : Dx H' v d := by
  rcases h with h | ⟨a, kvs, e, h, e2⟩
  · exact .inl (h.same s)
  · exact .inr ⟨a, kvs, e, s _ _ h, e2⟩
def tyN : PyData → String
  | .none => "NoneType"
  | .bool _ => "bool"
  | .int _ => "int"
  | .str _ => "str"
  | .list _ => "list"
  | .tuple _ => "tuple"
  | .dict _ => "dict"
theorem Dx.ty {K : PySem.W.Frag} {H : Hp} {v : V} {d : PyData} (h : Dx H v d) : TyX K H v (.type (tyN d)) := by
  rcases h with h | ⟨a, kvs, rfl, h, rfl⟩
  · cases h with
    | non => exact .base .non
    | bl b => exact .base (.bl b)
    | int i => exact .base (.int i)
    | str x => exact .base (.str x)
    | lst h _ => exact .base (.lst h)
    | tup h _ => exact .base (.tup h)
  · exact .base (.dK h)
theorem isi_d {K : PySem.W.Frag} {H : Hp} {v : V} {d : PyData} {T : String} {b : Bool} {Q : VK} (h : Dx H v d) (e : kitB (tyN d) T = some b) (q : Q (.bl b) H) : rIsi K [v, .ty T] H Q :=
  ⟨v, .ty T, _, _, b, rfl, .ty T, h.ty, kit_ty e, q⟩
theorem isi2_d {K : PySem.W.Frag} {H : Hp} {v : V} {d : PyData} {tp : Addr} {S T : String} {a b : Bool} {Q : VK} (h : Dx H v d) (ht : H tp = some (.tup [.ty S, .ty T])) (e : kitB (tyN d) S = some a) (f : kitB (tyN d) T = some b) (q : Q (.bl (a || b)) H) : rIsiT K [v, .ref tp] H Q := by
  refine ⟨v, tp, [.ty S, .ty T], _, [.type S, .type T], a || b, rfl, ht, .cons (.ty S) (.cons (.ty T) .nil), h.ty, ?_, q⟩
  exact kitAny_cons (kit_ty e) (fun z => kitAny_cons (kit_ty f) (fun z2 => by rw [z, z2]; rfl) (fun z2 => by rw [z, z2]; rfl)) (fun z => by rw [z, Bool.true_or])
/-! ### what the program asks of data -/
def isInt : PyData → Bool
  | .int _ => true
  | _ => false
def isBelow (n : Int) : PyData → Bool
  | .int i => decide (0 ≤ i ∧ i < n)
  | _ => false
def isFrom (n : Int) : PyData → Bool
  | .int i => decide (n ≤ i)
  | _ => false
def rowOf : PyData → Option (List PyData)
  | .list xs => some xs
  | .tuple xs => some xs
  | _ => none
def isBits (n : Int) (d : PyData) : Bool := match rowOf d with
  | some xs => decide ((xs.length : Int) = n) && xs.all (isBelow 2)
  | none => false
def isBitRows (n : Int) (d : PyData) : Bool := match rowOf d with
  | some xs => xs.all (isBits n)
  | none => false
def areSignals (n : Int) (d : PyData) : Bool := match rowOf d with
  | some xs => xs.all (isBelow n)
  | none => false
end Sb
namespace Sb
open PySem PySem.Spec PyProof.Rows L2
structure Fn (K : PySem.W.Frag) (mg : Str → Option Value) (P : Program) (w : World) (base : Heap) (CX : CXT) (x : Str) (lv : Nat) (f : Addr) (fd : FuncData) (ps : List Str) (sp : Sp) : Prop where
  g : mg x = some (.ref f)
  k : PySem.W.keepIn K (.ref f) = true
  b : Binds K fd ps []
  G : FnOk P w K mg base CX lv f fd ps sp
theorem at_sig {G : L2.St → Hp → Prop} {σ σ' : L2.St} {H : Hp} (e : σ = σ') (h : G σ' H) : G σ H := e ▸ h
theorem same_upd {H : Hp} {p : Addr} {o : HO} (h : H p = none) : Same H (upd H p o) := fun b x e => by
  rw [upd_ne (ne_of_none e h)]
  exact e
theorem same_mut {H H' : Hp} {p : Addr} {o : HO} (s : Same H H') (h : H p = none) : Same H (upd H' p o) := fun b u e => by
  rw [upd_ne (ne_of_none e h)]
  exact s b u e
theorem with_new {H : Hp} {p : Addr} {o : HO} {G : Hp → Prop} (hp : H p = none) (k : ∀ H', Same H H' → H' p = some o → G H') : G (upd H p o) := k _ (same_upd hp) upd_same
end Sb
namespace Sb
open PySem PySem.Spec PyProof.Rows L2
/-! ### data without lists stands whatever is written -/
def Tp (H H' : Hp) : Prop := ∀ a xs, H a = some (.tup xs) → H' a = some (.tup xs)
theorem Tp.of {H H' : Hp} (s : Same H H') : Tp H H' := fun a xs h => s a _ h
theorem Tp.trans {H H1 H2 : Hp} (a : Tp H H1) (b : Tp H1 H2) : Tp H H2 := fun c xs h => b c xs (a c xs h)
theorem Tp.lst {H : Hp} {D : Addr} {xs ys : List V} (h : H D = some (.lst xs)) : Tp H (upd H D (.lst ys)) := fun a zs e => by
  rw [upd_ne (ne_of e h (by intro z; cases z))]
  exact e
mutual
def still : PyData → Bool
  | .list _ => false
  | .dict _ => false
  | .tuple xs => stills xs
  | _ => true
def stills : List PyData → Bool
  | [] => true
  | x :: xs => still x && stills xs
end
mutual
theorem Da.tp {H H' : Hp} (k : Tp H H') : ∀ (d : PyData) (v : V), still d = true → Da H v d → Da H' v d
  | .none, _, _, h => by cases h; exact .non
  | .bool b, _, _, h => by cases h; exact .bl b
  | .int i, _, _, h => by cases h; exact .int i
  | .str x, _, _, h => by cases h; exact .str x
  | .list ds, _, e, _ => by cases e
  | .tuple ds, _, e, h => by
    cases h with
    | tup ha hs => exact .tup (k _ _ ha) (Das.tp k ds _ e hs)
  | .dict _, _, _, h => by cases h
theorem Das.tp {H H' : Hp} (k : Tp H H') : ∀ (ds : List PyData) (vs : List V), stills ds = true → Das H vs ds → Das H' vs ds
  | [], _, _, h => by cases h; exact .nil
  | d :: ds, _, e, h => by
    have e : (still d && stills ds) = true := e
    obtain ⟨e1, e2⟩ := Bool.and_eq_true_iff.mp e
    cases h with
    | cons h1 h2 => exact .cons (Da.tp k d _ e1 h1) (Das.tp k ds _ e2 h2)
end
/-! ### a comprehension over a row, one name, no test: what each turn gives -/
section
variable {K : PySem.W.Frag} {a : Addr} {xs : List V} {tl te : TE} {j : Nat} {vs : List Nat} {σ : L2.St} {H1 : Hp} {Q : VK} {R : Nat → V → Hp → Prop}
/-- so far -/
def Cw (H1 : Hp) (R : Nat → V → Hp → Prop) (D : Addr) (k : Nat) (H : Hp) : Prop := Same H1 H ∧ ∃ ys, H D = some (.lst ys) ∧ ys.length = k ∧ ∀ i y, ys[i]? = some y → R i y H
/-- behind it -/
def Made (H1 : Hp) (R : Nat → V → Hp → Prop) (n : Nat) (Q : VK) : Prop := ∀ D H2 ys, H1 D = none → Same H1 H2 → H2 D = some (.lst ys) → ys.length = n → (∀ i y, ys[i]? = some y → R i y H2) → Q (.ref D) H2
theorem comp_turn {D : Addr} {k : Nat} {x : V} {H2 : Hp} (mono : ∀ k v H H', R k v H → Tp H H' → R k v H') (hz : k < 100000) (hD : H1 D = none)
    (hte : ∀ H2, Same H1 H2 → ∀ Q : VK, (∀ y H3, Same H2 H3 → R k y H3 → Q y H3) → te ((wipe σ vs).set j (some x)) H2 Q)
    (hw : wipe ((wipe σ vs).set j (some x)) vs = wipe σ vs) (p : Cw H1 R D k H2) :
    wipe ((wipe σ vs).set j (some x)) vs = wipe σ vs ∧ tYes ((wipe σ vs).set j (some x)) H2 fun b H3 => if b = true then te ((wipe σ vs).set j (some x)) H3 fun y H4 => ∃ acc, H4 D = some (.lst acc) ∧ acc.length < sizeLine ∧ Cw H1 R D (k + 1) (upd H4 D (.lst (acc ++ [y]))) else Cw H1 R D (k + 1) H3 := by
  obtain ⟨s2, ys, e2, el, hR⟩ := p
  refine ⟨hw, ?_⟩
  show te ((wipe σ vs).set j (some x)) H2 fun y H4 => ∃ acc, H4 D = some (.lst acc) ∧ acc.length < sizeLine ∧ Cw H1 R D (k + 1) (upd H4 D (.lst (acc ++ [y])))
  refine hte H2 s2 _ fun y H3 s3 hy => ⟨ys, s3 _ _ e2, ?_, same_mut (s2.trans s3) hD, ys ++ [y], upd_same, by rw [List.length_append, el]; rfl, fun i y' hi => ?_⟩
  · exact Nat.lt_of_lt_of_le (by omega : ys.length < 100000) (by decide)
  · have tp : Tp H3 (upd H3 D (.lst (ys ++ [y]))) := Tp.lst (s3 _ _ e2)
    by_cases c : i < ys.length
    · rw [List.getElem?_append_left c] at hi
      exact mono _ _ _ _ (mono _ _ _ _ (hR i y' hi) (Tp.of s3)) tp
    · rw [List.getElem?_append_right (by omega)] at hi
      have c2 : i - ys.length = 0 := by
        cases q : i - ys.length with
        | zero => rfl
        | succ m => rw [q] at hi; cases hi
      rw [c2] at hi
      cases hi
      have c3 : i = k := by omega
      rw [c3]
      exact mono _ _ _ _ hy tp
theorem comp_l (mono : ∀ k v H H', R k v H → Tp H H' → R k v H') (htl : ∀ Q : VK, Q (.ref a) H1 → tl σ H1 Q) (hx : SqL K H1 a xs) (hz : xs.length ≤ 100000)
    (hw : ∀ x, wipe ((wipe σ vs).set j (some x)) vs = wipe σ vs)
    (hte : ∀ k x, xs[k]? = some x → ∀ H2, Same H1 H2 → ∀ Q : VK, (∀ y H3, Same H2 H3 → R k y H3 → Q y H3) → te ((wipe σ vs).set j (some x)) H2 Q)
    (q : Made H1 R xs.length Q) : tLc (iList K tl) (gName j) tYes te vs σ H1 Q := by
  refine htl _ ⟨a, rfl, ⟨xs, hx⟩, fun D hD => lc_list (K := K) (a := a) (xs := xs) (Cw H1 R D) ⟨same_upd hD, [], upd_same, rfl, fun i y h => by cases h⟩ (fun k H2 _ hh => hh.1.seq hx) (fun k x H2 hk p => ?_) (fun H2 p => ?_)⟩
  · exact comp_turn mono (by have := (List.getElem?_eq_some_iff.mp hk).1; omega) hD (hte k x hk) (hw x) p
  · obtain ⟨s, ys, e, el, hR⟩ := p
    exact q D H2 ys hD s e el hR
theorem Same.sqt {K : PySem.W.Frag} {H H' : Hp} {a : Addr} {xs : List V} (e : Same H H') (h : SqT K H a xs) : SqT K H' a xs := by
  rcases h with (h | ⟨o, h⟩) | h
  · exact .inl (.inl (e _ _ h))
  · exact .inl (.inr ⟨o, e _ _ h⟩)
  · exact .inr h
theorem comp_t (mono : ∀ k v H H', R k v H → Tp H H' → R k v H') (htl : ∀ Q : VK, Q (.ref a) H1 → tl σ H1 Q) (hx : SqT K H1 a xs) (hz : xs.length ≤ 100000)
    (hw : ∀ x, wipe ((wipe σ vs).set j (some x)) vs = wipe σ vs)
    (hte : ∀ k x, xs[k]? = some x → ∀ H2, Same H1 H2 → ∀ Q : VK, (∀ y H3, Same H2 H3 → R k y H3 → Q y H3) → te ((wipe σ vs).set j (some x)) H2 Q)
    (q : Made H1 R xs.length Q) : tLc (iTup K tl) (gName j) tYes te vs σ H1 Q := by
  refine htl _ ⟨a, rfl, ⟨xs, hx⟩, fun D hD => lc_tup (K := K) (a := a) (xs := xs) (Cw H1 R D) ⟨same_upd hD, [], upd_same, rfl, fun i y h => by cases h⟩ (fun k H2 _ hh => Same.sqt hh.1 hx) (fun k x H2 hk p => ?_) (fun H2 p => ?_)⟩
  · exact comp_turn mono (by have := (List.getElem?_eq_some_iff.mp hk).1; omega) hD (hte k x hk) (hw x) p
  · obtain ⟨s, ys, e, el, hR⟩ := p
    exact q D H2 ys hD s e el hR
/-- turns that give what hangs on their number alone -/
theorem made_is {g : Nat → V} {n : Nat} (q : ∀ D H2, H1 D = none → Same H1 H2 → H2 D = some (.lst ((List.range n).map g)) → Q (.ref D) H2) : Made H1 (fun k v _ => v = g k) n Q := by
  intro D H2 ys hD s e el hR
  have : ys = (List.range n).map g := by
    apply List.ext_getElem?
    intro i
    by_cases c : i < n
    · rw [List.getElem?_map, List.getElem?_range c, List.getElem?_eq_getElem (by omega)]
      exact congrArg some (hR i _ (List.getElem?_eq_getElem (by omega)))
    · rw [List.getElem?_eq_none (by omega), List.getElem?_eq_none (by rw [List.length_map, List.length_range]; omega)]
  rw [this] at e
  exact q D H2 hD s e
theorem range_get {α β : Type} {ds : List α} {f : α → β} {d0 : α} : (List.range ds.length).map (fun k => f (ds.getD k d0)) = ds.map f := by
  apply List.ext_getElem?
  intro i
  by_cases c : i < ds.length
  · rw [List.getElem?_map, List.getElem?_range c, List.getElem?_map, List.getElem?_eq_getElem c]
    show some (f (ds.getD i d0)) = _
    rw [List.getD_eq_getElem?_getD, List.getElem?_eq_getElem c]
    rfl
  · rw [List.getElem?_eq_none (by rw [List.length_map, List.length_range]; omega), List.getElem?_eq_none (by rw [List.length_map]; omega)]
end
end Sb
namespace Sb
open PySem PySem.Spec PyProof.Rows L2
theorem cb1 {r : List V → Hp → VK → Prop} {ta : TE} {σ : L2.St} {H : Hp} {Q : VK} (h : ta σ H fun x H1 => r [x] H1 Q) : tCB r (tCons ta tNil) σ H Q := h
end Sb

set_option linter.all false
set_option maxRecDepth 100000
set_option maxHeartbeats 4000000
namespace Sb
open PySem PySem.Spec PyProof.Rows L2
/-! ### ints, texts and tuples of such: two are equal where their data is the same -/
def fine : Nat → PyData → Bool
  | _, .int _ => true
  | _, .str x => PyData.strOk x
  | n + 1, .tuple xs => xs.all (fine n)
  | _, _ => false
theorem fine_lay : ∀ (n : Nat) (d : PyData), fine n d = true → d.canLay0 = true ∧ d.depth ≤ n
  | n, .int i, _ => ⟨by simp [PyData.canLay0], by simp [PyData.depth]⟩
  | n, .str x, h => ⟨by cases n <;> (simp only [PyData.canLay0]; exact h), by simp [PyData.depth]⟩
  | n + 1, .tuple xs, h => by
    have h : xs.all (fine n) = true := h
    have k : ∀ xs : List PyData, xs.all (fine n) = true → PyData.canLayAll0 xs = true ∧ PyData.depthAll xs ≤ n := by
      intro xs
      induction xs with
      | nil => exact fun _ => ⟨by simp [PyData.canLayAll0], by simp [PyData.depthAll]⟩
      | cons x xs ih =>
        intro h
        rw [List.all_cons, Bool.and_eq_true_iff] at h
        have a := fine_lay n x h.1
        have b := ih h.2
        refine ⟨by simp [PyData.canLayAll0, a.1, b.1], ?_⟩
        simp only [PyData.depthAll]
        omega
    have z := k xs h
    exact ⟨by simp only [PyData.canLay0]; exact z.1, by simp only [PyData.depth]; omega⟩
  | 0, .tuple xs, h => by cases h
  | 0, .none, h => by cases h
  | n + 1, .none, h => by cases h
  | 0, .bool _, h => by cases h
  | n + 1, .bool _, h => by cases h
  | 0, .list _, h => by cases h
  | n + 1, .list _, h => by cases h
  | 0, .dict _, h => by cases h
  | n + 1, .dict _, h => by cases h
theorem fine_shaped {n : Nat} {d : PyData} (hn : n ≤ 64) (h : fine n d = true) : SeqAt.shaped d = true := by
  have z := fine_lay n d h
  unfold SeqAt.shaped
  rw [z.1, decide_eq_true (Nat.le_trans z.2 hn)]
  rfl
theorem eqv_is (n : Nat) : ∀ (d e : PyData), fine n d = true → fine n e = true → (PyData.eqv d e = true ↔ d = e) := by
  induction n with
  | zero =>
    intro d e hd he
    cases d <;> first | cases hd | skip
    all_goals cases e <;> first | cases he | skip
    all_goals simp [PyData.eqv]
  | succ n ih =>
    have k : ∀ xs ys : List PyData, xs.all (fine n) = true → ys.all (fine n) = true → (PyData.eqvAll xs ys = true ↔ xs = ys) := by
      intro xs
      induction xs with
      | nil =>
        intro ys _ _
        cases ys <;> simp [PyData.eqvAll]
      | cons x xs ih2 =>
        intro ys h1 h2
        cases ys with
        | nil => simp [PyData.eqvAll]
        | cons y ys =>
          rw [List.all_cons, Bool.and_eq_true_iff] at h1 h2
          simp only [PyData.eqvAll, Bool.and_eq_true_iff, ih x y h1.1 h2.1, ih2 ys h1.2 h2.2, List.cons.injEq]
    intro d e hd he
    cases d <;> first | cases hd | skip
    all_goals cases e <;> first | cases he | skip
    all_goals simp only [PyData.eqv, PyData.int.injEq, PyData.str.injEq, PyData.tuple.injEq, beq_iff_eq, reduceCtorEq, Bool.false_eq_true]
    exact k _ _ hd he
theorem eqv_dec {n : Nat} {d e : PyData} (hd : fine n d = true) (he : fine n e = true) [Decidable (d = e)] : PyData.eqv d e = decide (d = e) := by
  have z := eqv_is n d e hd he
  by_cases c : d = e
  · rw [decide_eq_true c]
    exact z.mpr c
  · rw [decide_eq_false c]
    exact Bool.eq_false_iff.mpr fun q => c (z.mp q)
mutual
theorem Da.dp {K : PySem.W.Frag} {H : Hp} : ∀ (d : PyData) (v : V), Da H v d → Dp K H v d
  | .none, _, h => by cases h; exact .non
  | .bool b, _, h => by cases h; exact .bl b
  | .int i, _, h => by cases h; exact .int i
  | .str x, _, h => by cases h; exact .str x
  | .list ds, _, h => by
    cases h with
    | lst ha hs => exact .lst (SqL.of ha) (Das.dp ds _ hs)
  | .tuple ds, _, h => by
    cases h with
    | tup ha hs => exact .tup (SqT.of ha) (Das.dp ds _ hs)
  | .dict _, _, h => by cases h
theorem Das.dp {K : PySem.W.Frag} {H : Hp} : ∀ (ds : List PyData) (vs : List V), Das H vs ds → DpAll K H vs ds
  | [], _, h => by cases h; exact .nil
  | d :: ds, _, h => by
    cases h with
    | cons h1 h2 => exact .cons (Da.dp d _ h1) (Das.dp ds _ h2)
end
theorem eqD_of {K : PySem.W.Frag} {H : Hp} {x y : V} {d e : PyData} {Q : VK} {n : Nat} {b : Bool} (hx : Da H x d) (hy : Da H y e) (hn : n ≤ 64) (fd : fine n d = true) (fe : fine n e = true) (hb : b = true ↔ d = e) (q : Q (.bl b) H) : rEqD K x y H Q := by
  refine ⟨d, e, hx.dp, hy.dp, fine_shaped hn fd, fine_shaped hn fe, ?_⟩
  have z : PyData.eqv d e = b := by
    cases b with
    | true => exact (eqv_is n d e fd fe).mpr (hb.mp rfl)
    | false => exact Bool.eq_false_iff.mpr fun c => Bool.false_ne_true (hb.mpr ((eqv_is n d e fd fe).mp c))
  rw [z]
  exact q
theorem neD_of {K : PySem.W.Frag} {H : Hp} {x y : V} {d e : PyData} {Q : VK} {n : Nat} {b : Bool} (hx : Da H x d) (hy : Da H y e) (hn : n ≤ 64) (fd : fine n d = true) (fe : fine n e = true) (hb : b = true ↔ d = e) (q : Q (.bl (!b)) H) : rNeD K x y H Q := by
  refine ⟨d, e, hx.dp, hy.dp, fine_shaped hn fd, fine_shaped hn fe, ?_⟩
  have z : PyData.eqv d e = b := by
    cases b with
    | true => exact (eqv_is n d e fd fe).mpr (hb.mp rfl)
    | false => exact Bool.eq_false_iff.mpr fun c => Bool.false_ne_true (hb.mpr ((eqv_is n d e fd fe).mp c))
  rw [z]
  exact q
/-! ### x == y by the __eq__ of the class of x, whatever y is and whatever is answered -/
def rOwnE (K : PySem.W.Frag) (C : Addr) (sp : Sp) (E : XK) : R2 := fun x y H Q => ∃ a dx fs t, x = .ref a ∧ H a = some (.ins C dx fs) ∧ TyX K H y t ∧ PySem.W.notFirst K C t = true ∧ sp [x, y] H Q E
theorem op_ownE {X : Cx} {CX : CXT} {C f : Addr} {fd : FuncData} {ps : List Str} {sp : Sp} {E : XK} {n : Nat} (hs : PySem.W.findIn X.K (.ref C) "__eq__" = some (some (.ref f))) (hf : PySem.W.isFn X.K (.ref f) = true) (F : FnOk X.prog X.w X.K X.mg X.base CX n f fd ps sp)
    (hb : Binds X.K fd ps []) (hr : Room n X.A) (hx : Passes CX X E) : OpR X (compareOp .Eq) (rOwnE X.K C sp E) := by
  intro pins s σ H x y v u Q I rx ry h
  obtain ⟨a, dx, fs, t, rfl, ha, ty, hn, q⟩ := h
  cases (show v = Value.ref a from rx)
  obtain ⟨mA, J, _⟩ := ins_get I.hok ha
  obtain ⟨od, J, _⟩ := J.look
  obtain ⟨m, hF⟩ := I.fr
  obtain ⟨P, kx, hP, _⟩ := kit_of I ry ty
  show wpAny (model X.prog X.w) X.A (richCompare .Eq (.ref a) u) (EP X pins σ Q) X.xe s
  refine PySem.W.cmp_K (op := .Eq) (tb := t) hr.units0 hF I.ok.mod.kin J (kx.ty _ _ I.kIn hP) hn hs hf ?_
  refine wpAny_mono (run_fn (us := [.ref a, u]) (vs := [.ref a, y]) (ds := []) (dvs := []) F hr hb .nil hx I (.cons rfl (.cons ry .nil)) q) (fun w s' z => ?_) fun _ _ x => x
  obtain ⟨z', H', I', rz, qz⟩ := z
  exact SlX.cmpback rz ⟨z', H', I', rz, qz⟩
end Sb

set_option linter.all false
set_option maxRecDepth 100000
set_option maxHeartbeats 4000000
namespace PySem
theorem meets_enumerate_newT (l : Addr) (items : Array Value) (n : Nat) (dct : Option Addr) (sl : Array (Option Value)) :
    Meets (Builtin.«enumerate.__new__» ⟨[.type "enumerate", .ref l], []⟩) (fun _ R s => s.heap.get? l = some { cls := .type "tuple", dict := dct, data := .seq items n, slots := sl } ∧
      R (.ok (.ret (.ref (s.heap.push { cls := .type "tuple_iterator", data := .fields #[.ref l, .int 0 0] }).objs.size)))
        { s with heap := (s.heap.push { cls := .type "tuple_iterator", data := .fields #[.ref l, .int 0 0] }).push { cls := .type "enumerate", data := .fields #[.none, .bool false, .ref s.heap.objs.size, rawInt 0, .none, .none] } }) :=
  .of_wp fun prog w A R s h => by
    obtain ⟨hp, g, d, tk, os⟩ := s
    obtain ⟨hl, h⟩ := h
    have hsub := sub_enumerate
    have hL : Heap.IsTuple (Shared.heap ⟨hp, g, d, tk, os⟩) l items := ⟨_, hl, rfl, n, rfl⟩
    wp_walk using AutoSeq1.wpAny_loadPart' hl
    refine wpAny_stack_any fun st => wpAny_pure ?_
    split
    · rename_i c _ _ _ _ _
      cases (c == Value.type "enumerate")
      · wp_walk using AutoSeq1.wpAny_loadPart' hl, wpAny_pyIter_tuple hL
        exact ⟨_, rfl, h⟩
      · wp_walk using AutoSeq1.wpAny_loadPart' hl, wpAny_pyIter_tuple hL
        exact ⟨_, rfl, h⟩
    · wp_walk using AutoSeq1.wpAny_loadPart' hl, wpAny_pyIter_tuple hL
      exact ⟨_, rfl, h⟩
/-- the fields of a new enumerate object -/
abbrev enumF (it : Addr) : Array Value := #[.none, .bool false, .ref it, rawInt 0, .none, .none]
section
variable {prog : Program} {w : World} {A : Around} {E : Value → Shared → Prop} {s : Shared}
theorem call_enumerate_tuple {l : Addr} {items : Array Value} {Q : Value → Shared → Prop} (hL : s.heap.IsTuple l items)
    (h : ∀ h', IsEnum h' (s.heap.objs.size + 1) s.heap.objs.size 0 .none → h'.IsTupleIter s.heap.objs.size l 0 → h'.objs.size = s.heap.objs.size + 2 →
      (∀ b o, s.heap.get? b = some o → h'.get? b = some o) → Q (.ref (s.heap.objs.size + 1)) { s with heap := h' }) :
    wpAny (model prog w) A (call (.type "enumerate") [.ref l]) Q E s := by
  obtain ⟨⟨c, dct, dt, sl⟩, hl, hc, n, hd⟩ := hL
  have hc : c = .type "tuple" := hc
  have hd : dt = .seq items n := hd
  subst hc hd
  refine callType_new F.called_enumerate (by decide) (F.typeCall_enumerate_1 _) (F.newCall_enumerate_1 _) (fun o9 => F.args_object_init_2 o9 _) F.entry_enumerate_new
    (meets_enumerate_newT l items n dct sl) ⟨hl, ?_⟩
  have hz : (s.heap.push { cls := .type "tuple_iterator", data := .fields #[.ref l, .int 0 0] }).objs.size = s.heap.objs.size + 1 := Heap.size_push ..
  show _ ∧ _
  rw [hz]
  have he : IsEnum ((s.heap.push { cls := .type "tuple_iterator", data := .fields #[.ref l, .int 0 0] }).push
      { cls := .type "enumerate", data := .fields (enumF s.heap.objs.size) }) (s.heap.objs.size + 1) s.heap.objs.size 0 .none := by
    have z := Heap.get?_push_size (s.heap.push { cls := .type "tuple_iterator", data := .fields #[.ref l, .int 0 0] })
      (o := { cls := .type "enumerate", data := .fields (enumF s.heap.objs.size) }) rfl
    rw [hz] at z
    exact z
  exact ⟨⟨_, he, rfl⟩, h _ he ⟨_, Heap.get?_push_of_some _ (Heap.get?_push_size _ rfl), rfl, rfl⟩ (by rw [Heap.size_push, hz]) fun b o x => Heap.get?_push_of_some _ (Heap.get?_push_of_some _ x)⟩
end
end PySem
namespace L2
open PySem PySem.Spec PyProof.Rows
/-! ### a tuple walked with held places -/
def IteT (K : PySem.W.Frag) (a : Addr) : It :=
  ⟨fun i H => ∃ (xs : List V) (x : V), SqT K H a xs ∧ xs[i]? = some x, fun i H v H' => ∃ T x, v = .ref T ∧ H T = none ∧ H' = upd H T (.tup [.int (i : Nat), x]) ∧ ∀ xs, SqT K H a xs → xs[i]? = some x, fun i H => ∃ xs : List V, SqT K H a xs ∧ xs.length ≤ i⟩
theorem turn_enumT {P : Program} {w : World} {K : PySem.W.Frag} {elts : List Expr} {kk : Nat} {tpos : Pos} (a en ti : Addr) :
    Turn P w K (.Tuple elts kk tpos) (IteT K a) [en, ti] en (fun i h => (∃ was, IsEnum h en ti ((i : Nat) : Int) was) ∧ h.IsTupleIter ti a i ∧ en ≠ ti) where
  mem := by simp
  obj := fun i h st b mb => by
    obtain ⟨⟨was, he⟩, ⟨o, ho, hc, hd⟩, _⟩ := st
    have or2 : b = en ∨ b = ti := by simpa using mb
    rcases or2 with zq | zq
    · rw [zq]; exact ⟨_, he, fun v q => nomatch q⟩
    · rw [zq]; exact ⟨o, ho, fun v q => by rw [hd] at q; cases q⟩
  keep := fun i h h' st k => let ⟨⟨was, he⟩, hi, apart⟩ := st; ⟨⟨was, k en (by simp) _ he⟩, hi.at fun o q => k ti (by simp) o q, apart⟩
  item := by
    intro X hP hw hK hc i kept0 s σ H E I hf st hg
    subst hP hw hK
    obtain ⟨⟨was, he⟩, atI, apart⟩ := st
    obtain ⟨xs, x, hq, hx⟩ := hg
    obtain ⟨held, vs2, p, zl⟩ := I.tuple hq
    obtain ⟨u, hu, ru⟩ := vs2.get hx
    have eOld : en < s.heap.objs.size := Heap.lt_size he
    have itOld : ti < s.heap.objs.size := by obtain ⟨_, q, _⟩ := atI; exact Heap.lt_size q
    have aIt : a ≠ ti := fun zq => by
      obtain ⟨o1, q1, c1, _⟩ := p
      obtain ⟨o2, q2, c2, _⟩ := atI
      rw [zq, q2] at q1
      cases q1
      rw [c2] at c1
      exact absurd (Value.type.inj c1) (by decide)
    have aEn : a ≠ en := fun zq => by
      obtain ⟨o1, q1, c1, _⟩ := p
      have he' : s.heap.get? en = some _ := he
      rw [zq, he'] at q1
      cases q1
      exact absurd (Value.type.inj c1) (by decide)
    have drw := Draws.tuple (prog := X.prog) (w := X.w) (A := X.A.in1) (show X.A.in1.handled = none from I.ok.hd hc) ti a aIt held.toArray
    have inside : i < held.toArray.size := by
      have := (List.getElem?_eq_some_iff.mp hu).1
      simpa using this
    refine wpAny_pyNext_enum_itemD drw he ⟨atI, p⟩ inside apart (by simp; exact ⟨apart, fun zq => aEn zq.symm⟩) fun u' h' tk hP ho hst newT hsz hk => ?_
    have eu : u' = u := by
      have zq : held.toArray[i]? = some u := by simpa using hu
      rw [zq] at hP
      exact (Option.some.inj hP).symm
    subst eu
    have hit' : h'.IsTupleIter ti a (i + 1) := hst.1
    refine ⟨_, rfl, wpAny_letOwnedTupleGo_enum (s := { s with heap := h', toks := tk + 1 }) ho fun h'' he' sb => ?_⟩
    have got2 : h''.get? s.heap.objs.size = some { cls := .type "tuple", data := .seq #[.int i tk, u'] } := (sb.2 _ (Nat.ne_of_gt eOld)).trans newT
    have new : ObjOk X.prog X.w (upd H s.heap.objs.size (.tup [.int (i : Nat), x])) h'' s.heap.objs.size (.tup [.int (i : Nat), x]) :=
      ⟨by show 2 ≤ sizeLine; decide, [.int i tk, u'], .cons ⟨_, rfl⟩ (.cons ru .nil), ⟨_, got2, rfl, _, rfl⟩⟩
    have I1 : Inv X kept0 σ (upd H s.heap.objs.size (.tup [.int (i : Nat), x])) { s with heap := h'', toks := tk + 1 } :=
      I.turnedNew (ch := [en, ti]) (fun b ob mb q => (sb.2 b (fun zq => mb (by simp [zq]))).trans (hk b ob (fun zq => mb (by simp [zq])) (fun zq => mb (by simp [zq])) q)) hf (Nat.le_refl _) new
    refine ⟨.ref s.heap.objs.size, _, I1, rfl, ⟨_, x, rfl, I.hok.fresh (Nat.le_refl _), rfl, fun ys hy => by rw [I.tuple_inj hy hq]; exact hx⟩, ⟨⟨u', ?_⟩, hit'.at fun o q => (sb.2 ti (Ne.symm apart)).trans q, apart⟩, fun b mb => ?_⟩
    · have e1 := Int.natCast_succ i
      rw [e1]; exact he'
    · have bs9 : b < s.heap.objs.size := by
        have or2 : b = en ∨ b = ti := by simpa using mb
        rcases or2 with zq | zq
        · rw [zq]; exact eOld
        · rw [zq]; exact itOld
      rw [upd_ne (Nat.ne_of_lt bs9)]
      exact (hf b mb).1
  done := by
    intro X hP hw hK hc i kept0 s σ H E I hf st hg
    subst hP hw hK
    obtain ⟨⟨was, he⟩, atI, apart⟩ := st
    obtain ⟨xs, hq, hx⟩ := hg
    obtain ⟨held, vs2, p, zl⟩ := I.tuple hq
    obtain ⟨f0, f1, f2, f3, f4, f5⟩ := hf ti (by simp)
    have len0 := vs2.length
    have aIt : a ≠ ti := fun zq => by
      obtain ⟨o1, q1, c1, _⟩ := p
      obtain ⟨o2, q2, c2, _⟩ := atI
      rw [zq, q2] at q1
      cases q1
      rw [c2] at c1
      exact absurd (Value.type.inj c1) (by decide)
    -- at the end or past ti: nothing is left
    have hn : held.toArray[i]? = none := by simp; omega
    have newT : s.TypeIs (.ref en) "enumerate" := ⟨_, he, rfl⟩
    unfold pyNext
    refine wpAny_bind (wpAny_attempt (wpAny_callSpecial?_slot (name := Str.ofString "__next__") newT F.slot_enumerate_next
      (wpAny_call_entry F.slot_enumerate_next newT F.entry_enumerate_next ?_ (F.args_enumerate_next_1 _))))
    show wpAny _ _ (field (.ref en) 2 >>= _) _ _ _
    refine wpAny_bind (wpAny_field he rfl (x := .ref ti) rfl ?_)
    refine wpAny_bind (wpAny_nextOf_tuple_end (show X.A.in1.handled = none from I.ok.hd hc) atI p hn fun h' x he' hx' => ?_)
    obtain ⟨o, ho, hc⟩ := hx'
    refine wpAny_bind (wpAny_isInstance (T := "StopIteration") (b := true) ⟨o, ho, hc⟩ isSubtype_stop ?_)
    exact wpAny_pure ⟨rfl, I.turned (t' := s.toks) (fun b o mb q => he' b o mb q) f0 f1 f3 f4 f5⟩
  self := fun A i s Q E st h => let ⟨⟨_, he⟩, _⟩ := st; wpAny_pyIter_enum he h
def iEnumT (K : PySem.W.Frag) (ta : TA) : TI := fun σ H R => ta σ H fun vs H1 => ∃ a xs, vs = [.ref a] ∧ SqT K H1 a xs ∧ R (IteT K a) H1
theorem pi_enumT {X : Cx} {en : Expr} {ta : TA} {p pos tpos : Pos} {elts : List Expr} {kk : Nat} (hg : Gl X "enumerate") (hm : X.mg "enumerate" = none) (ha : PA X [en] ta) (hs : starEach [en] X.env = [(false, eval en X.env)] := by rfl) :
    PI X (.Tuple elts kk tpos) (.Call (.Name "enumerate" p) [en] [] pos) (iEnumT X.K ta) := by
  refine ⟨fun kept0 s σ H R I h => ?_⟩
  refine Call_ (ld_blt I hg hm boot_enumerate (PyProof.Rows.callWith_type1 (thn (ha.run pos kept0 s σ H _ I h) fun us sh1 ⟨vs, H1, I1, r1, q1⟩ => ?_) hs rfl))
  obtain ⟨a, xs, one1, hq, q⟩ := q1
  subst one1
  cases r1 with
  | cons r rest =>
    cases rest
    cases r
    obtain ⟨held, vs2, p', zl⟩ := I1.tuple hq
    refine call_enumerate_tuple p' fun h' he atI hsz hk => wpAny_pyIter_enum he ?_
    have I2 : Inv X kept0 σ H1 { sh1 with heap := h' } := I1.kept (t' := sh1.toks) hk
    refine ⟨sh1.heap.objs.size + 1, [sh1.heap.objs.size + 1, sh1.heap.objs.size], _, _, H1, rfl, I2, turn_enumT a (sh1.heap.objs.size + 1) sh1.heap.objs.size, ⟨⟨.none, he⟩, atI, Nat.succ_ne_self _⟩, fun b mb => ?_, q⟩
    have or2 : b = sh1.heap.objs.size + 1 ∨ b = sh1.heap.objs.size := by simpa using mb
    have bNew : sh1.heap.objs.size ≤ b := by
      rcases or2 with zq | zq
      · rw [zq]; exact Nat.le_add_right _ _
      · rw [zq]; exact Nat.le_refl _
    exact I1.fpOk bNew (I1.hok.fresh bNew)
/-- for .. in enumerate(a tuple): turns by their number -/
theorem for_enumT {K : PySem.W.Frag} {a : Addr} {xs : List V} {g : TG} {tb : TS} {D : Ends} {σ : St} {H : Hp} (Pv : Nat → St → Hp → Prop) (h0 : Pv 0 σ H) (len0 : ∀ i σ H, i ≤ xs.length → Pv i σ H → SqT K H a xs)
    (hs : ∀ i x σ H T, xs[i]? = some x → Pv i σ H → H T = none → g (.ref T) σ (upd H T (.tup [.int (i : Nat), x])) fun σ2 H2 => tb { D with nx := Pv (i + 1), ct := Pv (i + 1), bk := D.nx } σ2 H2) (hd : ∀ σ H, Pv xs.length σ H → D.nx σ H) :
    ∃ W : Nat → Nat → St → Hp → Prop, (∃ n0, W 0 n0 σ H) ∧ ∀ (i m : Nat) (σ : St) (H : Hp), W i m σ H →
      ((IteT K a).stop i H ∧ D.nx σ H) ∨ ((IteT K a).go i H ∧ ∃ N : St → Hp → Prop, (∀ σ' H', N σ' H' → ∃ m', m' < m ∧ W (i + 1) m' σ' H') ∧ ∀ x H', (IteT K a).yld i H x H' → g x σ H' fun σ2 H2 => tb { D with nx := N, ct := N, bk := D.nx } σ2 H2) := by
  refine ⟨fun j left σ1 H1 => left = xs.length - j ∧ j ≤ xs.length ∧ Pv j σ1 H1, ⟨_, (Nat.sub_zero _).symm, Nat.zero_le _, h0⟩, fun i left σ1 H1 w => ?_⟩
  obtain ⟨rfl, hi, p⟩ := w
  have q := len0 i σ1 H1 hi p
  by_cases inside : i < xs.length
  · refine Or.inr ⟨⟨xs, _, q, List.getElem?_eq_getElem inside⟩, Pv (i + 1), fun σ' H' p' => ⟨_, (by omega : xs.length - (i + 1) < xs.length - i), rfl, inside, p'⟩, fun x H' y => ?_⟩
    obtain ⟨T, x, rfl, newT, rfl, y⟩ := y
    exact hs i x σ1 _ T (y xs q) p newT
  · obtain rfl : i = xs.length := Nat.le_antisymm hi (Nat.not_lt.mp inside)
    exact Or.inl ⟨⟨xs, q, Nat.le_refl _⟩, hd σ1 H1 p⟩
theorem for_enumL {K : PySem.W.Frag} {a : Addr} {xs : List V} {g : TG} {tb : TS} {D : Ends} {σ : St} {H : Hp} (Pv : Nat → St → Hp → Prop) (h0 : Pv 0 σ H) (len0 : ∀ i σ H, i ≤ xs.length → Pv i σ H → SqL K H a xs)
    (hs : ∀ i x σ H T, xs[i]? = some x → Pv i σ H → H T = none → g (.ref T) σ (upd H T (.tup [.int (i : Nat), x])) fun σ2 H2 => tb { D with nx := Pv (i + 1), ct := Pv (i + 1), bk := D.nx } σ2 H2) (hd : ∀ σ H, Pv xs.length σ H → D.nx σ H) :
    ∃ W : Nat → Nat → St → Hp → Prop, (∃ n0, W 0 n0 σ H) ∧ ∀ (i m : Nat) (σ : St) (H : Hp), W i m σ H →
      ((Ite K a).stop i H ∧ D.nx σ H) ∨ ((Ite K a).go i H ∧ ∃ N : St → Hp → Prop, (∀ σ' H', N σ' H' → ∃ m', m' < m ∧ W (i + 1) m' σ' H') ∧ ∀ x H', (Ite K a).yld i H x H' → g x σ H' fun σ2 H2 => tb { D with nx := N, ct := N, bk := D.nx } σ2 H2) := by
  refine ⟨fun j left σ1 H1 => left = xs.length - j ∧ j ≤ xs.length ∧ Pv j σ1 H1, ⟨_, (Nat.sub_zero _).symm, Nat.zero_le _, h0⟩, fun i left σ1 H1 w => ?_⟩
  obtain ⟨rfl, hi, p⟩ := w
  have q := len0 i σ1 H1 hi p
  by_cases inside : i < xs.length
  · refine Or.inr ⟨⟨xs, _, q, List.getElem?_eq_getElem inside⟩, Pv (i + 1), fun σ' H' p' => ⟨_, (by omega : xs.length - (i + 1) < xs.length - i), rfl, inside, p'⟩, fun x H' y => ?_⟩
    obtain ⟨T, x, rfl, newT, rfl, y⟩ := y
    exact hs i x σ1 _ T (y xs q) p newT
  · obtain rfl : i = xs.length := Nat.le_antisymm hi (Nat.not_lt.mp inside)
    exact Or.inl ⟨⟨xs, q, Nat.le_refl _⟩, hd σ1 H1 p⟩
end L2

set_option linter.all false
set_option maxRecDepth 100000
set_option maxHeartbeats 4000000
namespace Fw
open PySem PySem.Spec PyProof.Rows L2
abbrev D := PyData
/-- what a def's text stands on: the written part, the classes by their names -/
structure Gm where
  K : PySem.W.Frag
  X : Str → Option Addr
def keyD : Key → D
  | .inl i => .int i
  | .inr s => .str s
def keyT (ks : List Key) : D := .tuple (ks.map keyD)
def insD (c : Str) (fs : List Str) (ds : List D) : D := .dict ((.none, .str c) :: (fs.map PyData.str).zip ds)
/-- a def of the text, as a value -/
def fnD (c : Str) : D := .dict [(.bool true, .str c)]
/-- a tuple of the written part -/
def kD (ds : List D) : D := .dict [(.bool false, .tuple ds)]
def KT (K : PySem.W.Frag) (a : Addr) (xs : List V) : Prop := ∃ (o : Obj) (its : Array Value) (n : Nat), K.lookup a = some o ∧ o.cls = .type "tuple" ∧ o.data = .seq its n ∧ its.size ≤ sizeLine ∧ Vals xs its.toList
/-! ### values as data -/
/-- it stands there, or (a dict with something in it) locked while a loop goes over it -/
def RdD (H : Hp) (a : Addr) (u : HO) : Prop := H a = some u ∨ ((∃ o, H a = some (.frz o u)) ∧ u ≠ .dK [] ∧ u ≠ .dT [])
theorem RdD.rd {H : Hp} {a : Addr} {u : HO} (h : RdD H a u) : Rd H a u := h.elim .inl fun h => .inr h.1
theorem RdD.is {H : Hp} {a : Addr} {u : HO} (h : RdD H a u) : ∃ o, H a = some o := h.elim (fun h => ⟨_, h⟩) fun h => ⟨_, h.1.choose_spec⟩
theorem RdD.plain {H : Hp} {a : Addr} {u : HO} (h : RdD H a u) (n : u = .dK [] ∨ u = .dT []) : H a = some u := h.elim id fun h => (n.elim h.2.1 h.2.2).elim
theorem RdD.same {H H' : Hp} {a : Addr} {u : HO} (e : Same H H') (h : RdD H a u) : RdD H' a u := by
  rcases h with h | ⟨⟨o, h⟩, n⟩
  · exact .inl (e a _ h)
  · exact .inr ⟨⟨o, e a _ h⟩, n⟩
theorem RdD.mv {H H' : Hp} {a : Addr} {u : HO} (h : RdD H a u) (e : ∀ o, H a = some o → H' a = some o) : RdD H' a u := by
  rcases h with h | ⟨⟨o, h⟩, n⟩
  · exact .inl (e _ h)
  · exact .inr ⟨⟨o, e _ h⟩, n⟩
theorem RdD.eq {H H' : Hp} {a : Addr} {u : HO} (e : H' a = H a) (h : RdD H a u) : RdD H' a u := by
  unfold RdD
  rw [e]
  exact h
mutual
inductive Rz (G : Gm) (B : Hp) : V → D → Prop
  | non : Rz G B .non .none
  | bl (b : Bool) : Rz G B (.bl b) (.bool b)
  | int (i : Int) : Rz G B (.int i) (.int i)
  | str (x : Str) : Rz G B (.str x) (.str x)
  | lst {a : Addr} {xs : List V} {ds : List D} : B a = some (.lst xs) → RzA G B xs ds → Rz G B (.ref a) (.list ds)
  | tup {a : Addr} {xs : List V} {ds : List D} : B a = some (.tup xs) → RzA G B xs ds → Rz G B (.ref a) (.tuple ds)
  | kt {a : Addr} {xs : List V} {ds : List D} : KT G.K a xs → RzA G B xs ds → Rz G B (.ref a) (kD ds)
  | dk {a : Addr} {ks : List (Key × V)} {ds : List D} : RdD B a (.dK ks) → RzA G B (ks.map (·.2)) ds → Rz G B (.ref a) (.dict ((ks.map fun k => keyD k.1).zip ds))
  | dt {a : Addr} {ks : List (List Key × V)} {ds : List D} : RdD B a (.dT ks) → RzA G B (ks.map (·.2)) ds → Rz G B (.ref a) (.dict ((ks.map fun k => keyT k.1).zip ds))
  | ins {a C dx : Addr} {c : Str} {fs : List (Str × V)} {ds : List D} : B a = some (.ins C dx fs) → B dx = some (.own a) → G.X c = some C → RzA G B (fs.map (·.2)) ds → Rz G B (.ref a) (insD c (fs.map (·.1)) ds)
  | fn {a : Addr} {c : Str} : G.X c = some a → Rz G B (.ref a) (fnD c)
inductive RzA (G : Gm) (B : Hp) : List V → List D → Prop
  | nil : RzA G B [] []
  | cons {v : V} {vs : List V} {d : D} {ds : List D} : Rz G B v d → RzA G B vs ds → RzA G B (v :: vs) (d :: ds)
end
theorem same_rd {H H' : Hp} {a : Addr} {u : HO} (e : Same H H') (h : Rd H a u) : Rd H' a u := by
  rcases h with h | ⟨o, h⟩
  · exact .inl (e a _ h)
  · exact .inr ⟨o, e a _ h⟩
theorem same_t {K : PySem.W.Frag} {H H' : Hp} {a : Addr} {xs : List V} (e : Same H H') (h : H a = some (.tup xs)) : SqT K H' a xs := .inl (.inl (e _ _ h))
theorem KT.sq {K : PySem.W.Frag} {H : Hp} {a : Addr} {xs : List V} (h : KT K a xs) : SqT K H a xs := .inr h
theorem same_tS {K : PySem.W.Frag} {H H' : Hp} {a : Addr} {xs : List V} (e : Same H H') (h : SqT K H a xs) : SqT K H' a xs := by
  rcases h with h | h
  · exact .inl (same_rd e h)
  · exact .inr h
mutual
theorem Rz.same {G : Gm} {B B' : Hp} (s : Same B B') : ∀ {v : V} {d : D}, Rz G B v d → Rz G B' v d
  | _, _, .non => .non
  | _, _, .bl b => .bl b
  | _, _, .int i => .int i
  | _, _, .str x => .str x
  | _, _, .lst h hs => .lst (s _ _ h) (RzA.same s hs)
  | _, _, .tup h hs => .tup (s _ _ h) (RzA.same s hs)
  | _, _, .kt h hs => .kt h (RzA.same s hs)
  | _, _, .dk h hs => .dk (h.same s) (RzA.same s hs)
  | _, _, .dt h hs => .dt (h.same s) (RzA.same s hs)
  | _, _, .ins h h2 h3 hs => .ins (s _ _ h) (s _ _ h2) h3 (RzA.same s hs)
  | _, _, .fn h => .fn h
theorem RzA.same {G : Gm} {B B' : Hp} (s : Same B B') : ∀ {v : List V} {d : List D}, RzA G B v d → RzA G B' v d
  | _, _, .nil => .nil
  | _, _, .cons h t => .cons (Rz.same s h) (RzA.same s t)
end
theorem same_upd {H : Hp} {p : Addr} {o : HO} (h : H p = none) : Same H (upd H p o) := fun b x e => by
  rw [upd_ne (ne_of_none e h)]
  exact e
section
variable {G : Gm} {B : Hp}
theorem RzA.length : ∀ {vs : List V} {ds : List D}, RzA G B vs ds → vs.length = ds.length
  | _, _, .nil => rfl
  | _, _, .cons _ t => congrArg (· + 1) t.length
theorem RzA.get : ∀ {vs : List V} {ds : List D} {i : Nat} {d : D}, RzA G B vs ds → ds[i]? = some d → ∃ x, vs[i]? = some x ∧ Rz G B x d
  | _, _, 0, _, .cons h _, e => by cases e; exact ⟨_, rfl, h⟩
  | _, _, i + 1, d, .cons _ t, e => RzA.get (i := i) t (by simpa using e)
  | _, _, 0, _, .nil, e => by cases e
  | _, _, i + 1, _, .nil, e => by cases e
theorem RzA.getV : ∀ {vs : List V} {ds : List D} {i : Nat} {x : V}, RzA G B vs ds → vs[i]? = some x → ∃ d, ds[i]? = some d ∧ Rz G B x d
  | _, _, 0, _, .cons h _, e => by cases e; exact ⟨_, rfl, h⟩
  | _, _, i + 1, d, .cons _ t, e => RzA.getV (i := i) t (by simpa using e)
  | _, _, 0, _, .nil, e => by cases e
  | _, _, i + 1, _, .nil, e => by cases e
theorem RzA.app : ∀ {vs us : List V} {ds es : List D}, RzA G B vs ds → RzA G B us es → RzA G B (vs ++ us) (ds ++ es)
  | _, _, _, _, .nil, h => h
  | _, _, _, _, .cons h t, u => .cons h (t.app u)
theorem RzA.take : ∀ {vs : List V} {ds : List D} (n : Nat), RzA G B vs ds → RzA G B (vs.take n) (ds.take n)
  | _, _, 0, _ => .nil
  | _, _, _ + 1, .nil => .nil
  | _, _, n + 1, .cons h t => .cons h (RzA.take n t)
theorem RzA.drop : ∀ {vs : List V} {ds : List D} (n : Nat), RzA G B vs ds → RzA G B (vs.drop n) (ds.drop n)
  | _, _, 0, h => h
  | _, _, _ + 1, .nil => .nil
  | _, _, n + 1, .cons _ t => RzA.drop n t
theorem RzA.set {x : V} {d : D} (h : Rz G B x d) : ∀ {vs : List V} {ds : List D} (n : Nat), RzA G B vs ds → RzA G B (vs.set n x) (ds.set n d)
  | _, _, _, .nil => .nil
  | _, _, 0, .cons _ t => .cons h t
  | _, _, n + 1, .cons h1 t => .cons h1 (RzA.set h n t)
theorem RzA.eraseIdx : ∀ {vs : List V} {ds : List D} (n : Nat), RzA G B vs ds → RzA G B (vs.eraseIdx n) (ds.eraseIdx n)
  | _, _, _, .nil => .nil
  | _, _, 0, .cons _ t => t
  | _, _, n + 1, .cons h1 t => .cons h1 (RzA.eraseIdx n t)
theorem RzA.reverse : ∀ {vs : List V} {ds : List D}, RzA G B vs ds → RzA G B vs.reverse ds.reverse
  | _, _, .nil => .nil
  | _, _, .cons h t => by
    rw [List.reverse_cons, List.reverse_cons]
    exact (RzA.reverse t).app (.cons h .nil)
theorem RzA.rep {x : V} {d : D} (h : Rz G B x d) : ∀ n : Nat, RzA G B (List.replicate n x) (List.replicate n d)
  | 0 => .nil
  | n + 1 => .cons h (RzA.rep h n)
theorem RzA.flat {vs : List V} {ds : List D} (h : RzA G B vs ds) : ∀ n : Nat, RzA G B (List.replicate n vs).flatten (List.replicate n ds).flatten
  | 0 => .nil
  | n + 1 => by
    rw [List.replicate_succ, List.replicate_succ, List.flatten_cons, List.flatten_cons]
    exact h.app (RzA.flat h n)
theorem RzA.ints (ns : List Int) : RzA G B (ns.map V.int) (ns.map PyData.int) := by
  induction ns with
  | nil => exact .nil
  | cons n t ih => exact .cons (.int n) ih
theorem Rz.non_inv {v : V} (h : Rz G B v .none) : v = .non := by cases h; rfl
theorem Rz.int_inv {v : V} {i : Int} (h : Rz G B v (.int i)) : v = .int i := by cases h; rfl
theorem Rz.str_inv {v : V} {i : Str} (h : Rz G B v (.str i)) : v = .str i := by cases h; rfl
theorem Rz.bl_inv {v : V} {i : Bool} (h : Rz G B v (.bool i)) : v = .bl i := by cases h; rfl
theorem Rz.lst_inv {v : V} {ds : List D} (h : Rz G B v (.list ds)) : ∃ a xs, v = .ref a ∧ B a = some (.lst xs) ∧ RzA G B xs ds := by
  cases h with
  | lst h hs => exact ⟨_, _, rfl, h, hs⟩
theorem Rz.tup_inv {v : V} {ds : List D} (h : Rz G B v (.tuple ds)) : ∃ a xs, v = .ref a ∧ B a = some (.tup xs) ∧ RzA G B xs ds := by
  cases h with
  | tup h hs => exact ⟨_, _, rfl, h, hs⟩
mutual
/-- data without dicts and instances -/
def plain : D → Bool
  | .dict _ => false
  | .list ds => plainA ds
  | .tuple ds => plainA ds
  | _ => true
def plainA : List D → Bool
  | [] => true
  | d :: ds => plain d && plainA ds
end
mutual
theorem Rz.dp : ∀ {v : V} {d : D}, plain d = true → Rz G B v d → Dp G.K B v d
  | _, _, _, .non => .non
  | _, _, _, .bl b => .bl b
  | _, _, _, .int i => .int i
  | _, _, _, .str x => .str x
  | _, _, p, .lst h hs => .lst (SqL.of h) (RzA.dp (by simpa [plain] using p) hs)
  | _, _, p, .tup h hs => .tup (SqT.of h) (RzA.dp (by simpa [plain] using p) hs)
  | _, _, p, .kt h hs => by simp [plain, kD] at p
  | _, _, p, .dk h hs => by simp [plain] at p
  | _, _, p, .dt h hs => by simp [plain] at p
  | _, _, p, .ins h h2 h3 hs => by simp [plain, insD] at p
  | _, _, p, .fn h => by simp [plain, fnD] at p
theorem RzA.dp : ∀ {v : List V} {d : List D}, plainA d = true → RzA G B v d → DpAll G.K B v d
  | _, _, _, .nil => .nil
  | _, _, p, .cons h t => by
    simp only [plainA, Bool.and_eq_true] at p
    exact .cons (Rz.dp p.1 h) (RzA.dp p.2 t)
end
/-! ### what a tuple of the written part is as a plain one -/
mutual
def nrm : D → D
  | .list ds => .list (nrmA ds)
  | .tuple ds => .tuple (nrmA ds)
  | .dict kvs => match nrmK kvs with
    | some d => d
    | none => .dict kvs
  | d => d
def nrmA : List D → List D
  | [] => []
  | d :: ds => nrm d :: nrmA ds
def nrmK : List (D × D) → Option D
  | [p] => nrmP p
  | _ => none
def nrmP : D × D → Option D
  | (.bool false, d) => some (nrm d)
  | _ => none
end
theorem nrm_dk {ks : List (Key × V)} {ds : List D} : nrm (.dict ((ks.map fun k => keyD k.1).zip ds)) = .dict ((ks.map fun k => keyD k.1).zip ds) := by
  have e : nrmK ((ks.map fun k => keyD k.1).zip ds) = none := by
    match ks, ds with
    | [], _ => rfl
    | _ :: _, [] => rfl
    | (k, _) :: [], d :: ds => cases k <;> rfl
    | (k, _) :: _ :: _, d :: [] => cases k <;> rfl
    | _ :: _ :: _, _ :: _ :: _ => rfl
  rw [nrm, e]
theorem nrm_dt {ks : List (List Key × V)} {ds : List D} : nrm (.dict ((ks.map fun k => keyT k.1).zip ds)) = .dict ((ks.map fun k => keyT k.1).zip ds) := by
  have e : nrmK ((ks.map fun k => keyT k.1).zip ds) = none := by
    match ks, ds with
    | [], _ => rfl
    | _ :: _, [] => rfl
    | (k, _) :: [], d :: ds => rfl
    | (k, _) :: _ :: _, d :: [] => rfl
    | _ :: _ :: _, _ :: _ :: _ => rfl
  rw [nrm, e]
theorem nrm_k (ds : List D) : nrm (kD ds) = .tuple (nrmA ds) := rfl
theorem nrm_ins {c : Str} {fs : List Str} {ds : List D} : nrm (insD c fs ds) = insD c fs ds := by
  have e : nrmK ((.none, .str c) :: (fs.map PyData.str).zip ds) = none := by
    cases (fs.map PyData.str).zip ds <;> rfl
  show (match nrmK ((.none, .str c) :: (fs.map PyData.str).zip ds) with
    | some d => d
    | none => .dict ((.none, .str c) :: (fs.map PyData.str).zip ds)) = _
  rw [e]
  rfl
mutual
theorem Rz.dpn : ∀ {v : V} {d : D}, plain (nrm d) = true → Rz G B v d → Dp G.K B v (nrm d)
  | _, _, _, .non => .non
  | _, _, _, .bl b => .bl b
  | _, _, _, .int i => .int i
  | _, _, _, .str x => .str x
  | _, _, p, .lst h hs => .lst (SqL.of h) (RzA.dpn (by simpa [nrm, plain] using p) hs)
  | _, _, p, .tup h hs => .tup (SqT.of h) (RzA.dpn (by simpa [nrm, plain] using p) hs)
  | _, _, p, .kt h hs => .tup h.sq (RzA.dpn (by rw [nrm_k] at p; simpa [plain] using p) hs)
  | _, _, p, .dk h hs => by rw [nrm_dk] at p; simp [plain] at p
  | _, _, p, .dt h hs => by rw [nrm_dt] at p; simp [plain] at p
  | _, _, p, .ins h h2 h3 hs => by rw [nrm_ins] at p; simp [plain, insD] at p
  | _, _, p, .fn h => by simp [nrm, nrmK, nrmP, plain, fnD] at p
theorem RzA.dpn : ∀ {v : List V} {d : List D}, plainA (nrmA d) = true → RzA G B v d → DpAll G.K B v (nrmA d)
  | _, _, _, .nil => .nil
  | _, _, p, .cons h t => by
    simp only [nrmA, plainA, Bool.and_eq_true] at p
    exact .cons (Rz.dpn p.1 h) (RzA.dpn p.2 t)
end
end
end Fw

set_option linter.all false
set_option maxRecDepth 100000
set_option maxHeartbeats 4000000
namespace Fw
open PySem PySem.Spec PyProof.Rows L2
/-! ### the state of a def: its slots, the pen -/
inductive Slot where
  | u | d (x : D) | o (x : D) | p | me (a : Addr) | f
structure PenS where
  ns : List Int
  a : Int
  d : Int
  n : Int
  f : Int
structure Ev where
  sl : List Slot
  pen : PenS
/-- the pen and its cells, the tables of code objects that the defs at work write, code objects that stand -/
structure PnI where
  p : Addr
  c : Addr
  T : List (Addr × Str)
  Z : List (Addr × HO)
  F : Addr
  K : Hp
abbrev Pn := Option PnI
def NP (pn : Pn) (a : Addr) : Prop := ∀ q, pn = some q → a ≠ q.1 ∧ ∀ t ∈ q.T, a ≠ t.1
def penD (c : Addr) (p : PenS) : List (Key × V) := [(.inr "cells", .ref c), (.inr "at", .int p.a), (.inr "digits", .int p.d), (.inr "count", .int p.n), (.inr "fold", .int p.f)]
def PenAt (pn : Pn) (p : PenS) (H B U : Hp) : Prop := ∀ q, pn = some q → B q.1 = none ∧ U q.1 = none ∧ H q.1 = some (.dK (penD q.2 p)) ∧ B q.2 = some (.lst (p.ns.map V.int))
/-- neither any other thing nor a table nor the script -/
def NoC : HO → Prop
  | .ext _ => False
  | .tbl _ => False
  | .frz _ _ => False
  | .tup _ => False
  | _ => True
theorem NoC.nt {o : HO} (h : NoC o) : ∀ xs, o ≠ .tup xs := fun xs e => by rw [e] at h; exact h
/-- any other thing, the script: never written -/
def Fix : HO → Prop
  | .ext _ => True
  | .frz _ _ => True
  | _ => False
theorem Fix.no {o : HO} (h : Fix o) (n : NoC o) : False := by cases o <;> first | exact h | exact n
def ZAt (H : Hp) (Z : List (Addr × HO)) : Prop := ∀ z ∈ Z, H z.1 = some z.2 ∧ Fix z.2
theorem ZAt.up {H H' : Hp} {Z : List (Addr × HO)} (h : ZAt H Z) (s : Same H H') : ZAt H' Z := fun z hz => ⟨s _ _ (h z hz).1, (h z hz).2⟩
theorem ZAt.mut {H : Hp} {Z : List (Addr × HO)} {p : Addr} {o o' : HO} (h : ZAt H Z) (e : H p = some o) (n : NoC o) : ZAt (L2.upd H p o') Z := fun z hz => by
  obtain ⟨h1, h2⟩ := h z hz
  refine ⟨?_, h2⟩
  rw [upd_ne (fun y => (by rw [y, e] at h1; cases h1; exact h2.no n : False))]
  exact h1
def TabAt (pn : Pn) (H B U : Hp) : Prop := ∀ q, pn = some q → (∀ t ∈ q.T, B t.1 = none ∧ U t.1 = none) ∧ LamX.Tabs q.T H ∧ ZAt H q.Z ∧ Same q.K B
theorem noC_lst {xs : List V} : NoC (.lst xs) := trivial
theorem noC_own {a : Addr} : NoC (.own a) := trivial
theorem noC_dK {xs : List (Key × V)} : NoC (.dK xs) := trivial
theorem noC_dT {xs : List (List Key × V)} : NoC (.dT xs) := trivial
theorem noC_ins {C dx : Addr} {xs : List (Str × V)} : NoC (.ins C dx xs) := trivial
theorem tabs_mut {T : List (Addr × Str)} {H : Hp} {p : Addr} {o o' : HO} (t : LamX.Tabs T H) (h : H p = some o) (n : NoC o) : LamX.Tabs T (upd H p o') := fun x hx => by
  obtain ⟨ps, h1, h2, h3⟩ := t x hx
  refine ⟨ps, ?_, h2, fun pos cv hc => ?_⟩
  · rw [upd_ne (fun z => (by have y : o = .tbl ps := Option.some.inj (h.symm.trans (by rw [← z]; exact h1)); rw [y] at n; exact n : False))]
    exact h1
  · obtain ⟨c, e1, e2⟩ := h3 pos cv hc
    refine ⟨c, e1, ?_⟩
    rw [upd_ne (fun z => (by have y : o = LamX.CodeO c x.2 := Option.some.inj (h.symm.trans (by rw [← z]; exact e2)); rw [y] at n; exact n : False))]
    exact e2
structure Base (U : Hp) (pn : Pn) (p : PenS) (H B : Hp) : Prop where
  bh : Same B H
  uh : Same U H
  bu : ∀ a o, B a = some o → U a = none ∨ ∃ xs, o = .tup xs
  pen : PenAt pn p H B U
  tab : TabAt pn H B U
theorem Base.nbo {U H B : Hp} {pn : Pn} {p : PenS} (b : Base U pn p H B) {a : Addr} {o : HO} (h : B a = some o) (n : ∀ xs, o ≠ .tup xs) : U a = none := (b.bu a o h).elim id fun ⟨xs, e⟩ => (n xs e).elim
/-- what stands in U alone, no tuple, is not in B -/
theorem Base.nub {U H B : Hp} {pn : Pn} {p : PenS} (b : Base U pn p H B) {a : Addr} {o : HO} (h : U a = some o) (n : ∀ xs, o ≠ .tup xs) : B a = none := by
  cases hb : B a with
  | none => rfl
  | some x =>
    have e : x = o := by have h1 := b.bh a x hb; rw [b.uh a o h] at h1; cases h1; rfl
    have := b.nbo hb (by rw [e]; exact n)
    rw [h] at this
    cases this
/-- an object of one's own: its parts are data -/
inductive OwnAt (G : Gm) (B H : Hp) (p : Addr) : D → Prop
  | lst {xs : List V} {ds : List D} : H p = some (.lst xs) → RzA G B xs ds → OwnAt G B H p (.list ds)
  | dk {ks : List (Key × V)} {ds : List D} : H p = some (.dK ks) → RzA G B (ks.map (·.2)) ds → OwnAt G B H p (.dict ((ks.map fun k => keyD k.1).zip ds))
  | dt {ks : List (List Key × V)} {ds : List D} : H p = some (.dT ks) → RzA G B (ks.map (·.2)) ds → OwnAt G B H p (.dict ((ks.map fun k => keyT k.1).zip ds))
inductive Slots (G : Gm) (pn : Pn) (B H : Hp) : L2.St → List Slot → List Addr → Prop
  | nil : Slots G pn B H [] [] []
  | u {x : Option V} {σ : L2.St} {ρ : List Slot} {os : List Addr} : Slots G pn B H σ ρ os → Slots G pn B H (x :: σ) (.u :: ρ) os
  | d {v : V} {x : D} {σ : L2.St} {ρ : List Slot} {os : List Addr} : Rz G B v x → Slots G pn B H σ ρ os → Slots G pn B H (some v :: σ) (.d x :: ρ) os
  | o {p : Addr} {x : D} {σ : L2.St} {ρ : List Slot} {os : List Addr} : OwnAt G B H p x → Slots G pn B H σ ρ os → Slots G pn B H (some (.ref p) :: σ) (.o x :: ρ) (p :: os)
  | p {q : PnI} {σ : L2.St} {ρ : List Slot} {os : List Addr} : pn = some q → Slots G pn B H σ ρ os → Slots G pn B H (some (.ref q.p) :: σ) (.p :: ρ) os
  | fo {q : PnI} {σ : L2.St} {ρ : List Slot} {os : List Addr} : pn = some q → Slots G pn B H σ ρ os → Slots G pn B H (some (.ref q.F) :: σ) (.f :: ρ) os
  | me {a : Addr} {σ : L2.St} {ρ : List Slot} {os : List Addr} : Slots G pn B H σ ρ os → Slots G pn B H (some (.ref a) :: σ) (.me a :: ρ) os
def Free (U : Hp) (pn : Pn) (B : Hp) (os : List Addr) : Prop := ∀ q ∈ os, B q = none ∧ U q = none ∧ NP pn q
structure Rl (G : Gm) (U : Hp) (pn : Pn) (e : Ev) (σ : L2.St) (H B : Hp) : Prop where
  b : Base U pn e.pen H B
  s : ∃ os, Slots G pn B H σ e.sl os ∧ os.Nodup ∧ Free U pn B os
/-- all but the pen stands -/
def Keep (pn : Pn) (H H' : Hp) : Prop := ∀ a o, H a = some o → NP pn a → H' a = some o
theorem Keep.refl {pn : Pn} {H : Hp} : Keep pn H H := fun _ _ h _ => h
theorem Keep.trans {pn : Pn} {H H1 H2 : Hp} (a : Keep pn H H1) (b : Keep pn H1 H2) : Keep pn H H2 := fun x o h n => b x o (a x o h n) n
theorem Keep.of {pn : Pn} {H H' : Hp} (s : Same H H') : Keep pn H H' := fun a o h _ => s a o h
/-- seen from without: the object itself in the heap, its parts data -/
inductive RzB (G : Gm) (pn : Pn) (B H : Hp) : V → D → Prop
  | non : RzB G pn B H .non .none
  | bl (b : Bool) : RzB G pn B H (.bl b) (.bool b)
  | int (i : Int) : RzB G pn B H (.int i) (.int i)
  | str (x : Str) : RzB G pn B H (.str x) (.str x)
  | lst {a : Addr} {xs : List V} {ds : List D} : H a = some (.lst xs) → NP pn a → RzA G B xs ds → RzB G pn B H (.ref a) (.list ds)
  | tup {a : Addr} {xs : List V} {ds : List D} : B a = some (.tup xs) → RzA G B xs ds → RzB G pn B H (.ref a) (.tuple ds)
  | kt {a : Addr} {xs : List V} {ds : List D} : KT G.K a xs → RzA G B xs ds → RzB G pn B H (.ref a) (kD ds)
  | dk {a : Addr} {ks : List (Key × V)} {ds : List D} : RdD H a (.dK ks) → NP pn a → RzA G B (ks.map (·.2)) ds → RzB G pn B H (.ref a) (.dict ((ks.map fun k => keyD k.1).zip ds))
  | dt {a : Addr} {ks : List (List Key × V)} {ds : List D} : RdD H a (.dT ks) → NP pn a → RzA G B (ks.map (·.2)) ds → RzB G pn B H (.ref a) (.dict ((ks.map fun k => keyT k.1).zip ds))
  | ins {a C dx : Addr} {c : Str} {fs : List (Str × V)} {ds : List D} : B a = some (.ins C dx fs) → B dx = some (.own a) → G.X c = some C → RzA G B (fs.map (·.2)) ds → RzB G pn B H (.ref a) (insD c (fs.map (·.1)) ds)
  | fn {a : Addr} {c : Str} : G.X c = some a → RzB G pn B H (.ref a) (fnD c)
section
variable {G : Gm} {U : Hp} {pn : Pn} {e : Ev} {σ : L2.St} {H B H' B' : Hp} {v : V} {x : D}
theorem Base.np {p : PenS} (b : Base U pn p H B) {a : Addr} {o : HO} (h : B a = some o) : NP pn a := fun q hq => by
  refine ⟨fun z => ?_, fun t ht z => ?_⟩
  · have := (b.pen q hq).1
    rw [← z, h] at this
    cases this
  · have := ((b.tab q hq).1 t ht).1
    rw [← z, h] at this
    cases this
theorem Base.npU {p : PenS} (b : Base U pn p H B) {a : Addr} {o : HO} (h : U a = some o) : NP pn a := fun q hq => by
  refine ⟨fun z => ?_, fun t ht z => ?_⟩
  · have := (b.pen q hq).2.1
    rw [← z, h] at this
    cases this
  · have := ((b.tab q hq).1 t ht).2
    rw [← z, h] at this
    cases this
theorem Base.npN {p : PenS} (b : Base U pn p H B) {a : Addr} (h : H a = none) : NP pn a := fun q hq => by
  refine ⟨fun z => ?_, fun t ht z => ?_⟩
  · have := (b.pen q hq).2.2.1
    rw [← z, h] at this
    cases this
  · obtain ⟨ps, h1, _⟩ := (b.tab q hq).2.1 t ht
    rw [← z, h] at h1
    cases h1
theorem Base.tabN {p : PenS} (b : Base U pn p H B) {a : Addr} {o o2 : HO} (h : H a = none) {B' : Hp} (hB : B' = B ∨ B' = upd B a o2) {U' : Hp} (hU : U' = U ∨ U' = upd U a o2) : TabAt pn (upd H a o) B' U' := fun q hq => by
  obtain ⟨h1, h2, h3, h4⟩ := b.tab q hq
  have n := b.npN h q hq
  refine ⟨fun t ht => ⟨?_, ?_⟩, h2.ext (same_upd h), h3.up (same_upd h), ?_⟩
  rotate_right
  · rcases hB with rfl | rfl
    · exact h4
    · exact h4.trans (same_upd (b.bh.free h))
  · rcases hB with rfl | rfl
    · exact (h1 t ht).1
    · rw [upd_ne (fun z => n.2 t ht z.symm)]; exact (h1 t ht).1
  · rcases hU with rfl | rfl
    · exact (h1 t ht).2
    · rw [upd_ne (fun z => n.2 t ht z.symm)]; exact (h1 t ht).2
theorem Rz.b (b : Base U pn e.pen H B) (h : Rz G B v x) : RzB G pn B H v x := by
  cases h with
  | non => exact .non
  | bl b => exact .bl b
  | int b => exact .int b
  | str b => exact .str b
  | lst h hs => exact .lst (b.bh _ _ h) (b.np h) hs
  | tup h hs => exact .tup h hs
  | kt h hs => exact .kt h hs
  | dk h hs => exact .dk (h.same b.bh) (b.np h.is.choose_spec) hs
  | dt h hs => exact .dt (h.same b.bh) (b.np h.is.choose_spec) hs
  | ins h h2 h3 hs => exact .ins h h2 h3 hs
  | fn h => exact .fn h
theorem OwnAt.atC {p : Addr} (h : OwnAt G B H p x) : ∃ o, H p = some o ∧ NoC o := by
  cases h with
  | lst h => exact ⟨_, h, noC_lst⟩
  | dk h => exact ⟨_, h, noC_dK⟩
  | dt h => exact ⟨_, h, noC_dT⟩
theorem OwnAt.tabs {p : Addr} {T : List (Addr × Str)} {o : HO} (h : OwnAt G B H p x) (t : LamX.Tabs T H) : LamX.Tabs T (upd H p o) := by
  cases h with
  | lst h => exact tabs_mut t h noC_lst
  | dk h => exact tabs_mut t h noC_dK
  | dt h => exact tabs_mut t h noC_dT
theorem OwnAt.zat {p : Addr} {Z : List (Addr × HO)} {o : HO} (h : OwnAt G B H p x) (t : ZAt H Z) : ZAt (upd H p o) Z := by
  cases h with
  | lst h => exact t.mut h noC_lst
  | dk h => exact t.mut h noC_dK
  | dt h => exact t.mut h noC_dT
theorem OwnAt.rb {p : Addr} (n : NP pn p) (h : OwnAt G B H p x) : RzB G pn B H (.ref p) x := by
  cases h with
  | lst h hs => exact .lst h n hs
  | dk h hs => exact .dk (.inl h) n hs
  | dt h hs => exact .dt (.inl h) n hs
theorem RzB.keep (k : Keep pn H H') (s : Same B B') (h : RzB G pn B H v x) : RzB G pn B' H' v x := by
  cases h with
  | non => exact .non
  | bl b => exact .bl b
  | int b => exact .int b
  | str b => exact .str b
  | lst h n hs => exact .lst (k _ _ h n) n (hs.same s)
  | tup h hs => exact .tup (s _ _ h) (hs.same s)
  | kt h hs => exact .kt h (hs.same s)
  | dk h n hs => exact .dk (h.mv fun o e => k _ _ e n) n (hs.same s)
  | dt h n hs => exact .dt (h.mv fun o e => k _ _ e n) n (hs.same s)
  | ins h h2 h3 hs => exact .ins (s _ _ h) (s _ _ h2) h3 (hs.same s)
  | fn h => exact .fn h
theorem RzB.int_inv {i : Int} (h : RzB G pn B H v (.int i)) : v = .int i := by cases h; rfl
theorem RzB.str_inv {i : Str} (h : RzB G pn B H v (.str i)) : v = .str i := by cases h; rfl
theorem RzB.bl_inv {i : Bool} (h : RzB G pn B H v (.bool i)) : v = .bl i := by cases h; rfl
theorem RzB.non_inv (h : RzB G pn B H v .none) : v = .non := by cases h; rfl
theorem RzB.lst_inv {ds : List D} (h : RzB G pn B H v (.list ds)) : ∃ a xs, v = .ref a ∧ H a = some (.lst xs) ∧ NP pn a ∧ RzA G B xs ds := by
  cases h with
  | lst h n hs => exact ⟨_, _, rfl, h, n, hs⟩
theorem RzB.tup_inv {ds : List D} (h : RzB G pn B H v (.tuple ds)) : ∃ a xs, v = .ref a ∧ B a = some (.tup xs) ∧ RzA G B xs ds := by
  cases h with
  | tup h hs => exact ⟨_, _, rfl, h, hs⟩
theorem RzB.tup_data {ds : List D} (h : RzB G pn B H v (.tuple ds)) : Rz G B v (.tuple ds) := by
  cases h with
  | tup h hs => exact .tup h hs
theorem RzB.dp (b : Same B H) (p : plain x = true) (h : RzB G pn B H v x) : Dp G.K H v x := by
  cases h with
  | non => exact .non
  | bl b => exact .bl b
  | int b => exact .int b
  | str b => exact .str b
  | lst h n hs => exact .lst (SqL.of h) (RzA.dp (by simpa [plain] using p) (hs.same b))
  | tup h hs => exact .tup (same_t b h) (RzA.dp (by simpa [plain] using p) (hs.same b))
  | dk h hs => simp [plain] at p
  | dt h hs => simp [plain] at p
  | ins h h2 h3 hs => simp [plain, insD] at p
  | fn h => simp [plain, fnD] at p
  | kt h hs => simp [plain, kD] at p
theorem RzB.kt_inv {ds : List D} (h : RzB G pn B H v (kD ds)) : ∃ a xs, v = .ref a ∧ KT G.K a xs ∧ RzA G B xs ds := by
  generalize hd : kD ds = d at h
  cases h with
  | kt h hs => cases hd; exact ⟨_, _, rfl, h, hs⟩
  | @dk a ks ds h n hs =>
    exfalso
    unfold kD at hd
    have hd := PyData.dict.inj hd
    match ks, ds with
    | [], _ => cases hd
    | _ :: _, [] => cases hd
    | (.inl _, _) :: _, _ :: _ => cases hd
    | (.inr _, _) :: _, _ :: _ => cases hd
  | @dt a ks ds h n hs =>
    exfalso
    unfold kD at hd
    have hd := PyData.dict.inj hd
    match ks, ds with
    | [], _ => cases hd
    | _ :: _, [] => cases hd
    | _ :: _, _ :: _ => cases hd
  | ins h h2 h3 hs => exfalso; unfold kD insD at hd; cases hd
  | fn h => exfalso; unfold kD fnD at hd; cases hd
  | _ => cases hd
theorem Rz.kt_inv {ds : List D} {p : PenS} (b : Base U pn p H B) (h : Rz G B v (kD ds)) : ∃ a xs, v = .ref a ∧ KT G.K a xs ∧ RzA G B xs ds := (Rz.b (e := ⟨[], p⟩) b h).kt_inv
theorem RzB.dpn (b : Same B H) (p : plain (nrm x) = true) (h : RzB G pn B H v x) : Dp G.K H v (nrm x) := by
  cases h with
  | non => exact .non
  | bl b => exact .bl b
  | int b => exact .int b
  | str b => exact .str b
  | lst h n hs => exact .lst (SqL.of h) (RzA.dpn (by simpa [nrm, plain] using p) (hs.same b))
  | tup h hs => exact .tup (same_t b h) (RzA.dpn (by simpa [nrm, plain] using p) (hs.same b))
  | kt h hs => exact .tup h.sq (RzA.dpn (by rw [nrm_k] at p; simpa [plain] using p) (hs.same b))
  | dk h hs => rw [nrm_dk] at p; simp [plain] at p
  | dt h hs => rw [nrm_dt] at p; simp [plain] at p
  | ins h h2 h3 hs => rw [nrm_ins] at p; simp [plain, insD] at p
  | fn h => simp [nrm, nrmK, nrmP, plain, fnD] at p
theorem OwnAt.keep {p : Addr} (k : H' p = H p) (s : Same B B') (h : OwnAt G B H p x) : OwnAt G B' H' p x := by
  cases h with
  | lst h hs => exact .lst (k.trans h) (hs.same s)
  | dk h hs => exact .dk (k.trans h) (hs.same s)
  | dt h hs => exact .dt (k.trans h) (hs.same s)
theorem OwnAt.at {p : Addr} (h : OwnAt G B H p x) : ∃ o, H p = some o := by
  cases h with
  | lst h hs => exact ⟨_, h⟩
  | dk h hs => exact ⟨_, h⟩
  | dt h hs => exact ⟨_, h⟩
/-- freed: it may stand within data from now on -/
theorem OwnAt.free {p : Addr} {o : HO} (e : H p = some o) (n : B p = none) (h : OwnAt G B H p x) : Rz G (upd B p o) (.ref p) x := by
  cases h with
  | lst h hs => rw [h] at e; cases e; exact .lst upd_same (hs.same (same_upd n))
  | dk h hs => rw [h] at e; cases e; exact .dk (.inl upd_same) (hs.same (same_upd n))
  | dt h hs => rw [h] at e; cases e; exact .dt (.inl upd_same) (hs.same (same_upd n))
variable {ρ : List Slot} {os : List Addr}
theorem Slots.grow (s : Same B B') : ∀ {σ : L2.St} {ρ : List Slot} {os : List Addr}, (∀ q ∈ os, H' q = H q) → Slots G pn B H σ ρ os → Slots G pn B' H' σ ρ os
  | _, _, _, _, .nil => .nil
  | _, _, _, k, .u t => .u (t.grow s k)
  | _, _, _, k, .d h t => .d (h.same s) (t.grow s k)
  | _, _, _, k, .o h t => .o (h.keep (k _ (.head _)) s) (t.grow s fun q hq => k q (.tail _ hq))
  | _, _, _, k, .p h t => .p h (t.grow s k)
  | _, _, _, k, .fo h t => .fo h (t.grow s k)
  | _, _, _, k, .me t => .me (t.grow s k)
theorem Slots.len : ∀ {σ : L2.St} {ρ : List Slot} {os : List Addr}, Slots G pn B H σ ρ os → σ.length = ρ.length
  | _, _, _, .nil => rfl
  | _, _, _, .u t => congrArg (· + 1) t.len
  | _, _, _, .d _ t => congrArg (· + 1) t.len
  | _, _, _, .o _ t => congrArg (· + 1) t.len
  | _, _, _, .p _ t => congrArg (· + 1) t.len
  | _, _, _, .fo _ t => congrArg (· + 1) t.len
  | _, _, _, .me t => congrArg (· + 1) t.len
theorem Slots.get : ∀ {σ : L2.St} {ρ : List Slot} {os : List Addr} {i : Nat} {x : D}, Slots G pn B H σ ρ os → ρ[i]? = some (.d x) → ∃ v, σ[i]? = some (some v) ∧ Rz G B v x
  | _, _, _, 0, _, .d h _, e => by cases e; exact ⟨_, rfl, h⟩
  | _, _, _, 0, _, .u _, e => by cases e
  | _, _, _, 0, _, .o _ _, e => by cases e
  | _, _, _, 0, _, .p _ _, e => by cases e
  | _, _, _, 0, _, .fo _ _, e => by cases e
  | _, _, _, 0, _, .me _, e => by cases e
  | _, _, _, i + 1, _, .d _ t, e => Slots.get (i := i) t (by simpa using e)
  | _, _, _, i + 1, _, .u t, e => Slots.get (i := i) t (by simpa using e)
  | _, _, _, i + 1, _, .o _ t, e => Slots.get (i := i) t (by simpa using e)
  | _, _, _, i + 1, _, .p _ t, e => Slots.get (i := i) t (by simpa using e)
  | _, _, _, i + 1, _, .fo _ t, e => Slots.get (i := i) t (by simpa using e)
  | _, _, _, i + 1, _, .me t, e => Slots.get (i := i) t (by simpa using e)
  | _, _, _, _, _, .nil, e => by simp at e
theorem Slots.getO : ∀ {σ : L2.St} {ρ : List Slot} {os : List Addr} {i : Nat} {x : D}, Slots G pn B H σ ρ os → ρ[i]? = some (.o x) → ∃ p, σ[i]? = some (some (.ref p)) ∧ OwnAt G B H p x ∧ p ∈ os
  | _, _, _, 0, _, .o h _, e => by cases e; exact ⟨_, rfl, h, .head _⟩
  | _, _, _, 0, _, .u _, e => by cases e
  | _, _, _, 0, _, .d _ _, e => by cases e
  | _, _, _, 0, _, .p _ _, e => by cases e
  | _, _, _, 0, _, .fo _ _, e => by cases e
  | _, _, _, 0, _, .me _, e => by cases e
  | _, _, _, i + 1, _, .d _ t, e => Slots.getO (i := i) t (by simpa using e)
  | _, _, _, i + 1, _, .u t, e => Slots.getO (i := i) t (by simpa using e)
  | _, _, _, i + 1, _, .o _ t, e => by
    obtain ⟨p, h1, h2, h3⟩ := Slots.getO (i := i) t (by simpa using e)
    exact ⟨p, h1, h2, .tail _ h3⟩
  | _, _, _, i + 1, _, .p _ t, e => Slots.getO (i := i) t (by simpa using e)
  | _, _, _, i + 1, _, .fo _ t, e => Slots.getO (i := i) t (by simpa using e)
  | _, _, _, i + 1, _, .me t, e => Slots.getO (i := i) t (by simpa using e)
  | _, _, _, _, _, .nil, e => by simp at e
theorem Slots.getP : ∀ {σ : L2.St} {ρ : List Slot} {os : List Addr} {i : Nat}, Slots G pn B H σ ρ os → ρ[i]? = some .p → ∃ q : PnI, σ[i]? = some (some (.ref q.p)) ∧ pn = some q
  | _, _, _, 0, .p h _, e => ⟨_, rfl, h⟩
  | _, _, _, 0, .fo _ _, e => by cases e
  | _, _, _, 0, .me _, e => by cases e
  | _, _, _, 0, .u _, e => by cases e
  | _, _, _, 0, .d _ _, e => by cases e
  | _, _, _, 0, .o _ _, e => by cases e
  | _, _, _, i + 1, .d _ t, e => Slots.getP (i := i) t (by simpa using e)
  | _, _, _, i + 1, .u t, e => Slots.getP (i := i) t (by simpa using e)
  | _, _, _, i + 1, .o _ t, e => Slots.getP (i := i) t (by simpa using e)
  | _, _, _, i + 1, .p _ t, e => Slots.getP (i := i) t (by simpa using e)
  | _, _, _, i + 1, .fo _ t, e => Slots.getP (i := i) t (by simpa using e)
  | _, _, _, i + 1, .me t, e => Slots.getP (i := i) t (by simpa using e)
  | _, _, _, _, .nil, e => by simp at e
theorem Slots.getF : ∀ {σ : L2.St} {ρ : List Slot} {os : List Addr} {i : Nat}, Slots G pn B H σ ρ os → ρ[i]? = some .f → ∃ q : PnI, σ[i]? = some (some (.ref q.F)) ∧ pn = some q
  | _, _, _, 0, .fo h _, e => ⟨_, rfl, h⟩
  | _, _, _, 0, .p _ _, e => by cases e
  | _, _, _, 0, .me _, e => by cases e
  | _, _, _, 0, .u _, e => by cases e
  | _, _, _, 0, .d _ _, e => by cases e
  | _, _, _, 0, .o _ _, e => by cases e
  | _, _, _, i + 1, .d _ t, e => Slots.getF (i := i) t (by simpa using e)
  | _, _, _, i + 1, .u t, e => Slots.getF (i := i) t (by simpa using e)
  | _, _, _, i + 1, .o _ t, e => Slots.getF (i := i) t (by simpa using e)
  | _, _, _, i + 1, .p _ t, e => Slots.getF (i := i) t (by simpa using e)
  | _, _, _, i + 1, .fo _ t, e => Slots.getF (i := i) t (by simpa using e)
  | _, _, _, i + 1, .me t, e => Slots.getF (i := i) t (by simpa using e)
/-- a slot's store of data -/
theorem Slots.setD (h : Rz G B v x) : ∀ {σ : L2.St} {ρ : List Slot} {os : List Addr} (i : Nat), Slots G pn B H σ ρ os → ∃ os', Slots G pn B H (σ.set i (some v)) (ρ.set i (.d x)) os' ∧ os'.Sublist os
  | _, _, _, _, .nil => ⟨[], .nil, .slnil⟩
  | _, _, _, 0, .u t => ⟨_, .d h t, List.Sublist.refl _⟩
  | _, _, _, 0, .d _ t => ⟨_, .d h t, List.Sublist.refl _⟩
  | _, _, _, 0, .o _ t => ⟨_, .d h t, List.sublist_cons_self ..⟩
  | _, _, _, 0, .p _ t => ⟨_, .d h t, List.Sublist.refl _⟩
  | _, _, _, 0, .fo _ t => ⟨_, .d h t, List.Sublist.refl _⟩
  | _, _, _, 0, .me t => ⟨_, .d h t, List.Sublist.refl _⟩
  | _, _, _, i + 1, .u t => let ⟨os, a, b⟩ := Slots.setD h i t; ⟨os, .u a, b⟩
  | _, _, _, i + 1, .d g t => let ⟨os, a, b⟩ := Slots.setD h i t; ⟨os, .d g a, b⟩
  | _, _, _, i + 1, .o g t => let ⟨os, a, b⟩ := Slots.setD h i t; ⟨_ :: os, .o g a, b.cons₂ _⟩
  | _, _, _, i + 1, .p g t => let ⟨os, a, b⟩ := Slots.setD h i t; ⟨os, .p g a, b⟩
  | _, _, _, i + 1, .fo g t => let ⟨os, a, b⟩ := Slots.setD h i t; ⟨os, .fo g a, b⟩
  | _, _, _, i + 1, .me t => let ⟨os, a, b⟩ := Slots.setD h i t; ⟨os, .me a, b⟩
/-- .. of nothing -/
theorem Slots.setU {w : Option V} : ∀ {σ : L2.St} {ρ : List Slot} {os : List Addr} (i : Nat), Slots G pn B H σ ρ os → ∃ os', Slots G pn B H (σ.set i w) (ρ.set i .u) os' ∧ os'.Sublist os
  | _, _, _, _, .nil => ⟨[], .nil, .slnil⟩
  | _, _, _, 0, .u t => ⟨_, .u t, List.Sublist.refl _⟩
  | _, _, _, 0, .d _ t => ⟨_, .u t, List.Sublist.refl _⟩
  | _, _, _, 0, .o _ t => ⟨_, .u t, List.sublist_cons_self ..⟩
  | _, _, _, 0, .p _ t => ⟨_, .u t, List.Sublist.refl _⟩
  | _, _, _, 0, .fo _ t => ⟨_, .u t, List.Sublist.refl _⟩
  | _, _, _, 0, .me t => ⟨_, .u t, List.Sublist.refl _⟩
  | _, _, _, i + 1, .u t => let ⟨os, a, b⟩ := Slots.setU i t; ⟨os, .u a, b⟩
  | _, _, _, i + 1, .d g t => let ⟨os, a, b⟩ := Slots.setU i t; ⟨os, .d g a, b⟩
  | _, _, _, i + 1, .o g t => let ⟨os, a, b⟩ := Slots.setU i t; ⟨_ :: os, .o g a, b.cons₂ _⟩
  | _, _, _, i + 1, .p g t => let ⟨os, a, b⟩ := Slots.setU i t; ⟨os, .p g a, b⟩
  | _, _, _, i + 1, .fo g t => let ⟨os, a, b⟩ := Slots.setU i t; ⟨os, .fo g a, b⟩
  | _, _, _, i + 1, .me t => let ⟨os, a, b⟩ := Slots.setU i t; ⟨os, .me a, b⟩
/-- .. of a new object of one's own -/
theorem Slots.setO {p : Addr} (h : OwnAt G B H p x) : ∀ {σ : L2.St} {ρ : List Slot} {os : List Addr} (i : Nat), i < ρ.length → Slots G pn B H σ ρ os → ∃ os', Slots G pn B H (σ.set i (some (.ref p))) (ρ.set i (.o x)) os' ∧ (∀ q ∈ os', q = p ∨ q ∈ os) ∧ (os.Nodup → p ∉ os → os'.Nodup)
  | _, _, _, _, l, .nil => by cases l
  | _, _, _, 0, _, .u t => ⟨_, .o h t, fun q hq => (List.mem_cons.mp hq), fun n f => List.nodup_cons.mpr ⟨f, n⟩⟩
  | _, _, _, 0, _, .d _ t => ⟨_, .o h t, fun q hq => (List.mem_cons.mp hq), fun n f => List.nodup_cons.mpr ⟨f, n⟩⟩
  | _, _, _, 0, _, .o _ t => ⟨_, .o h t, fun q hq => (List.mem_cons.mp hq).imp id fun z => .tail _ z, fun n f => List.nodup_cons.mpr ⟨fun z => f (.tail _ z), (List.nodup_cons.mp n).2⟩⟩
  | _, _, _, 0, _, .p _ t => ⟨_, .o h t, fun q hq => (List.mem_cons.mp hq), fun n f => List.nodup_cons.mpr ⟨f, n⟩⟩
  | _, _, _, 0, _, .fo _ t => ⟨_, .o h t, fun q hq => (List.mem_cons.mp hq), fun n f => List.nodup_cons.mpr ⟨f, n⟩⟩
  | _, _, _, 0, _, .me t => ⟨_, .o h t, fun q hq => (List.mem_cons.mp hq), fun n f => List.nodup_cons.mpr ⟨f, n⟩⟩
  | _, _, _, i + 1, l, .u t => let ⟨os, a, b, c⟩ := Slots.setO h i (Nat.lt_of_succ_lt_succ l) t; ⟨os, .u a, b, c⟩
  | _, _, _, i + 1, l, .d g t => let ⟨os, a, b, c⟩ := Slots.setO h i (Nat.lt_of_succ_lt_succ l) t; ⟨os, .d g a, b, c⟩
  | _, _, _, i + 1, l, .o g t => let ⟨os, a, b, c⟩ := Slots.setO h i (Nat.lt_of_succ_lt_succ l) t
      ⟨_ :: os, .o g a, fun q hq => (List.mem_cons.mp hq).elim (fun z => .inr (z ▸ .head _)) fun z => (b q z).imp id fun y => .tail _ y,
        fun n f => List.nodup_cons.mpr ⟨fun z => (b _ z).elim (fun y => f (y ▸ .head _)) fun y => (List.nodup_cons.mp n).1 y, c (List.nodup_cons.mp n).2 fun z => f (.tail _ z)⟩⟩
  | _, _, _, i + 1, l, .p g t => let ⟨os, a, b, c⟩ := Slots.setO h i (Nat.lt_of_succ_lt_succ l) t; ⟨os, .p g a, b, c⟩
  | _, _, _, i + 1, l, .fo g t => let ⟨os, a, b, c⟩ := Slots.setO h i (Nat.lt_of_succ_lt_succ l) t; ⟨os, .fo g a, b, c⟩
  | _, _, _, i + 1, l, .me t => let ⟨os, a, b, c⟩ := Slots.setO h i (Nat.lt_of_succ_lt_succ l) t; ⟨os, .me a, b, c⟩
/-- an object of one's own changes -/
theorem Slots.mut {p : Addr} {y : D} : ∀ {σ : L2.St} {ρ : List Slot} {os : List Addr} (i : Nat), (∀ q ∈ os, q ≠ p → H' q = H q) → OwnAt G B H' p y → os.Nodup → σ[i]? = some (some (.ref p)) → ρ[i]? = some (.o x) → Slots G pn B H σ ρ os → Slots G pn B H' σ (ρ.set i (.o y)) os
  | _, _, _, _, _, _, _, e, _, .nil => by simp at e
  | _, _, _, 0, k, h, n, e, _, .o g t => by
    cases e
    exact .o h (t.grow (Same.refl _) fun q hq => k q (.tail _ hq) fun z => (List.nodup_cons.mp n).1 (z ▸ hq))
  | _, _, _, 0, _, _, _, _, f, .u _ => by cases f
  | _, _, _, 0, _, _, _, _, f, .d _ _ => by cases f
  | _, _, _, 0, _, _, _, _, f, .p _ _ => by cases f
  | _, _, _, 0, _, _, _, _, f, .fo _ _ => by cases f
  | _, _, _, 0, _, _, _, _, f, .me _ => by cases f
  | _, _, _, i + 1, k, h, n, e, f, .u t => .u (Slots.mut i k h n (by simpa using e) (by simpa using f) t)
  | _, _, _, i + 1, k, h, n, e, f, .d g t => .d g (Slots.mut i k h n (by simpa using e) (by simpa using f) t)
  | _, _, _, i + 1, k, h, n, e, f, .p g t => .p g (Slots.mut i k h n (by simpa using e) (by simpa using f) t)
  | _, _, _, i + 1, k, h, n, e, f, .fo g t => .fo g (Slots.mut i k h n (by simpa using e) (by simpa using f) t)
  | _, _, _, i + 1, k, h, n, e, f, .me t => .me (Slots.mut i k h n (by simpa using e) (by simpa using f) t)
  | _, _, _, i + 1, k, h, n, e, f, .o g t => by
    obtain ⟨p', e', _, m⟩ := Slots.getO (i := i) t (by simpa using f)
    have e2 : some (some (V.ref p')) = some (some (V.ref p)) := e'.symm.trans (by simpa using e)
    cases e2
    exact .o (g.keep (k _ (.head _) fun z => (List.nodup_cons.mp n).1 (z ▸ m)) (Same.refl _)) (Slots.mut i (fun q hq => k q (.tail _ hq)) h (List.nodup_cons.mp n).2 (by simpa using e) (by simpa using f) t)
/-- .. becomes data -/
theorem Slots.rel {p : Addr} (s : Same B B') (h : Rz G B' (.ref p) x) : ∀ {σ : L2.St} {ρ : List Slot} {os : List Addr} (i : Nat), os.Nodup → σ[i]? = some (some (.ref p)) → ρ[i]? = some (.o x) → Slots G pn B H σ ρ os → ∃ os', Slots G pn B' H σ (ρ.set i (.d x)) os' ∧ os'.Sublist os ∧ p ∉ os'
  | _, _, _, _, _, e, _, .nil => by simp at e
  | _, _, _, 0, n, e, _, .o g t => by
    cases e
    exact ⟨_, .d h (t.grow s fun _ _ => rfl), List.sublist_cons_self .., (List.nodup_cons.mp n).1⟩
  | _, _, _, 0, _, _, f, .u _ => by cases f
  | _, _, _, 0, _, _, f, .d _ _ => by cases f
  | _, _, _, 0, _, _, f, .p _ _ => by cases f
  | _, _, _, 0, _, _, f, .fo _ _ => by cases f
  | _, _, _, 0, _, _, f, .me _ => by cases f
  | _, _, _, i + 1, n, e, f, .u t => let ⟨os, a, b, c⟩ := Slots.rel s h i n (by simpa using e) (by simpa using f) t; ⟨os, .u a, b, c⟩
  | _, _, _, i + 1, n, e, f, .d g t => let ⟨os, a, b, c⟩ := Slots.rel s h i n (by simpa using e) (by simpa using f) t; ⟨os, .d (g.same s) a, b, c⟩
  | _, _, _, i + 1, n, e, f, .p g t => let ⟨os, a, b, c⟩ := Slots.rel s h i n (by simpa using e) (by simpa using f) t; ⟨os, .p g a, b, c⟩
  | _, _, _, i + 1, n, e, f, .fo g t => let ⟨os, a, b, c⟩ := Slots.rel s h i n (by simpa using e) (by simpa using f) t; ⟨os, .fo g a, b, c⟩
  | _, _, _, i + 1, n, e, f, .me t => let ⟨os, a, b, c⟩ := Slots.rel s h i n (by simpa using e) (by simpa using f) t; ⟨os, .me a, b, c⟩
  | _, _, _, i + 1, n, e, f, .o g t => by
    obtain ⟨p', e', _, m⟩ := Slots.getO (i := i) t (by simpa using f)
    have e2 : some (some (V.ref p')) = some (some (V.ref p)) := e'.symm.trans (by simpa using e)
    cases e2
    obtain ⟨os, a, b, c⟩ := Slots.rel s h i (List.nodup_cons.mp n).2 (by simpa using e) (by simpa using f) t
    refine ⟨_ :: os, .o (g.keep rfl s) a, b.cons₂ _, fun z => ?_⟩
    rcases List.mem_cons.mp z with z | z
    · exact (List.nodup_cons.mp n).1 (z ▸ m)
    · exact c z
theorem Slots.there : ∀ {σ : L2.St} {ρ : List Slot} {os : List Addr} {q : Addr}, Slots G pn B H σ ρ os → q ∈ os → ∃ o, H q = some o
  | _, _, _, _, .nil, h => by cases h
  | _, _, _, _, .u t, h => t.there h
  | _, _, _, _, .d _ t, h => t.there h
  | _, _, _, _, .p _ t, h => t.there h
  | _, _, _, _, .fo _ t, h => t.there h
  | _, _, _, _, .me t, h => t.there h
  | _, _, _, _, .o g t, h => (List.mem_cons.mp h).elim (fun z => z ▸ g.at) fun z => t.there z
theorem Slots.thereC : ∀ {σ : L2.St} {ρ : List Slot} {os : List Addr} {q : Addr}, Slots G pn B H σ ρ os → q ∈ os → ∃ o, H q = some o ∧ NoC o
  | _, _, _, _, .nil, h => by cases h
  | _, _, _, _, .u t, h => t.thereC h
  | _, _, _, _, .d _ t, h => t.thereC h
  | _, _, _, _, .p _ t, h => t.thereC h
  | _, _, _, _, .fo _ t, h => t.thereC h
  | _, _, _, _, .me t, h => t.thereC h
  | _, _, _, _, .o g t, h => (List.mem_cons.mp h).elim (fun z => z ▸ g.atC) fun z => t.thereC z
/-! ### the whole -/
theorem Rl.get (r : Rl G U pn e σ H B) {i : Nat} (h : e.sl[i]? = some (.d x)) : ∃ v, σ[i]? = some (some v) ∧ Rz G B v x := by
  obtain ⟨os, s, _, _⟩ := r.s
  exact s.get h
theorem Rl.getO (r : Rl G U pn e σ H B) {i : Nat} (h : e.sl[i]? = some (.o x)) : ∃ p, σ[i]? = some (some (.ref p)) ∧ OwnAt G B H p x ∧ B p = none ∧ U p = none ∧ NP pn p := by
  obtain ⟨os, s, _, f⟩ := r.s
  obtain ⟨p, h1, h2, h3⟩ := s.getO h
  exact ⟨p, h1, h2, f p h3⟩
theorem Rl.new (r : Rl G U pn e σ H B) {p : Addr} {o : HO} (h : H p = none) : Rl G U pn e σ (upd H p o) (upd B p o) := by
  have tb := r.b.tabN (o := o) (o2 := o) h (.inr rfl) (.inl rfl)
  obtain ⟨⟨bh, uh, bu, pe⟩, os, s, n, f⟩ := r
  have hB : B p = none := bh.free h
  have hU : U p = none := uh.free h
  refine ⟨⟨fun a x hx => ?_, uh.trans (same_upd h), fun a x hx => ?_, fun q hq => ?_, tb⟩, os, s.grow (same_upd hB) (fun q hq => ?_), n, fun q hq => ?_⟩
  · by_cases z : a = p
    · rw [z, upd_same] at hx ⊢; exact hx
    · rw [upd_ne z] at hx ⊢; exact bh a x hx
  · by_cases z : a = p
    · rw [z]; exact .inl hU
    · rw [upd_ne z] at hx; exact bu a x hx
  · obtain ⟨h1, h2, h3, h4⟩ := pe q hq
    have nq : q.1 ≠ p := fun z => by rw [← z, h3] at h; cases h
    exact ⟨(upd_ne nq).trans h1, h2, (upd_ne nq).trans h3, same_upd hB _ _ h4⟩
  · obtain ⟨p', hp⟩ := s.there hq
    exact upd_ne (ne_of_none hp h)
  · obtain ⟨h1, h2, h3⟩ := f q hq
    have nq : q ≠ p := fun z => by
      obtain ⟨o, ho⟩ := s.there hq
      rw [z, h] at ho
      cases ho
    exact ⟨(upd_ne nq).trans h1, h2, h3⟩
/-- a new object that is not yet data -/
structure Fresh (G : Gm) (U : Hp) (pn : Pn) (e : Ev) (σ : L2.St) (H B : Hp) (p : Addr) (x : D) : Prop where
  b : Base U pn e.pen H B
  s : ∃ os, Slots G pn B H σ e.sl os ∧ os.Nodup ∧ Free U pn B os ∧ p ∉ os
  o : OwnAt G B H p x
  n : B p = none ∧ U p = none ∧ NP pn p
theorem Fresh.rl {p : Addr} (r : Fresh G U pn e σ H B p x) : Rl G U pn e σ H B := by
  obtain ⟨os, s, n, f, _⟩ := r.s
  exact ⟨r.b, os, s, n, f⟩
/-- .. made data -/
theorem base_inT {q : PenS} {p : Addr} {o : HO} (b : Base U pn q H B) (h : H p = some o) (hB : B p = none) (hU : U p = none ∨ ∃ xs, o = .tup xs) (hn : NP pn p) : Base U pn q H (upd B p o) := by
  refine ⟨fun a x hx => ?_, b.uh, fun a x hx => ?_, fun q hq => ?_, fun q hq => ?_⟩
  rotate_right
  · obtain ⟨h1, h2, h3, h4⟩ := b.tab q hq
    exact ⟨fun t ht => ⟨(upd_ne (fun z => (hn q hq).2 t ht z.symm)).trans (h1 t ht).1, (h1 t ht).2⟩, h2, h3, h4.trans (same_upd hB)⟩
  · by_cases z : a = p
    · rw [z, upd_same] at hx; rw [z, h]; exact hx
    · rw [upd_ne z] at hx; exact b.bh a x hx
  · by_cases z : a = p
    · rw [z, upd_same] at hx; cases hx; rw [z]; exact hU
    · rw [upd_ne z] at hx; exact b.bu a x hx
  · obtain ⟨h1, h2, h3, h4⟩ := b.pen q hq
    exact ⟨(upd_ne (fun z => (hn q hq).1 z.symm)).trans h1, h2, h3, same_upd hB _ _ h4⟩
theorem base_in {q : PenS} {p : Addr} {o : HO} (b : Base U pn q H B) (h : H p = some o) (hB : B p = none) (hU0 : U p = none) (hn : NP pn p) : Base U pn q H (upd B p o) := base_inT b h hB (.inl hU0) hn
theorem Fresh.data {p : Addr} (r : Fresh G U pn e σ H B p x) : ∃ B', Rl G U pn e σ H B' ∧ Same B B' ∧ Rz G B' (.ref p) x := by
  obtain ⟨os, s, n, f, np⟩ := r.s
  obtain ⟨o, ho⟩ := r.o.at
  obtain ⟨hB, hU, hn⟩ := r.n
  refine ⟨upd B p o, ⟨base_in r.b ho hB hU hn, os, s.grow (same_upd hB) (fun _ _ => rfl), n, fun q hq => ?_⟩, same_upd hB, r.o.free ho hB⟩
  obtain ⟨h1, h2, h3⟩ := f q hq
  exact ⟨(upd_ne (fun z => np (by rw [← z]; exact hq))).trans h1, h2, h3⟩
theorem Rl.setD (r : Rl G U pn e σ H B) (h : Rz G B v x) (i : Nat) : Rl G U pn ⟨e.sl.set i (.d x), e.pen⟩ (σ.set i (some v)) H B := by
  obtain ⟨b, os, s, n, f⟩ := r
  obtain ⟨os', s', sb⟩ := Slots.setD h i s
  exact ⟨b, os', s', sb.nodup n, fun q hq => f q (sb.subset hq)⟩
theorem Rl.setU (r : Rl G U pn e σ H B) {w : Option V} (i : Nat) : Rl G U pn ⟨e.sl.set i .u, e.pen⟩ (σ.set i w) H B := by
  obtain ⟨b, os, s, n, f⟩ := r
  obtain ⟨os', s', sb⟩ := Slots.setU (w := w) i s
  exact ⟨b, os', s', sb.nodup n, fun q hq => f q (sb.subset hq)⟩
theorem Fresh.setO {p : Addr} (r : Fresh G U pn e σ H B p x) {i : Nat} (hi : i < e.sl.length) : Rl G U pn ⟨e.sl.set i (.o x), e.pen⟩ (σ.set i (some (.ref p))) H B := by
  obtain ⟨os, s, n, f, np⟩ := r.s
  obtain ⟨os', s', sb, nd⟩ := Slots.setO r.o i hi s
  exact ⟨r.b, os', s', nd n np, fun q hq => (sb q hq).elim (fun z => z ▸ r.n) (f q)⟩
theorem Rl.mut (r : Rl G U pn e σ H B) {p : Addr} {o : HO} {y : D} {i : Nat} (hs : σ[i]? = some (some (.ref p))) (he : e.sl[i]? = some (.o x)) (h : OwnAt G B (upd H p o) p y) : Rl G U pn ⟨e.sl.set i (.o y), e.pen⟩ σ (upd H p o) B := by
  obtain ⟨p', e', ow, hB, hU, hn⟩ := r.getO he
  rw [hs] at e'
  cases e'
  obtain ⟨b, os, s, n, f⟩ := r
  refine ⟨⟨fun a x hx => ?_, fun a x hx => ?_, b.bu, fun q hq => ?_, fun q hq => ⟨(b.tab q hq).1, ow.tabs (b.tab q hq).2.1, ow.zat (b.tab q hq).2.2.1, (b.tab q hq).2.2.2⟩⟩, os, Slots.mut i (fun q _ z => upd_ne z) h n hs he s, n, f⟩
  · rw [upd_ne (ne_of_none hx hB)]; exact b.bh a x hx
  · rw [upd_ne (ne_of_none hx hU)]; exact b.uh a x hx
  · obtain ⟨h1, h2, h3, h4⟩ := b.pen q hq
    exact ⟨h1, h2, (upd_ne (fun z => (hn q hq).1 z.symm)).trans h3, h4⟩
theorem Rl.rel (r : Rl G U pn e σ H B) {i : Nat} (he : e.sl[i]? = some (.o x)) : ∃ B', Rl G U pn ⟨e.sl.set i (.d x), e.pen⟩ σ H B' ∧ Same B B' := by
  obtain ⟨p, hs, ow, hB, hU, hn⟩ := r.getO he
  obtain ⟨o, ho⟩ := ow.at
  obtain ⟨b, os, s, n, f⟩ := r
  obtain ⟨os', s', sb, np⟩ := Slots.rel (same_upd hB) (ow.free ho hB) i n hs he s
  refine ⟨upd B p o, ⟨base_in b ho hB hU hn, os', s', sb.nodup n, fun q hq => ?_⟩, same_upd hB⟩
  obtain ⟨h1, h2, h3⟩ := f q (sb.subset hq)
  exact ⟨(upd_ne (fun z => np (by rw [← z]; exact hq))).trans h1, h2, h3⟩
end
end Fw

set_option linter.all false
set_option maxRecDepth 100000
set_option maxHeartbeats 4000000
namespace Fw
open PySem PySem.Spec PyProof.Rows L2
/-! ### what an expression tells: a value, or an error with its fields -/
inductive Rs (α : Type) where
  | v (a : α) | x (c : Str) (ns : List Str) (ds : List D)
inductive Fl where
  | nx | bk | ct | rt (d : D) | x (c : Str) (ns : List Str) (ds : List D)
abbrev FG (α : Type) := Ev → Option (Rs α × PenS)
abbrev FS := Ev → Option (Fl × Ev)
def XAt (G : Gm) (B H : Hp) (cls : Value) (ao : Option Addr) (c : Str) (ns : List Str) (ds : List D) : Prop :=
  ∃ C a fvs, G.X c = some C ∧ cls = .ref C ∧ ao = some a ∧ H a = some (.xd fvs) ∧ fvs.map (·.1) = ns ∧ RzA G B (fvs.map (·.2)) ds
abbrev TG_ (W : Type) := L2.St → Hp → (W → Hp → Prop) → Prop
section
variable {α β γ : Type} {W W1 W2 : Type}
def retG (a : α) : FG α := fun e => some (.v a, e.pen)
def optG (o : Option α) : FG α := fun e => o.map fun d => (.v d, e.pen)
def bindG (f : FG α) (g : α → FG β) : FG β := fun e => match f e with
  | none => none
  | some (.x c ns ds, p) => some (.x c ns ds, p)
  | some (.v a, p) => g a ⟨e.sl, p⟩
def Post (G : Gm) (U : Hp) (pn : Pn) (E : XK) (R : Hp → Hp → W → α → Prop) (e : Ev) (σ : L2.St) (H B : Hp) (p' : PenS) (Q : W → Hp → Prop) : Rs α → Prop
  | .v d => ∀ v H' B', Rl G U pn ⟨e.sl, p'⟩ σ H' B' → Same B B' → Keep pn H H' → R B' H' v d → Q v H'
  | .x c ns ds => ∀ cls ao H' B', Base U pn p' H' B' → Same B B' → XAt G B' H' cls ao c ns ds → E cls ao H'
def CG (G : Gm) (pn : Pn) (E : XK) (R : Hp → Hp → W → α → Prop) (t : TG_ W) (f : FG α) : Prop :=
  ∀ U e σ H B r p' Q, Rl G U pn e σ H B → f e = some (r, p') → Post G U pn E R e σ H B p' Q r → t σ H Q
abbrev CE (G : Gm) (pn : Pn) (E : XK) (t : TE) (f : FG D) : Prop := CG G pn E (fun B _ v d => Rz G B v d) t f
abbrev CB (G : Gm) (pn : Pn) (E : XK) (t : TE) (f : FG D) : Prop := CG G pn E (fun B H v d => RzB G pn B H v d) t f
abbrev CA (G : Gm) (pn : Pn) (E : XK) (t : TA) (f : FG (List D)) : Prop := CG G pn E (fun B _ v d => RzA G B v d) t f
abbrev CT (G : Gm) (pn : Pn) (E : XK) (t : TT) (f : FG Bool) : Prop := CG G pn E (fun _ _ v d => v = d) t f
abbrev CO (G : Gm) (pn : Pn) (E : XK) (t : TO) (f : FG (Option Int)) : Prop := CG G pn E (fun _ _ v d => v = d) t f
variable {G : Gm} {U : Hp} {pn : Pn} {E : XK} {e : Ev} {σ : L2.St} {H B H' B' H1 B1 : Hp} {R : Hp → Hp → W → α → Prop} {R1 : Hp → Hp → W1 → β → Prop} {S2 : Hp → Hp → W2 → γ → Prop} {p' p1 : PenS}
theorem Post.up {Q : W → Hp → Prop} {r : Rs α} {q : PenS} (s : Same B B1) (k : Keep pn H H1) (h : Post G U pn E R e σ H B p' Q r) : Post G U pn E R ⟨e.sl, q⟩ σ H1 B1 p' Q r := by
  cases r with
  | v d => exact fun v H' B' r s' k' x => h v H' B' r (s.trans s') (k.trans k') x
  | x c ns ds => exact fun cls ao H' B' b s' x => h cls ao H' B' b (s.trans s') x
/-- one behind the other -/
theorem CG.bind {t : TG_ W} {k : W → L2.St → Hp → (W1 → Hp → Prop) → Prop} {f : FG α} {g : α → FG β} (h1 : CG G pn E R t f)
    (h2 : ∀ w a U e σ H B r p' Q, Rl G U pn e σ H B → R B H w a → g a e = some (r, p') → Post G U pn E R1 e σ H B p' Q r → k w σ H Q) :
    CG G pn E R1 (fun σ H Q => t σ H fun w H1 => k w σ H1 Q) (bindG f g) := by
  intro U e σ H B r p' Q rl hf post
  unfold bindG at hf
  cases hfe : f e with
  | none => rw [hfe] at hf; cases hf
  | some rp =>
    obtain ⟨r1, q1⟩ := rp
    rw [hfe] at hf
    cases r1 with
    | x c ns ds =>
      cases hf
      exact h1 U e σ H B _ _ _ rl hfe post
    | v a =>
      exact h1 U e σ H B _ _ _ rl hfe fun w H1 B1 rl1 s1 k1 rw1 => h2 w a U ⟨e.sl, q1⟩ σ H1 B1 r p' Q rl1 rw1 hf (post.up s1 k1)
theorem CG.mono {R' : Hp → Hp → W → α → Prop} {t : TG_ W} {f : FG α} (h : CG G pn E R t f) (hR : ∀ U p H B w a, Base U pn p H B → R B H w a → R' B H w a) : CG G pn E R' t f := by
  intro U e σ H B r p' Q rl hf post
  refine h U e σ H B r p' Q rl hf ?_
  cases r with
  | v d => exact fun v H' B' r s' k' x => post v H' B' r s' k' (hR _ _ _ _ _ _ r.b x)
  | x c ns ds => exact post
theorem CE.b {t : TE} {f : FG D} (h : CE G pn E t f) : CB G pn E t f := CG.mono h fun U p H B w a b h => by
  exact Rz.b (e := ⟨[], p⟩) b h
/-! ### names, constants -/
def slotD (i : Nat) : FG D := fun e => match e.sl[i]? with
  | some (.d x) => some (.v x, e.pen)
  | _ => none
def slotB (i : Nat) : FG D := fun e => match e.sl[i]? with
  | some (.d x) => some (.v x, e.pen)
  | some (.o x) => some (.v x, e.pen)
  | _ => none
theorem ce_var (i : Nat) : CE G pn E (tVar i) (slotD i) := by
  intro U e σ H B r p' Q rl hf post
  unfold slotD at hf
  split at hf
  · next x hx =>
    cases hf
    obtain ⟨v, hv, rz⟩ := rl.get hx
    exact ⟨v, hv, post v H B rl (Same.refl _) Keep.refl rz⟩
  · cases hf
theorem cb_var (i : Nat) : CB G pn E (tVar i) (slotB i) := by
  intro U e σ H B r p' Q rl hf post
  unfold slotB at hf
  split at hf
  · next x hx =>
    cases hf
    obtain ⟨v, hv, rz⟩ := rl.get hx
    exact ⟨v, hv, post v H B rl (Same.refl _) Keep.refl (rz.b rl.b)⟩
  · next x hx =>
    cases hf
    obtain ⟨p, hv, ow, _, _, n⟩ := rl.getO hx
    exact ⟨_, hv, post _ H B rl (Same.refl _) Keep.refl (ow.rb n)⟩
  · cases hf
theorem ce_const {v : V} {d : D} (h : ∀ B, Rz G B v d) : CE G pn E (tC v) (retG d) := by
  intro U e σ H B r p' Q rl hf post
  cases hf
  exact post v H B rl (Same.refl _) Keep.refl (h B)
theorem ce_int {i : Int} : CE G pn E (tC (.int i)) (retG (.int i)) := ce_const fun _ => .int i
theorem ce_str {i : Str} : CE G pn E (tC (.str i)) (retG (.str i)) := ce_const fun _ => .str i
theorem ce_bl {i : Bool} : CE G pn E (tC (.bl i)) (retG (.bool i)) := ce_const fun _ => .bl i
theorem ce_non : CE G pn E (tC .non) (retG .none) := ce_const fun _ => .non
/-! ### operations by values -/
def OpB (G : Gm) (pn : Pn) (r : R2) (φ : D → D → Option D) : Prop := ∀ U e σ H B x y a b c (Q : VK), Rl G U pn e σ H B → RzB G pn B H x a → RzB G pn B H y b → φ a b = some c →
  (∀ v H' B', Rl G U pn e σ H' B' → Same B B' → Keep pn H H' → Rz G B' v c → Q v H') → r x y H Q
def UnB (G : Gm) (pn : Pn) (r : V → Hp → VK → Prop) (φ : D → Option D) : Prop := ∀ U e σ H B x a c (Q : VK), Rl G U pn e σ H B → RzB G pn B H x a → φ a = some c →
  (∀ v H' B', Rl G U pn e σ H' B' → Same B B' → Keep pn H H' → Rz G B' v c → Q v H') → r x H Q
def op2 (φ : D → D → Option D) (f g : FG D) : FG D := bindG f fun a => bindG g fun b => optG (φ a b)
def op1 (φ : D → Option D) (f : FG D) : FG D := bindG f fun a => optG (φ a)
theorem optG_eq {o : Option α} {e : Ev} {r : Rs α} {p' : PenS} (h : optG o e = some (r, p')) : ∃ a, o = some a ∧ r = .v a ∧ p' = e.pen := by
  unfold optG at h
  cases o with
  | none => cases h
  | some a => cases h; exact ⟨a, rfl, rfl, rfl⟩
/-- a value, then a second one, the first one kept -/
theorem CB.bind2 {t : TE} {u : TG_ W1} {k : V → W1 → L2.St → Hp → (W2 → Hp → Prop) → Prop} {f : FG D} {g : FG β} {h : D → β → FG γ} (h1 : CB G pn E t f) (h2 : CG G pn E R1 u g)
    (h3 : ∀ v w a b U e σ H B r p' Q, Rl G U pn e σ H B → RzB G pn B H v a → R1 B H w b → h a b e = some (r, p') → Post G U pn E S2 e σ H B p' Q r → k v w σ H Q) :
    CG G pn E S2 (fun σ H Q => t σ H fun v H1 => u σ H1 fun w H2 => k v w σ H2 Q) (bindG f fun a => bindG g fun b => h a b) := by
  refine CG.bind h1 fun v a U e σ H B r p' Q rl rz hf post => ?_
  unfold bindG at hf
  cases hge : g e with
  | none => rw [hge] at hf; cases hf
  | some rp =>
    obtain ⟨r1, q1⟩ := rp
    rw [hge] at hf
    cases r1 with
    | x c ns ds =>
      cases hf
      exact h2 U e σ H B _ _ _ rl hge post
    | v b => exact h2 U e σ H B _ _ _ rl hge fun w H1 B1 rl1 s1 k1 rw1 => h3 v w a b U ⟨e.sl, q1⟩ σ H1 B1 r p' Q rl1 (rz.keep k1 s1) rw1 hf (post.up s1 k1)
theorem ce_op {r : R2} {φ : D → D → Option D} {ta tb : TE} {f g : FG D} (hr : OpB G pn r φ) (h1 : CB G pn E ta f) (h2 : CB G pn E tb g) : CE G pn E (tOp r ta tb) (op2 φ f g) := by
  refine CB.bind2 h1 h2 fun v w a b U e σ H B r p' Q rl ra rb hf post => ?_
  obtain ⟨c, hc, rfl, rfl⟩ := optG_eq hf
  exact hr U e σ H B v w a b c Q rl ra rb hc post
theorem ce_un {r : V → Hp → VK → Prop} {φ : D → Option D} {ta : TE} {f : FG D} (hr : UnB G pn r φ) (h1 : CB G pn E ta f) : CE G pn E (tUn r ta) (op1 φ f) := by
  refine CG.bind (t := ta) h1 fun v a U e σ H B r p' Q rl ra hf post => ?_
  obtain ⟨c, hc, rfl, rfl⟩ := optG_eq hf
  exact hr U e σ H B v a c Q rl ra hc post
/-! ### tests -/
def boolD : D → Option Bool
  | .bool b => some b
  | _ => none
def testG (f : FG D) : FG Bool := bindG f fun d => optG (boolD d)
theorem boolD_eq {d : D} {b : Bool} (h : boolD d = some b) : d = .bool b := by
  cases d <;> cases h <;> rfl
theorem ct_test {t : TE} {f : FG D} (h : CE G pn E t f) : CT G pn E (tTest t) (testG f) := by
  refine CG.bind (t := t) h fun v a U e σ H B r p' Q rl ra hf post => ?_
  obtain ⟨c, hc, rfl, rfl⟩ := optG_eq hf
  cases boolD_eq hc
  exact ⟨c, ra.bl_inv, post c H B rl (Same.refl _) Keep.refl rfl⟩
theorem ct_B {t : TE} {f : FG D} (h : CE G pn E t f) : CT G pn E (tB t) (testG f) := by
  refine CG.bind (t := t) h fun v a U e σ H B r p' Q rl ra hf post => ?_
  obtain ⟨c, hc, rfl, rfl⟩ := optG_eq hf
  cases boolD_eq hc
  exact ⟨c, ra.bl_inv, post c H B rl (Same.refl _) Keep.refl rfl⟩
def andG (f g : FG Bool) : FG Bool := bindG f fun b => if b = true then g else retG false
def orG (f g : FG Bool) : FG Bool := bindG f fun b => if b = true then retG true else g
def notG (f : FG Bool) : FG Bool := bindG f fun b => retG (!b)
theorem ct_and {t u : TT} {f g : FG Bool} (h1 : CT G pn E t f) (h2 : CT G pn E u g) : CT G pn E (tAnd t u) (andG f g) := by
  refine CG.bind (t := t) h1 fun v a U e σ H B r p' Q rl ra hf post => ?_
  cases ra
  cases v with
  | true => exact h2 U e σ H B r p' Q rl hf post
  | false => cases hf; exact post false H B rl (Same.refl _) Keep.refl rfl
theorem ct_or {t u : TT} {f g : FG Bool} (h1 : CT G pn E t f) (h2 : CT G pn E u g) : CT G pn E (tOr t u) (orG f g) := by
  refine CG.bind (t := t) h1 fun v a U e σ H B r p' Q rl ra hf post => ?_
  cases ra
  cases v with
  | true => cases hf; exact post true H B rl (Same.refl _) Keep.refl rfl
  | false => exact h2 U e σ H B r p' Q rl hf post
theorem ct_not {t : TT} {f : FG Bool} (h1 : CT G pn E t f) : CT G pn E (tNot t) (notG f) := by
  refine CG.bind (t := t) h1 fun v a U e σ H B r p' Q rl ra hf post => ?_
  cases ra
  cases hf
  exact post (!v) H B rl (Same.refl _) Keep.refl rfl
theorem ct_yes : CT G pn E tYes (retG true) := by
  intro U e σ H B r p' Q rl hf post
  cases hf
  exact post true H B rl (Same.refl _) Keep.refl rfl
def andV (f g : FG D) : FG D := bindG f fun d => bindG (optG (boolD d)) fun b => if b = true then g else retG (.bool false)
def orV (f g : FG D) : FG D := bindG f fun d => bindG (optG (boolD d)) fun b => if b = true then retG (.bool true) else g
def notV (f : FG D) : FG D := bindG f fun d => bindG (optG (boolD d)) fun b => retG (.bool (!b))
theorem bindOpt {o : Option α} {g : α → FG β} {e : Ev} {r : Rs β} {p' : PenS} (h : bindG (optG o) g e = some (r, p')) : ∃ a, o = some a ∧ g a e = some (r, p') := by
  unfold bindG optG at h
  cases o with
  | none => cases h
  | some a => exact ⟨a, rfl, h⟩
theorem ce_and {t u : TE} {f g : FG D} (h1 : CE G pn E t f) (h2 : CE G pn E u g) : CE G pn E (tAndV t u) (andV f g) := by
  refine CG.bind (t := t) h1 fun v a U e σ H B r p' Q rl ra hf post => ?_
  obtain ⟨b, hb, hf⟩ := bindOpt hf
  cases boolD_eq hb
  refine ⟨b, ra.bl_inv, ?_⟩
  cases b with
  | true => exact h2 U e σ H B r p' Q rl hf post
  | false => cases hf; exact post _ H B rl (Same.refl _) Keep.refl (.bl false)
theorem ce_or {t u : TE} {f g : FG D} (h1 : CE G pn E t f) (h2 : CE G pn E u g) : CE G pn E (tOrV t u) (orV f g) := by
  refine CG.bind (t := t) h1 fun v a U e σ H B r p' Q rl ra hf post => ?_
  obtain ⟨b, hb, hf⟩ := bindOpt hf
  cases boolD_eq hb
  refine ⟨b, ra.bl_inv, ?_⟩
  cases b with
  | true => cases hf; exact post _ H B rl (Same.refl _) Keep.refl (.bl true)
  | false => exact h2 U e σ H B r p' Q rl hf post
theorem ce_not {t : TE} {f : FG D} (h1 : CE G pn E t f) : CE G pn E (tNotV t) (notV f) := by
  refine CG.bind (t := t) h1 fun v a U e σ H B r p' Q rl ra hf post => ?_
  obtain ⟨b, hb, hf⟩ := bindOpt hf
  cases boolD_eq hb
  cases hf
  exact ⟨b, ra.bl_inv, post _ H B rl (Same.refl _) Keep.refl (.bl _)⟩
def ifG (c : FG Bool) (f g : FG D) : FG D := bindG c fun b => if b = true then f else g
theorem ce_if {c : TT} {t u : TE} {fc : FG Bool} {f g : FG D} (hc : CT G pn E c fc) (h1 : CE G pn E t f) (h2 : CE G pn E u g) : CE G pn E (tIf c t u) (ifG fc f g) := by
  refine CG.bind (t := c) hc fun v a U e σ H B r p' Q rl ra hf post => ?_
  cases ra
  cases v with
  | true => exact h1 U e σ H B r p' Q rl hf post
  | false => exact h2 U e σ H B r p' Q rl hf post
/-- a op b op c -/
def chainG (φ ψ : D → D → Option D) (f g h : FG D) : FG D := bindG f fun a => bindG g fun b => bindG (optG ((φ a b).bind boolD)) fun k => if k = true then bindG h fun c => optG (ψ b c) else retG (.bool false)
theorem ce_chain {r r' : R2} {φ ψ : D → D → Option D} {ta tb tc : TE} {f g h : FG D} (hr : OpB G pn r φ) (hr' : OpB G pn r' ψ) (h1 : CE G pn E ta f) (h2 : CE G pn E tb g) (h3 : CE G pn E tc h) : CE G pn E (tChain r r' ta tb tc) (chainG φ ψ f g h) := by
  refine CB.bind2 h1.b h2.b fun v w a b U e σ H B r p' Q rl ra rb hf post => ?_
  obtain ⟨k, hk, hf⟩ := bindOpt hf
  cases hab : φ a b with
  | none => rw [hab] at hk; cases hk
  | some z =>
    rw [hab] at hk
    cases boolD_eq hk
    refine hr U e σ H B v w a b _ _ rl ra rb hab fun x H1 B1 rl1 s1 k1 rz => ⟨k, rz.bl_inv, ?_⟩
    cases k with
    | true =>
      rw [if_pos rfl]
      have hf : bindG h (fun c => optG (ψ b c)) e = some (r, p') := hf
      unfold bindG at hf
      cases hge : h e with
      | none => rw [hge] at hf; cases hf
      | some rp =>
        obtain ⟨r1, q1⟩ := rp
        rw [hge] at hf
        cases r1 with
        | x c ns ds =>
          cases hf
          exact h3 U e σ H1 B1 _ _ _ rl1 hge (post.up s1 k1 (q := e.pen))
        | v c =>
          refine h3 U e σ H1 B1 _ _ _ rl1 hge fun y H2 B2 rl2 s2 k2 rc => ?_
          obtain ⟨c', hc, rfl, rfl⟩ := optG_eq hf
          refine hr' U ⟨e.sl, _⟩ σ H2 B2 w y b c c' Q rl2 (rb.keep (k1.trans k2) (s1.trans s2)) (rc.b rl2.b) hc fun z H3 B3 rl3 s3 k3 rz3 => post z H3 B3 rl3 ((s1.trans s2).trans s3) ((k1.trans k2).trans k3) rz3
    | false =>
      rw [if_neg (by simp)]
      cases hf
      exact post _ H1 B1 rl1 s1 k1 (.bl false)
/-! ### argument lists, tuples -/
def consG (f : FG D) (g : FG (List D)) : FG (List D) := bindG f fun a => bindG g fun as => retG (a :: as)
theorem ca_nil : CA G pn E tNil (retG []) := by
  intro U e σ H B r p' Q rl hf post
  cases hf
  exact post [] H B rl (Same.refl _) Keep.refl .nil
theorem ca_cons {t : TE} {u : TA} {f : FG D} {g : FG (List D)} (h1 : CE G pn E t f) (h2 : CA G pn E u g) : CA G pn E (tCons t u) (consG f g) := by
  intro U e σ H B r p' Q rl hf post
  unfold consG bindG at hf
  cases hfe : f e with
  | none => rw [hfe] at hf; cases hf
  | some rp =>
    obtain ⟨r1, q1⟩ := rp
    rw [hfe] at hf
    cases r1 with
    | x c ns ds => cases hf; exact h1 U e σ H B _ _ _ rl hfe post
    | v a =>
      refine h1 U e σ H B _ _ _ rl hfe fun w H1 B1 rl1 s1 k1 rw1 => ?_
      dsimp only at hf
      cases hge : g ⟨e.sl, q1⟩ with
      | none => rw [hge] at hf; cases hf
      | some rp2 =>
        obtain ⟨r2, q2⟩ := rp2
        rw [hge] at hf
        cases r2 with
        | x c ns ds => cases hf; exact h2 U ⟨e.sl, q1⟩ σ H1 B1 _ _ _ rl1 hge (post.up s1 k1)
        | v as =>
          cases hf
          exact h2 U ⟨e.sl, q1⟩ σ H1 B1 _ _ _ rl1 hge fun ws H2 B2 rl2 s2 k2 rws => post (w :: ws) H2 B2 rl2 (s1.trans s2) (k1.trans k2) (.cons (rw1.same s2) rws)
theorem line_of {n : Nat} (h : n ≤ 1000000) : n ≤ sizeLine := Nat.le_trans h (by decide)
theorem line_lt {n : Nat} (h : n ≤ 1000000) : n < sizeLine := Nat.lt_of_le_of_lt h (by decide)
/-- as many as a list may have here -/
def few (ds : List α) (x : β) : Option β := if ds.length ≤ 1000000 then some x else none
theorem few_eq {ds : List α} {x y : β} (h : few ds x = some y) : ds.length ≤ 1000000 ∧ x = y := by
  unfold few at h
  split at h
  · next z => cases h; exact ⟨z, rfl⟩
  · cases h
def tupG (f : FG (List D)) : FG D := bindG f fun ds => optG (few ds (.tuple ds))
theorem ce_tup {t : TA} {f : FG (List D)} (h : CA G pn E t f) : CE G pn E (tTup t) (tupG f) := by
  refine CG.bind (t := t) h fun vs ds U e σ H B r p' Q rl ra hf post => ?_
  obtain ⟨c, hc, rfl, rfl⟩ := optG_eq hf
  obtain ⟨hl, rfl⟩ := few_eq hc
  refine ⟨line_of (by rw [ra.length]; exact hl), fun p hp => ?_⟩
  exact post _ _ _ (rl.new hp) (same_upd (rl.b.bh.free hp)) (Keep.of (same_upd hp)) (.tup upd_same (ra.same (same_upd (rl.b.bh.free hp))))
/-! ### new lists and dicts: not yet data, or made data at once -/
def PostF (G : Gm) (U : Hp) (pn : Pn) (E : XK) (e : Ev) (σ : L2.St) (H B : Hp) (p' : PenS) (Q : VK) : Rs D → Prop
  | .v d => ∀ p H' B', Fresh G U pn ⟨e.sl, p'⟩ σ H' B' p d → Same B B' → Keep pn H H' → Q (.ref p) H'
  | .x c ns ds => ∀ cls ao H' B', Base U pn p' H' B' → Same B B' → XAt G B' H' cls ao c ns ds → E cls ao H'
def CF (G : Gm) (pn : Pn) (E : XK) (t : TE) (f : FG D) : Prop :=
  ∀ U e σ H B r p' Q, Rl G U pn e σ H B → f e = some (r, p') → PostF G U pn E e σ H B p' Q r → t σ H Q
theorem CF.ce {t : TE} {f : FG D} (h : CF G pn E t f) : CE G pn E t f := by
  intro U e σ H B r p' Q rl hf post
  refine h U e σ H B r p' Q rl hf ?_
  cases r with
  | v d =>
    intro p H' B' fr s k
    obtain ⟨B2, rl2, s2, rz⟩ := fr.data
    exact post _ H' B2 rl2 (s.trans s2) k rz
  | x c ns ds => exact post
theorem CF.b {t : TE} {f : FG D} (h : CF G pn E t f) : CB G pn E t f := (CF.ce h).b
theorem Slots.notin {H B : Hp} {σ : L2.St} {ρ : List Slot} {os : List Addr} {p : Addr} (s : Slots G pn B H σ ρ os) (h : H p = none) : p ∉ os := fun z => by
  obtain ⟨o, ho⟩ := s.there z
  rw [h] at ho
  cases ho
/-- what is laid anew -/
theorem Rl.fresh (r : Rl G U pn e σ H B) {p : Addr} {o : HO} {x : D} (h : H p = none) (ow : OwnAt G B (upd H p o) p x) : Fresh G U pn e σ (upd H p o) B p x := by
  have tb := r.b.tabN (o := o) (o2 := o) h (.inl rfl) (.inl rfl)
  have npn := r.b.npN h
  obtain ⟨⟨bh, uh, bu, pe⟩, os, s, n, f⟩ := r
  have hB : B p = none := bh.free h
  have hU : U p = none := uh.free h
  refine ⟨⟨bh.trans (same_upd h), uh.trans (same_upd h), bu, fun q hq => ?_, tb⟩, ⟨os, s.grow (Same.refl _) (fun q hq => ?_), n, f, s.notin h⟩, ow, hB, hU, npn⟩
  · obtain ⟨h1, h2, h3, h4⟩ := pe q hq
    have nq : q.1 ≠ p := fun z => by rw [← z, h3] at h; cases h
    exact ⟨h1, h2, (upd_ne nq).trans h3, h4⟩
  · exact upd_ne fun z => (s.notin h) (z ▸ hq)
def lstG (f : FG (List D)) : FG D := bindG f fun ds => optG (few ds (.list ds))
theorem bind_inv {f : FG α} {g : α → FG β} {e : Ev} {r : Rs β} {p' : PenS} (h : bindG f g e = some (r, p')) :
    (∃ c ns ds, f e = some (.x c ns ds, p') ∧ r = .x c ns ds) ∨ ∃ a q, f e = some (.v a, q) ∧ g a ⟨e.sl, q⟩ = some (r, p') := by
  unfold bindG at h
  split at h
  · cases h
  · next c ns ds p hx => cases h; exact .inl ⟨_, _, _, hx, rfl⟩
  · next a p hx => exact .inr ⟨_, _, hx, h⟩
theorem CF.bind {t : TG_ W} {k : W → L2.St → Hp → VK → Prop} {f : FG α} {g : α → FG D} (h1 : CG G pn E R t f)
    (h2 : ∀ w a U e σ H B r p' Q, Rl G U pn e σ H B → R B H w a → g a e = some (r, p') → PostF G U pn E e σ H B p' Q r → k w σ H Q) :
    CF G pn E (fun σ H Q => t σ H fun w H1 => k w σ H1 Q) (bindG f g) := by
  intro U e σ H B r p' Q rl hf post
  rcases bind_inv hf with ⟨c, ns, ds, hx, rfl⟩ | ⟨a, q, hx, hg⟩
  · exact h1 U e σ H B _ _ _ rl hx post
  · refine h1 U e σ H B _ _ _ rl hx fun w H1 B1 rl1 s1 k1 rw1 => h2 w a U ⟨e.sl, q⟩ σ H1 B1 r p' Q rl1 rw1 hg ?_
    cases r with
    | v d => exact fun p H' B' fr s k => post p H' B' fr (s1.trans s) (k1.trans k)
    | x c ns ds => exact fun cls ao H' B' b s x => post cls ao H' B' b (s1.trans s) x
theorem cf_lst {t : TA} {f : FG (List D)} (h : CA G pn E t f) : CF G pn E (tLst t) (lstG f) := by
  refine CF.bind (t := t) h fun vs ds U e σ H B r p' Q rl ra hf post => ?_
  obtain ⟨c, hc, rfl, rfl⟩ := optG_eq hf
  obtain ⟨hl, rfl⟩ := few_eq hc
  exact ⟨line_of (by rw [ra.length]; exact hl), fun p hp => post p _ B (rl.fresh hp (.lst upd_same ra)) (Same.refl _) (Keep.of (same_upd hp))⟩
theorem cf_dnewK : CF G pn E tDNewK (retG (.dict [])) := by
  intro U e σ H B r p' Q rl hf post
  cases hf
  exact fun p hp => post p _ B (rl.fresh hp (.dk (ks := []) (ds := []) upd_same .nil)) (Same.refl _) (Keep.of (same_upd hp))
theorem cf_dnewT : CF G pn E tDNewT (retG (.dict [])) := by
  intro U e σ H B r p' Q rl hf post
  cases hf
  exact fun p hp => post p _ B (rl.fresh hp (.dt (ks := []) (ds := []) upd_same .nil)) (Same.refl _) (Keep.of (same_upd hp))
/-! ### calls of built-ins by values -/
def CbB (G : Gm) (pn : Pn) (r : List V → Hp → VK → Prop) (φ : List D → Option D) : Prop := ∀ U e σ H B xs as c (Q : VK), Rl G U pn e σ H B → RzA G B xs as → φ as = some c →
  (∀ v H' B', Rl G U pn e σ H' B' → Same B B' → Keep pn H H' → Rz G B' v c → Q v H') → r xs H Q
def Cb1 (G : Gm) (pn : Pn) (r : List V → Hp → VK → Prop) (φ : D → Option D) : Prop := ∀ U e σ H B x a c (Q : VK), Rl G U pn e σ H B → RzB G pn B H x a → φ a = some c →
  (∀ v H' B', Rl G U pn e σ H' B' → Same B B' → Keep pn H H' → Rz G B' v c → Q v H') → r [x] H Q
def Cf1 (G : Gm) (pn : Pn) (r : List V → Hp → VK → Prop) (φ : D → Option D) : Prop := ∀ U e σ H B x a c (Q : VK), Rl G U pn e σ H B → RzB G pn B H x a → φ a = some c →
  (∀ p H' B', Fresh G U pn e σ H' B' p c → Same B B' → Keep pn H H' → Q (.ref p) H') → r [x] H Q
def cbG (φ : List D → Option D) (f : FG (List D)) : FG D := bindG f fun as => optG (φ as)
theorem ce_cb {r : List V → Hp → VK → Prop} {φ : List D → Option D} {t : TA} {f : FG (List D)} (hr : CbB G pn r φ) (h : CA G pn E t f) : CE G pn E (tCB r t) (cbG φ f) := by
  refine CG.bind (t := t) h fun vs ds U e σ H B r p' Q rl ra hf post => ?_
  obtain ⟨c, hc, rfl, rfl⟩ := optG_eq hf
  exact hr U e σ H B vs ds c Q rl ra hc post
theorem ce_cb1 {r : List V → Hp → VK → Prop} {φ : D → Option D} {t : TE} {f : FG D} (hr : Cb1 G pn r φ) (h : CB G pn E t f) : CE G pn E (tCB r (tCons t tNil)) (op1 φ f) := by
  refine CG.bind (t := t) h fun vs ds U e σ H B r p' Q rl ra hf post => ?_
  obtain ⟨c, hc, rfl, rfl⟩ := optG_eq hf
  exact hr U e σ H B vs ds c Q rl ra hc post
theorem cf_cb1 {r : List V → Hp → VK → Prop} {φ : D → Option D} {t : TE} {f : FG D} (hr : Cf1 G pn r φ) (h : CB G pn E t f) : CF G pn E (tCB r (tCons t tNil)) (op1 φ f) := by
  refine CF.bind (t := t) h fun vs ds U e σ H B r p' Q rl ra hf post => ?_
  obtain ⟨c, hc, rfl, rfl⟩ := optG_eq hf
  exact hr U e σ H B vs ds c Q rl ra hc post
end
end Fw

set_option linter.all false
set_option maxRecDepth 100000
set_option maxHeartbeats 4000000
namespace Fw
open PySem PySem.Spec PyProof.Rows L2
section
variable {X : Cx}
/-! ### operators, all kinds of operands in one rule -/
def uAdd (K : PySem.W.Frag) : R2 := fun x y H Q => (rI0 (fun i j => .int (i + j)) x y H Q ∨ (∃ i j, x = .str i ∧ y = .str j ∧ i.length + j.length ≤ sizeLine ∧ Q (.str (i ++ j)) H)) ∨ (rCat x y H Q ∨ rCatA K x y H Q)
theorem o_add : OpR X (binaryOp .Add) (uAdd X.K) := OpR.or (OpR.or op_add op_add_str) (OpR.or op_cat op_catA)
def uMul : R2 := fun x y H Q => rI CMul (fun i j => .int (i * j)) x y H Q ∨ rRep x y H Q
theorem o_mul : OpR X (binaryOp .Mult) uMul := OpR.or op_mul op_rep
def uSub : R2 := rI0 fun i j => .int (i - j)
theorem o_sub : OpR X (binaryOp .Sub) uSub := op_sub
def uMod : R2 := rI (fun _ j => j ≠ 0) fun i j => .int (i.fmod j)
theorem o_mod : OpR X (binaryOp .Mod) uMod := op_modN
def uDiv : R2 := rI CDivN fun i j => .int (i.fdiv j)
theorem o_div : OpR X (binaryOp .FloorDiv) uDiv := op_fdivN
def uAnd : R2 := rI0 fun i j => .int (Builtin.bitAnd i j)
theorem o_and : OpR X (binaryOp .BitAnd) uAnd := op_and
def uOr : R2 := rI0 fun i j => .int (Builtin.bitOr i j)
theorem o_or : OpR X (binaryOp .BitOr) uOr := op_or
def uXor : R2 := rI0 fun i j => .int (Builtin.bitXor i j)
theorem o_xor : OpR X (binaryOp .BitXor) uXor := op_xor
def uLt : R2 := rI0 fun i j => .bl (decide (i < j))
theorem o_lt : OpR X (compareOp .Lt) uLt := op_lt
def uLe : R2 := rI0 fun i j => .bl (decide (i ≤ j))
theorem o_le : OpR X (compareOp .LtE) uLe := op_le
def uGt : R2 := rI0 fun i j => .bl (decide (j < i))
theorem o_gt : OpR X (compareOp .Gt) uGt := op_gt
def uGe : R2 := rI0 fun i j => .bl (decide (j ≤ i))
theorem o_ge : OpR X (compareOp .GtE) uGe := op_ge
theorem o_eq (hu : X.A.units + 64 < cLine) : OpR X (compareOp .Eq) (rEqD X.K) := op_eqD hu
theorem o_ne (hu : X.A.units + 64 < cLine) : OpR X (compareOp .NotEq) (rNeD X.K) := op_neD hu
def uIsN : R2 := fun x y H Q => y = .non ∧ Q (.bl (decide (x = .non))) H
theorem o_isN : OpR X (compareOp .Is) uIsN := op_isN
def uNotN : R2 := fun x y H Q => y = .non ∧ Q (.bl (!decide (x = .non))) H
theorem o_notN : OpR X (compareOp .IsNot) uNotN := op_notN
/-! x in t, t a tuple -/
def rInTD (K : PySem.W.Frag) : R2 := fun x y H Q => ∃ d ds, Dp K H x d ∧ Dp K H y (.tuple ds) ∧ SeqAt.shaped d = true ∧ SeqAt.shaped (.tuple ds) = true ∧ Q (.bl (ds.any fun z => PyData.eqv z d)) H
def rNotInTD (K : PySem.W.Frag) : R2 := fun x y H Q => ∃ d ds, Dp K H x d ∧ Dp K H y (.tuple ds) ∧ SeqAt.shaped d = true ∧ SeqAt.shaped (.tuple ds) = true ∧ Q (.bl (!ds.any fun z => PyData.eqv z d)) H
theorem op_inTD (hu : X.A.units + 65 < cLine) : OpR X (compareOp .In) (rInTD X.K) := by
  intro pins s σ H x y v u Q I rx ry h
  obtain ⟨d, ds, hd, he, sd, se, q⟩ := h
  obtain ⟨as, r1⟩ := Dp.reads I d x v hd rx
  obtain ⟨bs, r2⟩ := Dp.reads I (.tuple ds) y u he ry
  exact SeqAt.in_tuple_reads r2 r1 (SeqAt.canLay_of_shaped se) (SeqAt.canLay_of_shaped sd) (room_in_shaped sd hu) ⟨.bl _, H, I, rfl, q⟩
theorem op_notInTD (hu : X.A.units + 65 < cLine) : OpR X (compareOp .NotIn) (rNotInTD X.K) := by
  intro pins s σ H x y v u Q I rx ry h
  obtain ⟨d, ds, hd, he, sd, se, q⟩ := h
  obtain ⟨as, r1⟩ := Dp.reads I d x v hd rx
  obtain ⟨bs, r2⟩ := Dp.reads I (.tuple ds) y u he ry
  exact SeqAt.notIn_tuple_reads r2 r1 (SeqAt.canLay_of_shaped se) (SeqAt.canLay_of_shaped sd) (room_in_shaped sd hu) ⟨.bl _, H, I, rfl, q⟩
def uIn (K : PySem.W.Frag) : R2 := fun x y H Q => rInD K x y H Q ∨ rInTD K x y H Q
def uNotIn (K : PySem.W.Frag) : R2 := fun x y H Q => rNotInD K x y H Q ∨ rNotInTD K x y H Q
theorem o_in (hu : X.A.units + 65 < cLine) : OpR X (compareOp .In) (uIn X.K) := OpR.or (op_inD hu) (op_inTD hu)
theorem o_notIn (hu : X.A.units + 65 < cLine) : OpR X (compareOp .NotIn) (uNotIn X.K) := OpR.or (op_notInD hu) (op_notInTD hu)
def uIx (K : PySem.W.Frag) : R2 := fun x y H Q => rIxL K x y H Q ∨ rIxT K x y H Q
theorem o_ix : IxR X (uIx X.K) := IxR.or ix_list ix_tup
def uSl (K : PySem.W.Frag) : V → Option Int → Option Int → Hp → VK → Prop := fun x lo hi H Q => rSlL K x lo hi H Q ∨ rSlA K x lo hi H Q
theorem o_sl : SlR X (uSl X.K) := SlR.or sl_list sl_tupA
def uNeg : V → Hp → VK → Prop := rU fun i => .int (-i)
theorem o_neg : UnR X (unaryOp .USub) uNeg := un_neg
/-! ### calls of built-ins -/
theorem CallR.or {f : Value} {r r' : List V → Hp → VK → Prop} (h : CallR X f r) (h' : CallR X f r') : CallR X f (fun xs H Q => r xs H Q ∨ r' xs H Q) := by
  intro pins s σ H xs us Q I rv q
  rcases q with q | q
  · exact h pins s σ H xs us Q I rv q
  · exact h' pins s σ H xs us Q I rv q
def uLen (K : PySem.W.Frag) : List V → Hp → VK → Prop := fun xs H Q => ∃ x n, xs = [x] ∧ LenV K x H n ∧ Q (.int n) H
theorem c_len : CallR X (.builtin "len") (uLen X.K) := call_len
def uLst (K : PySem.W.Frag) : List V → Hp → VK → Prop := fun xs H Q => ∃ p ys, xs = [V.ref p] ∧ (SqL K H p ys ∨ SqT K H p ys) ∧ ∀ l, H l = none → Q (.ref l) (upd H l (.lst ys))
theorem c_list : CallR X (.type "list") (uLst X.K) := call_list_of
def uTup (K : PySem.W.Frag) : List V → Hp → VK → Prop := fun xs H Q => ∃ p ys, xs = [V.ref p] ∧ ((SqL K H p ys ∧ ∀ l, H l = none → Q (.ref l) (upd H l (.tup ys))) ∨ (SqT K H p ys ∧ Q (.ref p) H))
theorem c_tuple : CallR X (.type "tuple") (uTup X.K) := call_tuple_of
def uInt : List V → Hp → VK → Prop := fun xs H Q => (∃ i, xs = [.int i] ∧ Q (.int i) H) ∨ ∃ k, xs = [.bl k] ∧ Q (.int (if k then 1 else 0)) H
theorem c_int : CallR X (.type "int") uInt := call_int1
def uAbs : List V → Hp → VK → Prop := fun xs H Q => ∃ i, xs = [.int i] ∧ Q (.int (if i < 0 then -i else i)) H
theorem c_abs : CallR X (.builtin "abs") uAbs := call_abs
theorem c_max (hc : X.calm = true) : CallR X (.builtin "max") (rMax X.K) := cr_max hc
theorem c_min (hc : X.calm = true) : CallR X (.builtin "min") (rMin X.K) := cr_min hc
theorem c_all (hc : X.calm = true) : CallR X (.builtin "all") (rAll X.K) := cr_all hc
theorem c_any (hc : X.calm = true) : CallR X (.builtin "any") (rAny X.K) := cr_any hc
end
/-! ### what they tell of data -/
def small (i : Int) : Bool := decide (-(2 ^ 64) < i) && decide (i < 2 ^ 64)
def dAdd : D → D → Option D
  | .int i, .int j => some (.int (i + j))
  | .str a, .str b => if a.length + b.length ≤ 1000000 then some (.str (a ++ b)) else none
  | .list a, .list b => few (a ++ b) (.list (a ++ b))
  | .tuple a, .tuple b => few (a ++ b) (.tuple (a ++ b))
  | _, _ => none
def dMul : D → D → Option D
  | .int i, .int j => if small i || small j then some (.int (i * j)) else none
  | .list a, .int k => if k ≤ 100000 ∧ a.length * k.toNat ≤ 1000000 ∧ -100000 ≤ k then some (.list (List.replicate k.toNat a).flatten) else none
  | _, _ => none
def dI (f : Int → Int → Int) : D → D → Option D
  | .int i, .int j => some (.int (f i j))
  | _, _ => none
def dB (f : Int → Int → Bool) : D → D → Option D
  | .int i, .int j => some (.bool (f i j))
  | _, _ => none
def dMod : D → D → Option D
  | .int i, .int j => if j ≠ 0 then some (.int (i.fmod j)) else none
  | _, _ => none
def dDiv : D → D → Option D
  | .int i, .int j => if j ≠ 0 ∧ j.natAbs < 1073741824 then some (.int (i.fdiv j)) else none
  | _, _ => none
def okD (d : D) : Bool := plain (nrm d) && SeqAt.shaped (nrm d)
def dEq (a b : D) : Option D := if okD a = true ∧ okD b = true then some (.bool (PyData.eqv (nrm a) (nrm b))) else none
def dNe (a b : D) : Option D := if okD a = true ∧ okD b = true then some (.bool (!PyData.eqv (nrm a) (nrm b))) else none
def dIn : D → D → Option D
  | a, .list ds => if okD a = true ∧ okD (.list ds) = true then some (.bool ((nrmA ds).any fun z => PyData.eqv z (nrm a))) else none
  | a, .tuple ds => if okD a = true ∧ okD (.tuple ds) = true then some (.bool ((nrmA ds).any fun z => PyData.eqv z (nrm a))) else none
  | a, .dict [(.bool false, .tuple ds)] => if okD a = true ∧ okD (.tuple ds) = true then some (.bool ((nrmA ds).any fun z => PyData.eqv z (nrm a))) else none
  | _, _ => none
def negD : Option D → Option D
  | some (.bool b) => some (.bool (!b))
  | _ => none
def dNotIn (a b : D) : Option D := negD (dIn a b)
def isNone : D → Bool
  | .none => true
  | _ => false
def dIsN : D → D → Option D
  | a, .none => some (.bool (isNone a))
  | _, _ => none
def dNotN : D → D → Option D
  | a, .none => some (.bool (!isNone a))
  | _, _ => none
def dIx : D → D → Option D
  | .list a, .int i => atI a i
  | .tuple a, .int i => atI a i
  | .dict [(.bool false, .tuple a)], .int i => atI a i
  | _, _ => none
def cutD (xs : List D) (lo hi : Option Int) : List D := (xs.drop (HT.sIx xs.length 0 lo)).take (HT.sIx xs.length xs.length hi - HT.sIx xs.length 0 lo)
def dSl (lo hi : Option Int) : D → Option D
  | .list a => some (.list (cutD a lo hi))
  | .tuple a => some (.tuple (cutD a lo hi))
  | _ => none
def dNeg : D → Option D
  | .int i => some (.int (-i))
  | _ => none
def dLen : D → Option D
  | .list a => some (.int a.length)
  | .tuple a => some (.int a.length)
  | .dict [(.bool false, .tuple a)] => some (.int a.length)
  | .str s => if s.length ≤ 1000000 then some (.int s.length) else none
  | _ => none
def dLst : D → Option D
  | .list a => some (.list a)
  | .tuple a => some (.list a)
  | _ => none
def dTup : D → Option D
  | .list a => some (.tuple a)
  | .tuple a => some (.tuple a)
  | _ => none
def dInt : D → Option D
  | .int i => some (.int i)
  | .bool b => some (.int (if b then 1 else 0))
  | _ => none
def dAbs : D → Option D
  | .int i => some (.int (if i < 0 then -i else i))
  | _ => none
def intsD : List D → Option (List Int)
  | [] => some []
  | .int i :: r => (intsD r).map (i :: ·)
  | _ => none
def boolsD : List D → Option (List Bool)
  | [] => some []
  | .bool i :: r => (boolsD r).map (i :: ·)
  | _ => none
def maxI : List Int → Option Int
  | [] => none
  | i :: r => match maxI r with
    | none => some i
    | some m => some (if i < m then m else i)
def minI : List Int → Option Int
  | [] => none
  | i :: r => match minI r with
    | none => some i
    | some m => some (if m < i then m else i)
def dMax : D → Option D
  | .list a => (intsD a).bind fun is => (maxI is).map .int
  | _ => none
def dMin : D → Option D
  | .list a => (intsD a).bind fun is => (minI is).map .int
  | _ => none
def dAll : D → Option D
  | .list a => (boolsD a).map fun bs => .bool (bs.all id)
  | _ => none
def dAny : D → Option D
  | .list a => (boolsD a).map fun bs => .bool (bs.any id)
  | _ => none
section
variable {G : Gm} {pn : Pn}
theorem RzA.ints_inv {B : Hp} : ∀ {vs : List V} {ds : List D} {is : List Int}, RzA G B vs ds → intsD ds = some is → vs = is.map V.int
  | _, _, _, .nil, h => by cases h; rfl
  | _, _, _, .cons (d := d) hd t, h => by
    cases d with
    | int i =>
      simp only [intsD] at h
      cases hr : intsD _ with
      | none => rw [hr] at h; cases h
      | some is =>
        rw [hr] at h; cases h
        rw [RzA.ints_inv t hr, hd.int_inv]; rfl
    | _ => cases h
theorem RzA.bools_inv {B : Hp} : ∀ {vs : List V} {ds : List D} {is : List Bool}, RzA G B vs ds → boolsD ds = some is → vs = is.map V.bl
  | _, _, _, .nil, h => by cases h; rfl
  | _, _, _, .cons (d := d) hd t, h => by
    cases d with
    | bool i =>
      simp only [boolsD] at h
      cases hr : boolsD _ with
      | none => rw [hr] at h; cases h
      | some is =>
        rw [hr] at h; cases h
        rw [RzA.bools_inv t hr, hd.bl_inv]; rfl
    | _ => cases h
theorem maxI_spec : ∀ {is : List Int} {m x : Int}, maxI is = some m → x ∈ is → (∀ y ∈ is, y ≤ x) → x = m
  | [], _, _, h, _, _ => by cases h
  | i :: r, m, x, h, hx, hy => by
    simp only [maxI] at h
    cases hr : maxI r with
    | none =>
      rw [hr] at h; cases h
      cases r with
      | nil => simpa using hx
      | cons a t => simp only [maxI] at hr; split at hr <;> cases hr
    | some k =>
      rw [hr] at h; cases h
      have e1 := hy i (.head _)
      have hk : k ∈ r ∧ ∀ y ∈ r, y ≤ k := by
        clear hx hy e1
        induction r generalizing k with
        | nil => cases hr
        | cons a t ih =>
          simp only [maxI] at hr
          cases ht : maxI t with
          | none =>
            rw [ht] at hr; cases hr
            cases t with
            | nil => simp
            | cons b u => simp only [maxI] at ht; split at ht <;> cases ht
          | some j =>
            rw [ht] at hr; cases hr
            obtain ⟨h1, h2⟩ := ih j ht
            split
            · refine ⟨.tail _ h1, fun y hy => ?_⟩
              rcases List.mem_cons.mp hy with z | z
              · omega
              · exact h2 y z
            · refine ⟨.head _, fun y hy => ?_⟩
              rcases List.mem_cons.mp hy with z | z
              · omega
              · have := h2 y z; omega
      have e2 := hy k (.tail _ hk.1)
      rcases List.mem_cons.mp hx with z | z
      · split <;> omega
      · have := hk.2 x z
        split <;> omega
theorem minI_spec : ∀ {is : List Int} {m x : Int}, minI is = some m → x ∈ is → (∀ y ∈ is, x ≤ y) → x = m
  | [], _, _, h, _, _ => by cases h
  | i :: r, m, x, h, hx, hy => by
    simp only [minI] at h
    cases hr : minI r with
    | none =>
      rw [hr] at h; cases h
      cases r with
      | nil => simpa using hx
      | cons a t => simp only [minI] at hr; split at hr <;> cases hr
    | some k =>
      rw [hr] at h; cases h
      have e1 := hy i (.head _)
      have hk : k ∈ r ∧ ∀ y ∈ r, k ≤ y := by
        clear hx hy e1
        induction r generalizing k with
        | nil => cases hr
        | cons a t ih =>
          simp only [minI] at hr
          cases ht : minI t with
          | none =>
            rw [ht] at hr; cases hr
            cases t with
            | nil => simp
            | cons b u => simp only [minI] at ht; split at ht <;> cases ht
          | some j =>
            rw [ht] at hr; cases hr
            obtain ⟨h1, h2⟩ := ih j ht
            split
            · refine ⟨.tail _ h1, fun y hy => ?_⟩
              rcases List.mem_cons.mp hy with z | z
              · omega
              · exact h2 y z
            · refine ⟨.head _, fun y hy => ?_⟩
              rcases List.mem_cons.mp hy with z | z
              · omega
              · have := h2 y z; omega
      have e2 := hy k (.tail _ hk.1)
      rcases List.mem_cons.mp hx with z | z
      · split <;> omega
      · have := hk.2 x z
        split <;> omega
theorem maxI_ne {is : List Int} {m : Int} (h : maxI is = some m) : 0 < is.length := by cases is with | nil => cases h | cons => simp
theorem minI_ne {is : List Int} {m : Int} (h : minI is = some m) : 0 < is.length := by cases is with | nil => cases h | cons => simp
theorem RzA.atI {B : Hp} {vs : List V} {ds : List D} {i : Int} {d : D} (h : RzA G B vs ds) (e : atI ds i = some d) : ∃ x, L2.atI vs i = some x ∧ Rz G B x d := by
  unfold L2.atI at e ⊢
  rw [h.length]
  cases hj : ixN ds.length i with
  | none => rw [hj] at e; cases e
  | some j =>
    rw [hj] at e
    exact h.get e
theorem RzA.cut {B : Hp} {vs : List V} {ds : List D} (h : RzA G B vs ds) (lo hi : Option Int) : RzA G B (cutV vs lo hi) (cutD ds lo hi) := by
  unfold cutV cutD
  rw [h.length]
  exact (h.drop _).take _
theorem ob_add : OpB G pn (uAdd G.K) dAdd := by
  intro U e σ H B x y a b c Q rl ra rb h q
  unfold dAdd at h
  split at h
  · cases h
    cases ra.int_inv; cases rb.int_inv
    exact .inl (.inl ⟨_, _, rfl, rfl, q _ H B rl (Same.refl _) Keep.refl (.int _)⟩)
  · split at h
    · next hz =>
      cases h
      cases ra.str_inv; cases rb.str_inv
      exact .inl (.inr ⟨_, _, rfl, rfl, line_of hz, q _ H B rl (Same.refl _) Keep.refl (.str _)⟩)
    · cases h
  · obtain ⟨hl, rfl⟩ := few_eq h
    obtain ⟨a1, xs, rfl, h1, n1, r1⟩ := ra.lst_inv
    obtain ⟨a2, ys, rfl, h2, n2, r2⟩ := rb.lst_inv
    have r := r1.app r2
    refine .inr (.inl ⟨a1, a2, xs, ys, rfl, rfl, h1, h2, ?_, fun p hp => ?_⟩)
    · rw [← List.length_append, r.length]; exact line_of hl
    · have hB := rl.b.bh.free hp
      exact q _ _ _ (rl.new hp) (same_upd hB) (Keep.of (same_upd hp)) (.lst upd_same (r.same (same_upd hB)))
  · obtain ⟨hl, rfl⟩ := few_eq h
    obtain ⟨a1, xs, rfl, h1, r1⟩ := ra.tup_inv
    obtain ⟨a2, ys, rfl, h2, r2⟩ := rb.tup_inv
    have r := r1.app r2
    refine .inr (.inr ⟨a1, a2, xs, ys, rfl, rfl, same_t rl.b.bh h1, same_t rl.b.bh h2, ?_, fun z => ?_, fun _ z => ?_, fun _ _ p hp => ?_⟩)
    · rw [← List.length_append, r.length]; exact line_of hl
    · subst z; cases r1; exact q _ H B rl (Same.refl _) Keep.refl (.tup h2 r2)
    · subst z; cases r2; rw [List.append_nil] at q; exact q _ H B rl (Same.refl _) Keep.refl (.tup h1 r1)
    · have hB := rl.b.bh.free hp
      exact q _ _ _ (rl.new hp) (same_upd hB) (Keep.of (same_upd hp)) (.tup upd_same (r.same (same_upd hB)))
  · cases h
theorem small_mul {i j : Int} (h : (small i || small j) = true) : CMul i j := by
  unfold small at h
  simp only [Bool.or_eq_true, Bool.and_eq_true, decide_eq_true_eq] at h
  exact h.imp id id
theorem ob_mul : OpB G pn uMul dMul := by
  intro U e σ H B x y a b c Q rl ra rb h q
  unfold dMul at h
  split at h
  · split at h
    · next hz =>
      cases h
      cases ra.int_inv; cases rb.int_inv
      exact .inl ⟨_, _, rfl, rfl, small_mul hz, q _ H B rl (Same.refl _) Keep.refl (.int _)⟩
    · cases h
  · split at h
    · next hz =>
      cases h
      obtain ⟨a1, xs, rfl, h1, n1, r1⟩ := ra.lst_inv
      cases rb.int_inv
      refine .inr ⟨a1, _, xs, rfl, rfl, h1, by omega, by omega, by rw [r1.length]; exact line_of hz.2.1, fun p hp => ?_⟩
      have hB := rl.b.bh.free hp
      exact q _ _ _ (rl.new hp) (same_upd hB) (Keep.of (same_upd hp)) (.lst upd_same ((r1.flat _).same (same_upd hB)))
    · cases h
  · cases h
theorem ob_I {f : Int → Int → Int} : OpB G pn (rI0 fun i j => .int (f i j)) (dI f) := by
  intro U e σ H B x y a b c Q rl ra rb h q
  unfold dI at h
  split at h
  · cases h
    cases ra.int_inv; cases rb.int_inv
    exact ⟨_, _, rfl, rfl, q _ H B rl (Same.refl _) Keep.refl (.int _)⟩
  · cases h
theorem ob_B {f : Int → Int → Bool} : OpB G pn (rI0 fun i j => .bl (f i j)) (dB f) := by
  intro U e σ H B x y a b c Q rl ra rb h q
  unfold dB at h
  split at h
  · cases h
    cases ra.int_inv; cases rb.int_inv
    exact ⟨_, _, rfl, rfl, q _ H B rl (Same.refl _) Keep.refl (.bl _)⟩
  · cases h
theorem ob_sub : OpB G pn uSub (dI fun i j => i - j) := ob_I
theorem ob_and : OpB G pn uAnd (dI Builtin.bitAnd) := ob_I
theorem ob_or : OpB G pn uOr (dI Builtin.bitOr) := ob_I
theorem ob_xor : OpB G pn uXor (dI Builtin.bitXor) := ob_I
theorem ob_lt : OpB G pn uLt (dB fun i j => decide (i < j)) := ob_B
theorem ob_le : OpB G pn uLe (dB fun i j => decide (i ≤ j)) := ob_B
theorem ob_gt : OpB G pn uGt (dB fun i j => decide (j < i)) := ob_B
theorem ob_ge : OpB G pn uGe (dB fun i j => decide (j ≤ i)) := ob_B
theorem ob_mod : OpB G pn uMod dMod := by
  intro U e σ H B x y a b c Q rl ra rb h q
  unfold dMod at h
  split at h
  · split at h
    · next hz =>
      cases h
      cases ra.int_inv; cases rb.int_inv
      exact ⟨_, _, rfl, rfl, hz, q _ H B rl (Same.refl _) Keep.refl (.int _)⟩
    · cases h
  · cases h
theorem ob_div : OpB G pn uDiv dDiv := by
  intro U e σ H B x y a b c Q rl ra rb h q
  unfold dDiv at h
  split at h
  · split at h
    · next hz =>
      cases h
      cases ra.int_inv; cases rb.int_inv
      exact ⟨_, _, rfl, rfl, hz, q _ H B rl (Same.refl _) Keep.refl (.int _)⟩
    · cases h
  · cases h
theorem okD_eq {d : D} (h : okD d = true) : plain (nrm d) = true ∧ SeqAt.shaped (nrm d) = true := by
  unfold okD at h
  simpa using h
theorem ob_eq : OpB G pn (rEqD G.K) dEq := by
  intro U e σ H B x y a b c Q rl ra rb h q
  unfold dEq at h
  split at h
  · next hz =>
    cases h
    exact ⟨nrm a, nrm b, ra.dpn rl.b.bh (okD_eq hz.1).1, rb.dpn rl.b.bh (okD_eq hz.2).1, (okD_eq hz.1).2, (okD_eq hz.2).2, q _ H B rl (Same.refl _) Keep.refl (.bl _)⟩
  · cases h
theorem ob_ne : OpB G pn (rNeD G.K) dNe := by
  intro U e σ H B x y a b c Q rl ra rb h q
  unfold dNe at h
  split at h
  · next hz =>
    cases h
    exact ⟨nrm a, nrm b, ra.dpn rl.b.bh (okD_eq hz.1).1, rb.dpn rl.b.bh (okD_eq hz.2).1, (okD_eq hz.1).2, (okD_eq hz.2).2, q _ H B rl (Same.refl _) Keep.refl (.bl _)⟩
  · cases h
theorem ob_in : OpB G pn (uIn G.K) dIn := by
  intro U e σ H B x y a b c Q rl ra rb h q
  unfold dIn at h
  split at h
  · split at h
    · next hz =>
      cases h
      exact .inl ⟨nrm a, _, ra.dpn rl.b.bh (okD_eq hz.1).1, rb.dpn rl.b.bh (okD_eq hz.2).1, (okD_eq hz.1).2, (okD_eq hz.2).2, q _ H B rl (Same.refl _) Keep.refl (.bl _)⟩
    · cases h
  · split at h
    · next hz =>
      cases h
      exact .inr ⟨nrm a, _, ra.dpn rl.b.bh (okD_eq hz.1).1, rb.dpn rl.b.bh (okD_eq hz.2).1, (okD_eq hz.1).2, (okD_eq hz.2).2, q _ H B rl (Same.refl _) Keep.refl (.bl _)⟩
    · cases h
  · split at h
    · next ds hz =>
      cases h
      obtain ⟨a1, xs, rfl, h1, r1⟩ := RzB.kt_inv (ds := ds) rb
      have hp := (okD_eq hz.2).1
      exact .inr ⟨nrm a, _, ra.dpn rl.b.bh (okD_eq hz.1).1, .tup h1.sq (RzA.dpn (by simpa [nrm, plain] using hp) (r1.same rl.b.bh)), (okD_eq hz.1).2, (okD_eq hz.2).2, q _ H B rl (Same.refl _) Keep.refl (.bl _)⟩
    · cases h
  · cases h
theorem ob_notIn : OpB G pn (uNotIn G.K) dNotIn := by
  intro U e σ H B x y a b c Q rl ra rb h q
  unfold dNotIn dIn at h
  split at h
  · split at h
    · next hz =>
      cases h
      exact .inl ⟨nrm a, _, ra.dpn rl.b.bh (okD_eq hz.1).1, rb.dpn rl.b.bh (okD_eq hz.2).1, (okD_eq hz.1).2, (okD_eq hz.2).2, q _ H B rl (Same.refl _) Keep.refl (.bl _)⟩
    · cases h
  · split at h
    · next hz =>
      cases h
      exact .inr ⟨nrm a, _, ra.dpn rl.b.bh (okD_eq hz.1).1, rb.dpn rl.b.bh (okD_eq hz.2).1, (okD_eq hz.1).2, (okD_eq hz.2).2, q _ H B rl (Same.refl _) Keep.refl (.bl _)⟩
    · cases h
  · split at h
    · next ds hz =>
      cases h
      obtain ⟨a1, xs, rfl, h1, r1⟩ := RzB.kt_inv (ds := ds) rb
      have hp := (okD_eq hz.2).1
      exact .inr ⟨nrm a, _, ra.dpn rl.b.bh (okD_eq hz.1).1, .tup h1.sq (RzA.dpn (by simpa [nrm, plain] using hp) (r1.same rl.b.bh)), (okD_eq hz.1).2, (okD_eq hz.2).2, q _ H B rl (Same.refl _) Keep.refl (.bl _)⟩
    · cases h
  · cases h
theorem RzB.isN {B H : Hp} {v : V} {d : D} (h : RzB G pn B H v d) : decide (v = .non) = isNone d := by
  cases h <;> rfl
theorem ob_isN : OpB G pn uIsN dIsN := by
  intro U e σ H B x y a b c Q rl ra rb h q
  unfold dIsN at h
  split at h
  · cases h
    cases rb.non_inv
    exact ⟨rfl, ra.isN ▸ q _ H B rl (Same.refl _) Keep.refl (.bl _)⟩
  · cases h
theorem ob_notN : OpB G pn uNotN dNotN := by
  intro U e σ H B x y a b c Q rl ra rb h q
  unfold dNotN at h
  split at h
  · cases h
    cases rb.non_inv
    exact ⟨rfl, ra.isN ▸ q _ H B rl (Same.refl _) Keep.refl (.bl _)⟩
  · cases h
theorem ob_ix : OpB G pn (uIx G.K) dIx := by
  intro U e σ H B x y a b c Q rl ra rb h q
  unfold dIx at h
  split at h
  · obtain ⟨a1, xs, rfl, h1, n1, r1⟩ := ra.lst_inv
    cases rb.int_inv
    obtain ⟨z, hz, rz⟩ := r1.atI h
    exact .inl ⟨a1, xs, _, z, rfl, rfl, SqL.of h1, hz, q _ H B rl (Same.refl _) Keep.refl rz⟩
  · obtain ⟨a1, xs, rfl, h1, r1⟩ := ra.tup_inv
    cases rb.int_inv
    obtain ⟨z, hz, rz⟩ := r1.atI h
    exact .inr ⟨a1, xs, _, z, rfl, rfl, same_t rl.b.bh h1, hz, q _ H B rl (Same.refl _) Keep.refl rz⟩
  · next as i =>
    obtain ⟨a1, xs, rfl, h1, r1⟩ := RzB.kt_inv (ds := as) ra
    cases rb.int_inv
    obtain ⟨z, hz, rz⟩ := r1.atI h
    exact .inr ⟨a1, xs, _, z, rfl, rfl, h1.sq, hz, q _ H B rl (Same.refl _) Keep.refl rz⟩
  · cases h
theorem ub_neg : UnB G pn uNeg dNeg := by
  intro U e σ H B x a c Q rl ra h q
  unfold dNeg at h
  split at h
  · cases h
    cases ra.int_inv
    exact ⟨_, rfl, q _ H B rl (Same.refl _) Keep.refl (.int _)⟩
  · cases h
theorem b_len : Cb1 G pn (uLen G.K) dLen := by
  intro U e σ H B x a c Q rl ra h q
  unfold dLen at h
  split at h
  · cases h
    obtain ⟨a1, xs, rfl, h1, n1, r1⟩ := ra.lst_inv
    exact ⟨_, xs.length, rfl, .inl ⟨xs, SqL.of h1, rfl⟩, r1.length ▸ q _ H B rl (Same.refl _) Keep.refl (.int _)⟩
  · cases h
    obtain ⟨a1, xs, rfl, h1, r1⟩ := ra.tup_inv
    exact ⟨_, xs.length, rfl, .inr ⟨xs, same_t rl.b.bh h1, rfl⟩, r1.length ▸ q _ H B rl (Same.refl _) Keep.refl (.int _)⟩
  · next as =>
    cases h
    obtain ⟨a1, xs, rfl, h1, r1⟩ := RzB.kt_inv (ds := as) ra
    exact ⟨_, xs.length, rfl, .inr ⟨xs, h1.sq, rfl⟩, r1.length ▸ q _ H B rl (Same.refl _) Keep.refl (.int _)⟩
  · split at h
    · next hz =>
      cases h
      cases ra.str_inv
      exact ⟨_, _, rfl, ⟨line_of hz, rfl⟩, q _ H B rl (Same.refl _) Keep.refl (.int _)⟩
    · cases h
  · cases h
theorem f_list : Cf1 G pn (uLst G.K) dLst := by
  intro U e σ H B x a c Q rl ra h q
  unfold dLst at h
  split at h
  · cases h
    obtain ⟨a1, xs, rfl, h1, n1, r1⟩ := ra.lst_inv
    exact ⟨a1, xs, rfl, .inl (SqL.of h1), fun p hp => q p _ B (rl.fresh hp (.lst upd_same r1)) (Same.refl _) (Keep.of (same_upd hp))⟩
  · cases h
    obtain ⟨a1, xs, rfl, h1, r1⟩ := ra.tup_inv
    exact ⟨a1, xs, rfl, .inr (same_t rl.b.bh h1), fun p hp => q p _ B (rl.fresh hp (.lst upd_same r1)) (Same.refl _) (Keep.of (same_upd hp))⟩
  · cases h
theorem b_tuple : Cb1 G pn (uTup G.K) dTup := by
  intro U e σ H B x a c Q rl ra h q
  unfold dTup at h
  split at h
  · cases h
    obtain ⟨a1, xs, rfl, h1, n1, r1⟩ := ra.lst_inv
    refine ⟨a1, xs, rfl, .inl ⟨SqL.of h1, fun p hp => ?_⟩⟩
    have hB := rl.b.bh.free hp
    exact q _ _ _ (rl.new hp) (same_upd hB) (Keep.of (same_upd hp)) (.tup upd_same (r1.same (same_upd hB)))
  · cases h
    obtain ⟨a1, xs, rfl, h1, r1⟩ := ra.tup_inv
    exact ⟨a1, xs, rfl, .inr ⟨same_t rl.b.bh h1, q _ H B rl (Same.refl _) Keep.refl (.tup h1 r1)⟩⟩
  · cases h
theorem b_int : Cb1 G pn uInt dInt := by
  intro U e σ H B x a c Q rl ra h q
  unfold dInt at h
  split at h
  · cases h
    cases ra.int_inv
    exact .inl ⟨_, rfl, q _ H B rl (Same.refl _) Keep.refl (.int _)⟩
  · cases h
    cases ra.bl_inv
    exact .inr ⟨_, rfl, q _ H B rl (Same.refl _) Keep.refl (.int _)⟩
  · cases h
theorem b_abs : Cb1 G pn uAbs dAbs := by
  intro U e σ H B x a c Q rl ra h q
  unfold dAbs at h
  split at h
  · cases h
    cases ra.int_inv
    exact ⟨_, rfl, q _ H B rl (Same.refl _) Keep.refl (.int _)⟩
  · cases h
theorem b_max : Cb1 G pn (rMax G.K) dMax := by
  intro U e σ H B x a c Q rl ra h q
  unfold dMax at h
  split at h
  · next ds =>
    obtain ⟨is, h1, h2⟩ := Option.bind_eq_some_iff.mp h
    obtain ⟨m, h3, rfl⟩ := Option.map_eq_some_iff.mp h2
    obtain ⟨a1, xs, rfl, hx, n1, r1⟩ := ra.lst_inv
    refine ⟨a1, is, rfl, (r1.ints_inv h1) ▸ SqL.of hx, maxI_ne h3, fun z hz hy => ?_⟩
    rw [maxI_spec h3 hz hy]
    exact q _ H B rl (Same.refl _) Keep.refl (.int _)
  · cases h
theorem b_min : Cb1 G pn (rMin G.K) dMin := by
  intro U e σ H B x a c Q rl ra h q
  unfold dMin at h
  split at h
  · next ds =>
    obtain ⟨is, h1, h2⟩ := Option.bind_eq_some_iff.mp h
    obtain ⟨m, h3, rfl⟩ := Option.map_eq_some_iff.mp h2
    obtain ⟨a1, xs, rfl, hx, n1, r1⟩ := ra.lst_inv
    refine ⟨a1, is, rfl, (r1.ints_inv h1) ▸ SqL.of hx, minI_ne h3, fun z hz hy => ?_⟩
    rw [minI_spec h3 hz hy]
    exact q _ H B rl (Same.refl _) Keep.refl (.int _)
  · cases h
theorem b_all : Cb1 G pn (rAll G.K) dAll := by
  intro U e σ H B x a c Q rl ra h q
  unfold dAll at h
  split at h
  · next ds =>
    obtain ⟨is, h1, rfl⟩ := Option.map_eq_some_iff.mp h
    obtain ⟨a1, xs, rfl, hx, n1, r1⟩ := ra.lst_inv
    exact ⟨a1, is, rfl, (r1.bools_inv h1) ▸ SqL.of hx, q _ H B rl (Same.refl _) Keep.refl (.bl _)⟩
  · cases h
theorem b_any : Cb1 G pn (rAny G.K) dAny := by
  intro U e σ H B x a c Q rl ra h q
  unfold dAny at h
  split at h
  · next ds =>
    obtain ⟨is, h1, rfl⟩ := Option.map_eq_some_iff.mp h
    obtain ⟨a1, xs, rfl, hx, n1, r1⟩ := ra.lst_inv
    exact ⟨a1, is, rfl, (r1.bools_inv h1) ▸ SqL.of hx, q _ H B rl (Same.refl _) Keep.refl (.bl _)⟩
  · cases h
end
end Fw

set_option linter.all false
set_option maxRecDepth 100000
set_option maxHeartbeats 4000000
namespace Fw
open PySem PySem.Spec PyProof.Rows L2
section
variable {α β : Type}
/-! ### statements -/
def PostS (G : Gm) (U : Hp) (pn : Pn) (E : XK) (e' : Ev) (B : Hp) (Dn : Ends) : Fl → Prop
  | .nx => ∀ σ' H' B', Rl G U pn e' σ' H' B' → Same B B' → Dn.nx σ' H'
  | .bk => ∀ σ' H' B', Rl G U pn e' σ' H' B' → Same B B' → Dn.bk σ' H'
  | .ct => ∀ σ' H' B', Rl G U pn e' σ' H' B' → Same B B' → Dn.ct σ' H'
  | .rt d => ∀ v H' B', Base U pn e'.pen H' B' → Same B B' → Rz G B' v d → Dn.rt v H'
  | .x c ns ds => ∀ cls ao H' B', Base U pn e'.pen H' B' → Same B B' → XAt G B' H' cls ao c ns ds → E cls ao H'
def CS (G : Gm) (pn : Pn) (E : XK) (t : TS) (f : FS) : Prop :=
  ∀ U e σ H B r e' Dn, Rl G U pn e σ H B → f e = some (r, e') → PostS G U pn E e' B Dn r → t Dn σ H
variable {G : Gm} {U : Hp} {pn : Pn} {E : XK} {e : Ev} {σ : L2.St} {H B H' B' H1 B1 : Hp}
theorem PostS.up {Dn : Ends} {r : Fl} {e' : Ev} (s : Same B B1) (h : PostS G U pn E e' B Dn r) : PostS G U pn E e' B1 Dn r := by
  cases r with
  | nx => exact fun σ' H' B' r s' => h σ' H' B' r (s.trans s')
  | bk => exact fun σ' H' B' r s' => h σ' H' B' r (s.trans s')
  | ct => exact fun σ' H' B' r s' => h σ' H' B' r (s.trans s')
  | rt d => exact fun v H' B' b s' x => h v H' B' b (s.trans s') x
  | x c ns ds => exact fun cls ao H' B' b s' x => h cls ao H' B' b (s.trans s') x
def nextS : FS := fun e => some (.nx, e)
def breakS : FS := fun e => some (.bk, e)
def contS : FS := fun e => some (.ct, e)
def seqS (f g : FS) : FS := fun e => match f e with
  | some (.nx, e') => g e'
  | r => r
theorem cs_next : CS G pn E tNext nextS := by
  intro U e σ H B r e' Dn rl hf post
  cases hf
  exact post σ H B rl (Same.refl _)
theorem cs_break : CS G pn E tBreak breakS := by
  intro U e σ H B r e' Dn rl hf post
  cases hf
  exact post σ H B rl (Same.refl _)
theorem cs_cont : CS G pn E tCont contS := by
  intro U e σ H B r e' Dn rl hf post
  cases hf
  exact post σ H B rl (Same.refl _)
theorem cs_seq {t u : TS} {f g : FS} (h1 : CS G pn E t f) (h2 : CS G pn E u g) : CS G pn E (tSeq t u) (seqS f g) := by
  intro U e σ H B r e' Dn rl hf post
  unfold seqS at hf
  cases hfe : f e with
  | none => rw [hfe] at hf; cases hf
  | some rp =>
    obtain ⟨r1, e1⟩ := rp
    rw [hfe] at hf
    cases r1 with
    | nx => exact h1 U e σ H B _ _ { Dn with nx := u Dn } rl hfe fun σ1 H1 B1 rl1 s1 => h2 U e1 σ1 H1 B1 r e' Dn rl1 hf (post.up s1)
    | bk => cases hf; exact h1 U e σ H B _ _ { Dn with nx := u Dn } rl hfe post
    | ct => cases hf; exact h1 U e σ H B _ _ { Dn with nx := u Dn } rl hfe post
    | rt d => cases hf; exact h1 U e σ H B _ _ { Dn with nx := u Dn } rl hfe post
    | x c ns ds => cases hf; exact h1 U e σ H B _ _ { Dn with nx := u Dn } rl hfe post
/-- from an expression's outcome on -/
def thenS (f : FG α) (g : α → FS) : FS := fun e => match f e with
  | none => none
  | some (.x c ns ds, p) => some (.x c ns ds, ⟨e.sl, p⟩)
  | some (.v a, p) => g a ⟨e.sl, p⟩
theorem CS.of {W : Type} {R : Hp → Hp → W → α → Prop} {t : TG_ W} {k : W → TS} {f : FG α} {g : α → FS} (h1 : CG G pn E R t f)
    (h2 : ∀ w a U e σ H B r e' Dn, Rl G U pn e σ H B → R B H w a → g a e = some (r, e') → PostS G U pn E e' B Dn r → k w Dn σ H) :
    CS G pn E (fun Dn σ H => t σ H fun w H1 => k w Dn σ H1) (thenS f g) := by
  intro U e σ H B r e' Dn rl hf post
  unfold thenS at hf
  cases hfe : f e with
  | none => rw [hfe] at hf; cases hf
  | some rp =>
    obtain ⟨r1, q1⟩ := rp
    rw [hfe] at hf
    cases r1 with
    | x c ns ds => cases hf; exact h1 U e σ H B _ _ _ rl hfe post
    | v a => exact h1 U e σ H B _ _ _ rl hfe fun w H1 B1 rl1 s1 k1 rw1 => h2 w a U ⟨e.sl, q1⟩ σ H1 B1 r e' Dn rl1 rw1 hf (post.up s1)
def ifS (c : FG Bool) (f g : FS) : FS := thenS c fun b => if b = true then f else g
theorem cs_if {c : TT} {t u : TS} {fc : FG Bool} {f g : FS} (hc : CT G pn E c fc) (h1 : CS G pn E t f) (h2 : CS G pn E u g) : CS G pn E (tIfS c t u) (ifS fc f g) := by
  refine CS.of (t := c) hc fun w a U e σ H B r e' Dn rl ra hf post => ?_
  cases ra
  cases w with
  | true => exact h1 U e σ H B r e' Dn rl hf post
  | false => exact h2 U e σ H B r e' Dn rl hf post
def retS (f : FG D) : FS := thenS f fun d e => some (.rt d, e)
theorem cs_ret {t : TE} {f : FG D} (h : CE G pn E t f) : CS G pn E (tRet t) (retS f) := by
  refine CS.of (t := t) h fun w a U e σ H B r e' Dn rl ra hf post => ?_
  cases hf
  exact post w H B rl.b (Same.refl _) ra
theorem cs_retN : CS G pn E tRetN (retS (retG .none)) := by
  intro U e σ H B r e' Dn rl hf post
  cases hf
  exact post .non H B rl.b (Same.refl _) .non
def dropS (f : FG D) : FS := thenS f fun _ e => some (.nx, e)
theorem cs_drop {t : TE} {f : FG D} (h : CE G pn E t f) : CS G pn E (tDrop t) (dropS f) := by
  refine CS.of (t := t) h fun w a U e σ H B r e' Dn rl ra hf post => ?_
  cases hf
  exact post σ H B rl (Same.refl _)
/-! ### targets -/
abbrev FT := D → List Slot → Option (List Slot)
abbrev FTs := List D → List Slot → Option (List Slot)
def CTg (G : Gm) (pn : Pn) (g : TG) (f : FT) : Prop := ∀ U e σ H B v d sl' (Q : L2.St → Hp → Prop), Rl G U pn e σ H B → Rz G B v d → f d e.sl = some sl' →
  (∀ σ', Rl G U pn ⟨sl', e.pen⟩ σ' H B → Q σ' H) → g v σ H Q
def CTgs (G : Gm) (pn : Pn) (g : TGs) (f : FTs) : Prop := ∀ U e σ H B vs ds sl' (Q : L2.St → Hp → Prop), Rl G U pn e σ H B → RzA G B vs ds → f ds e.sl = some sl' →
  (∀ σ', Rl G U pn ⟨sl', e.pen⟩ σ' H B → Q σ' H) → g vs σ H Q
def nameT (i : Nat) : FT := fun d sl => some (sl.set i (.d d))
def nilT : FTs := fun ds sl => match ds with
  | [] => some sl
  | _ => none
def consT (f : FT) (g : FTs) : FTs := fun ds sl => match ds with
  | [] => none
  | d :: r => (f d sl).bind (g r)
def tupT (n : Nat) (f : FTs) : FT := fun d sl => match d with
  | .tuple ds => if ds.length = n then f ds sl else none
  | .dict [(.bool false, .tuple ds)] => if ds.length = n then f ds sl else none
  | _ => none
theorem tg_name (i : Nat) : CTg G pn (gName i) (nameT i) := by
  intro U e σ H B v d sl' Q rl rz h q
  cases h
  exact q _ (rl.setD rz i)
theorem tg_nil : CTgs G pn gNil nilT := by
  intro U e σ H B vs ds sl' Q rl rz h q
  unfold nilT at h
  split at h
  · cases h; cases rz; exact ⟨rfl, q σ rl⟩
  · cases h
theorem tg_cons {t : TG} {u : TGs} {f : FT} {g : FTs} (h1 : CTg G pn t f) (h2 : CTgs G pn u g) : CTgs G pn (gCons t u) (consT f g) := by
  intro U e σ H B vs ds sl' Q rl rz h q
  unfold consT at h
  cases rz with
  | nil => cases h
  | cons r1 r2 =>
    obtain ⟨sl1, e1, e2⟩ := Option.bind_eq_some_iff.mp h
    exact ⟨_, _, rfl, h1 U e σ H B _ _ sl1 _ rl r1 e1 fun σ' rl' => h2 U ⟨sl1, e.pen⟩ σ' H B _ _ sl' Q rl' r2 e2 q⟩
theorem tg_tup {n : Nat} {t : TGs} {f : FTs} (h1 : CTgs G pn t f) : CTg G pn (gTup G.K n t) (tupT n f) := by
  intro U e σ H B v d sl' Q rl rz h q
  unfold tupT at h
  split at h
  · next ds =>
    split at h
    · next hn =>
      obtain ⟨a, xs, rfl, hx, hr⟩ := rz.tup_inv
      exact ⟨a, xs, rfl, same_t rl.b.bh hx, by rw [hr.length, hn], h1 U e σ H B xs ds sl' Q rl hr h q⟩
    · cases h
  · next ds =>
    split at h
    · next hn =>
      obtain ⟨a, xs, rfl, hx, hr⟩ := Rz.kt_inv rl.b rz
      exact ⟨a, xs, rfl, hx.sq, by rw [hr.length, hn], h1 U e σ H B xs ds sl' Q rl hr h q⟩
    · cases h
  · cases h
def asgS (f : FG D) (t : FT) : FS := thenS f fun d e => (t d e.sl).map fun sl => (.nx, ⟨sl, e.pen⟩)
theorem cs_asg {t : TE} {g : TG} {f : FG D} {ft : FT} (h : CE G pn E t f) (hg : CTg G pn g ft) : CS G pn E (tAsg t g) (asgS f ft) := by
  refine CS.of (t := t) h fun w a U e σ H B r e' Dn rl ra hf post => ?_
  obtain ⟨sl, h1, h2⟩ := Option.map_eq_some_iff.mp hf
  cases h2
  exact hg U e σ H B w a sl _ rl ra h1 fun σ' rl' => post σ' H B rl' (Same.refl _)
/-- a new list or dict that will change -/
def asgO (f : FG D) (i : Nat) : FS := thenS f fun d e => if i < e.sl.length then some (.nx, ⟨e.sl.set i (.o d), e.pen⟩) else none
theorem cs_asgO {t : TE} {f : FG D} {i : Nat} (h : CF G pn E t f) : CS G pn E (tAsg t (gName i)) (asgO f i) := by
  intro U e σ H B r e' Dn rl hf post
  unfold asgO thenS at hf
  cases hfe : f e with
  | none => rw [hfe] at hf; cases hf
  | some rp =>
    obtain ⟨r1, q1⟩ := rp
    rw [hfe] at hf
    cases r1 with
    | x c ns ds => cases hf; exact h U e σ H B _ _ _ rl hfe post
    | v a =>
      dsimp only at hf
      split at hf
      · next hi =>
        cases hf
        exact h U e σ H B _ _ _ rl hfe fun p H1 B1 fr s1 k1 => post _ H1 B1 (fr.setO hi) s1
      · cases hf
/-- a, b = x, y -/
def parS (i j : Nat) (f : FG (List D)) : FS := thenS f fun ds e => match ds with
  | [a, b] => some (.nx, ⟨(e.sl.set i (.d a)).set j (.d b), e.pen⟩)
  | _ => none
theorem cs_par {i j : Nat} {t : TA} {f : FG (List D)} (h : CA G pn E t f) : CS G pn E (tPar i j t) (parS i j f) := by
  refine CS.of (t := t) h fun w a U e σ H B r e' Dn rl ra hf post => ?_
  split at hf
  · cases hf
    cases ra with
    | cons r1 r2 =>
      cases r2 with
      | cons r2 r3 =>
        cases r3
        exact ⟨_, _, rfl, post _ H B ((rl.setD r1 i).setD r2 j) (Same.refl _)⟩
  · cases hf
/-- what one owns becomes data: nothing runs -/
def relS (i : Nat) (f : FS) : FS := fun e => match e.sl[i]? with
  | some (.o x) => f ⟨e.sl.set i (.d x), e.pen⟩
  | some (.d _) => f e
  | _ => none
theorem cs_rel {t : TS} {f : FS} (i : Nat) (h : CS G pn E t f) : CS G pn E t (relS i f) := by
  intro U e σ H B r e' Dn rl hf post
  unfold relS at hf
  split at hf
  · next x hx =>
    obtain ⟨B1, rl1, s1⟩ := rl.rel hx
    exact h U _ σ H B1 r e' Dn rl1 hf (post.up s1)
  · exact h U e σ H B r e' Dn rl hf post
  · cases hf
/-! ### lists that change -/
def ownL (i : Nat) (e : Ev) : Option (List D) := match e.sl[i]? with
  | some (.o (.list ds)) => some ds
  | _ => none
theorem ownL_eq {i : Nat} {ds : List D} (h : ownL i e = some ds) : e.sl[i]? = some (.o (.list ds)) := by
  unfold ownL at h
  split at h
  · next ds' hx => cases h; exact hx
  · cases h
theorem Rl.lst (rl : Rl G U pn e σ H B) {i : Nat} {ds : List D} (h : ownL i e = some ds) : ∃ p xs, σ[i]? = some (some (.ref p)) ∧ H p = some (.lst xs) ∧ RzA G B xs ds := by
  obtain ⟨p, h1, h2, _⟩ := rl.getO (ownL_eq h)
  cases h2 with
  | lst h hs => exact ⟨p, _, h1, h, hs⟩
theorem Rl.lstPut (rl : Rl G U pn e σ H B) {i : Nat} {ds es : List D} {p : Addr} {ys : List V} (h : ownL i e = some ds) (hs : σ[i]? = some (some (.ref p))) (hr : RzA G B ys es) : Rl G U pn ⟨e.sl.set i (.o (.list es)), e.pen⟩ σ (upd H p (.lst ys)) B :=
  rl.mut hs (ownL_eq h) (.lst upd_same hr)
def appS (i : Nat) (f : FG D) : FS := fun e => (ownL i e).bind fun _ => thenS f (fun d e => (ownL i e).bind fun ds => few ds (.nx, ⟨e.sl.set i (.o (.list (ds ++ [d]))), e.pen⟩)) e
theorem cs_app {i : Nat} {t : TE} {f : FG D} (h : CE G pn E t f) : CS G pn E (tDrop (tBM G.K "list" rAppend (tVar i) (tCons t tNil))) (appS i f) := by
  intro U e σ H B r e' Dn rl hf post
  obtain ⟨ds0, h0, hf⟩ := Option.bind_eq_some_iff.mp hf
  obtain ⟨p0, xs0, e0, e2, e3⟩ := rl.lst h0
  refine ⟨_, e0, .inl ⟨rfl, xs0, SqL.of e2⟩, ?_⟩
  unfold thenS at hf
  cases hfe : f e with
  | none => rw [hfe] at hf; cases hf
  | some rp =>
    obtain ⟨r1, q1⟩ := rp
    rw [hfe] at hf
    cases r1 with
    | v a =>
      refine h U e σ H B _ _ _ rl hfe fun v H1 B1 rl1 s1 k1 rz => ?_
      obtain ⟨ds, h1, h2⟩ := Option.bind_eq_some_iff.mp hf
      obtain ⟨hl, h3⟩ := few_eq h2
      cases h3
      obtain ⟨p, xs, e1, e2, e3⟩ := rl1.lst h1
      rw [e0] at e1
      cases e1
      exact ⟨p0, xs, v, rfl, rfl, e2, line_lt (by rw [e3.length]; exact hl), post _ _ B1 (rl1.lstPut h1 e0 (e3.app (.cons rz .nil))) s1⟩
    | x c ns ds => cases hf; exact h U e σ H B _ _ _ rl hfe post
/-- xs[k] = e -/
def setS (i : Nat) (fk f : FG D) : FS := thenS f fun d => thenS fk fun k e => match k with
  | .int k => (ownL i e).bind fun ds => (ixN ds.length k).map fun j => (.nx, ⟨e.sl.set i (.o (.list (ds.set j d))), e.pen⟩)
  | _ => none
theorem thenS_inv {f : FG α} {g : α → FS} {r : Fl} {e' : Ev} (h : thenS f g e = some (r, e')) :
    (∃ c ns ds q, f e = some (.x c ns ds, q) ∧ r = .x c ns ds ∧ e' = ⟨e.sl, q⟩) ∨ ∃ a q, f e = some (.v a, q) ∧ g a ⟨e.sl, q⟩ = some (r, e') := by
  unfold thenS at h
  split at h
  · cases h
  · next c ns ds p hx => cases h; exact .inl ⟨_, _, _, _, hx, rfl, rfl⟩
  · next a p hx => exact .inr ⟨_, _, hx, h⟩
theorem cs_set {i : Nat} {t tk : TE} {f fk : FG D} (hk : CE G pn E tk fk) (h : CE G pn E t f) (hx : ∀ (e : Ev) d q, f e = some (.v d, q) → ∃ k q2, fk ⟨e.sl, q⟩ = some (.v k, q2)) :
    CS G pn E (tAsg t (gSub (tVar i) tk rSetL)) (setS i fk f) := by
  intro U e σ H B r e' Dn rl hf post
  rcases thenS_inv hf with ⟨c, ns, ds, q, h1, rfl, rfl⟩ | ⟨d, q, h1, h2⟩
  · exact h U e σ H B _ _ _ rl h1 post
  · refine h U e σ H B _ _ _ rl h1 fun v H1 B1 rl1 s1 k1 rz => ?_
    obtain ⟨k, q2, h3⟩ := hx e d q h1
    rcases thenS_inv h2 with ⟨c, ns, ds, q3, h4, rfl, rfl⟩ | ⟨k', q3, h4, h5⟩
    · rw [h3] at h4; cases h4
    · rw [h3] at h4
      cases h4
      dsimp only at h5
      split at h5
      · next k =>
        obtain ⟨ds, h6, h7⟩ := Option.bind_eq_some_iff.mp h5
        obtain ⟨j, h8, h9⟩ := Option.map_eq_some_iff.mp h7
        cases h9
        obtain ⟨p, xs, e1, e2, e3⟩ := rl1.lst (i := i) (ds := ds) h6
        refine ⟨_, e1, hk U ⟨e.sl, q⟩ σ H1 B1 _ _ _ rl1 h3 fun w H2 B2 rl2 s2 k2 rw => ?_⟩
        obtain ⟨p', xs', e1', e2', e3'⟩ := rl2.lst (i := i) (ds := ds) h6
        rw [e1] at e1'
        cases e1'
        cases rw.int_inv
        exact ⟨p, xs', k, j, rfl, rfl, e2', by rw [e3'.length]; exact h8, post _ _ B2 (rl2.lstPut h6 e1 (e3'.set (rz.same s2) j)) (s1.trans s2)⟩
      · cases h5
/-- xs.extend(ys), ys a list -/
def extS (i : Nat) (f : FG D) : FS := fun e => (ownL i e).bind fun _ => thenS f (fun d e => match d with
  | .list es => (ownL i e).bind fun ds => few (ds ++ es) (.nx, ⟨e.sl.set i (.o (.list (ds ++ es))), e.pen⟩)
  | .tuple es => (ownL i e).bind fun ds => few (ds ++ es) (.nx, ⟨e.sl.set i (.o (.list (ds ++ es))), e.pen⟩)
  | _ => none) e
def rExtT (K : PySem.W.Frag) : V → List V → Hp → VK → Prop := fun x vs H Q => ∃ l b xs ys, x = .ref l ∧ vs = [.ref b] ∧ H l = some (.lst xs) ∧ SqT K H b ys ∧ xs.length + ys.length ≤ sizeLine ∧ Q .non (upd H l (.lst (xs ++ ys)))
def uExt (K : PySem.W.Frag) : V → List V → Hp → VK → Prop := fun x vs H Q => rExtend x vs H Q ∨ rExtT K x vs H Q
theorem cs_ext {i : Nat} {t : TE} {f : FG D} (h : CE G pn E t f) : CS G pn E (tDrop (tBM G.K "list" (uExt G.K) (tVar i) (tCons t tNil))) (extS i f) := by
  intro U e σ H B r e' Dn rl hf post
  obtain ⟨ds0, h0, hf⟩ := Option.bind_eq_some_iff.mp hf
  obtain ⟨p0, xs0, e0, e2, e3⟩ := rl.lst h0
  refine ⟨_, e0, .inl ⟨rfl, xs0, SqL.of e2⟩, ?_⟩
  unfold thenS at hf
  cases hfe : f e with
  | none => rw [hfe] at hf; cases hf
  | some rp =>
    obtain ⟨r1, q1⟩ := rp
    rw [hfe] at hf
    cases r1 with
    | v a =>
      refine h U e σ H B _ _ _ rl hfe fun v H1 B1 rl1 s1 k1 rz => ?_
      dsimp only at hf
      split at hf
      · obtain ⟨ds, h1, h2⟩ := Option.bind_eq_some_iff.mp hf
        obtain ⟨hl, h3⟩ := few_eq h2
        cases h3
        obtain ⟨p, xs, e1, e2, e3⟩ := rl1.lst h1
        rw [e0] at e1
        cases e1
        obtain ⟨b, ys, rfl, hy, ry⟩ := rz.lst_inv
        refine .inl ⟨p0, b, xs, ys, rfl, rfl, e2, rl1.b.bh _ _ hy, ?_, post _ _ B1 (rl1.lstPut h1 e0 (e3.app ry)) s1⟩
        rw [← List.length_append, (e3.app ry).length]
        exact line_of hl
      · obtain ⟨ds, h1, h2⟩ := Option.bind_eq_some_iff.mp hf
        obtain ⟨hl, h3⟩ := few_eq h2
        cases h3
        obtain ⟨p, xs, e1, e2, e3⟩ := rl1.lst h1
        rw [e0] at e1
        cases e1
        obtain ⟨b, ys, rfl, hy, ry⟩ := rz.tup_inv
        refine .inr ⟨p0, b, xs, ys, rfl, rfl, e2, same_t rl1.b.bh hy, ?_, post _ _ B1 (rl1.lstPut h1 e0 (e3.app ry)) s1⟩
        rw [← List.length_append, (e3.app ry).length]
        exact line_of hl
      · cases hf
    | x c ns ds => cases hf; exact h U e σ H B _ _ _ rl hfe post
end
end Fw

set_option linter.all false
set_option maxRecDepth 100000
set_option maxHeartbeats 4000000
namespace Fw
open PySem PySem.Spec PyProof.Rows L2
section
variable {α β : Type} {G : Gm} {U : Hp} {pn : Pn} {E : XK} {e : Ev} {σ : L2.St} {H B H' B' H1 B1 : Hp}
/-! ### what is walked -/
def Walks (G : Gm) (pn : Pn) (J : It) (ds : List D) (B0 : Hp) : Prop := ∀ (i : Nat) (U H B : Hp) (e : Ev) (σ : L2.St), Same B0 B → Rl G U pn e σ H B →
  (ds.length ≤ i → J.stop i H) ∧ ∀ d, ds[i]? = some d → J.go i H ∧ ∀ x H', J.yld i H x H' → ∃ B', Same B B' ∧ Same H H' ∧ (∀ U e σ, Rl G U pn e σ H B → Rl G U pn e σ H' B') ∧ Rz G B' x d
abbrev CI (G : Gm) (pn : Pn) (E : XK) (t : TI) (f : FG (List D)) : Prop := CG G pn E (fun B _ J ds => Walks G pn J ds B) t f
theorem PI.or {X : Cx} {tg iter : Expr} {w w' : TI} (h : PI X tg iter w) (h' : PI X tg iter w') : PI X tg iter (fun σ H R => w σ H R ∨ w' σ H R) :=
  ⟨fun pins s σ H R I q => q.elim (h.run pins s σ H R I) (h'.run pins s σ H R I)⟩
def iSeq (K : PySem.W.Frag) (te : TE) : TI := fun σ H R => iList K te σ H R ∨ iTup K te σ H R
theorem pi_seq {X : Cx} {tg l : Expr} {te : TE} (h : PE X l te) : PI X tg l (iSeq X.K te) := PI.or (pi_list h) (pi_tup h)
def seqD : D → Option (List D)
  | .list ds => some ds
  | .tuple ds => some ds
  | .dict [(.bool false, .tuple ds)] => some ds
  | _ => none
def seqI (f : FG D) : FG (List D) := bindG f fun d => optG (seqD d)
theorem walks_l {K : PySem.W.Frag} {a : Addr} {xs : List V} {ds : List D} (h : B a = some (.lst xs)) (hr : RzA G B xs ds) : Walks G pn (Itl G.K a) ds B := by
  intro i U H B1 e σ s rl
  have hq : SqL G.K H a xs := SqL.of (rl.b.bh _ _ (s _ _ h))
  refine ⟨fun hi => ⟨xs, hq, by rw [hr.length]; exact hi⟩, fun d hd => ?_⟩
  obtain ⟨x, hx, rz⟩ := hr.get hd
  refine ⟨⟨xs, x, hq, hx⟩, fun y H' ⟨e1, e2⟩ => ?_⟩
  subst e1
  have := e2 xs hq
  rw [hx] at this
  cases this
  exact ⟨B1, Same.refl _, Same.refl _, fun _ _ _ r => r, rz.same s⟩
theorem walks_t {a : Addr} {xs : List V} {ds : List D} (h : SqT G.K B a xs) (hr : RzA G B xs ds) : Walks G pn (Itt G.K a) ds B := by
  intro i U H B1 e σ s rl
  have hq : SqT G.K H a xs := same_tS rl.b.bh (same_tS s h)
  refine ⟨fun hi => ⟨xs, hq, by rw [hr.length]; exact hi⟩, fun d hd => ?_⟩
  obtain ⟨x, hx, rz⟩ := hr.get hd
  refine ⟨⟨xs, x, hq, hx⟩, fun y H' ⟨e1, e2⟩ => ?_⟩
  subst e1
  have := e2 xs hq
  rw [hx] at this
  cases this
  exact ⟨B1, Same.refl _, Same.refl _, fun _ _ _ r => r, rz.same s⟩
theorem ci_seq {t : TE} {f : FG D} (h : CE G pn E t f) : CI G pn E (iSeq G.K t) (seqI f) := by
  intro U e σ H B r p' Q rl hf post
  rcases bind_inv hf with ⟨c, ns, ds, hx, rfl⟩ | ⟨a, q, hx, hg⟩
  · exact .inl (h U e σ H B _ _ _ rl hx post)
  · obtain ⟨ds, hc, rfl, rfl⟩ := optG_eq hg
    unfold seqD at hc
    split at hc
    · cases hc
      refine .inl (h U e σ H B _ _ _ rl hx fun v H1 B1 rl1 s1 k1 rz => ?_)
      obtain ⟨a, xs, rfl, hl, hr⟩ := rz.lst_inv
      exact ⟨a, rfl, ⟨xs, SqL.of (rl1.b.bh _ _ hl)⟩, post _ H1 B1 rl1 s1 k1 (walks_l (K := G.K) hl hr)⟩
    · cases hc
      refine .inr (h U e σ H B _ _ _ rl hx fun v H1 B1 rl1 s1 k1 rz => ?_)
      obtain ⟨a, xs, rfl, hl, hr⟩ := rz.tup_inv
      exact ⟨a, rfl, ⟨xs, same_t rl1.b.bh hl⟩, post _ H1 B1 rl1 s1 k1 (walks_t (SqT.of hl) hr)⟩
    · cases hc
      refine .inr (h U e σ H B _ _ _ rl hx fun v H1 B1 rl1 s1 k1 rz => ?_)
      obtain ⟨a, xs, rfl, hl, hr⟩ := Rz.kt_inv rl1.b rz
      exact ⟨a, rfl, ⟨xs, hl.sq⟩, post _ H1 B1 rl1 s1 k1 (walks_t hl.sq hr)⟩
    · cases hc
def rgD (lo : Int) (n : Nat) : List D := (List.range n).map fun (k : Nat) => PyData.int (lo + (k : Int))
theorem rgD_get {lo : Int} {n i : Nat} : (rgD lo n)[i]? = if i < n then some (.int (lo + (i : Int))) else none := by
  unfold rgD
  rw [List.getElem?_map]
  by_cases h : i < n
  · rw [if_pos h, List.getElem?_range h]; rfl
  · rw [if_neg h, List.getElem?_eq_none (by rw [List.length_range]; omega)]; rfl
theorem walks_r {lo : Int} {n : Nat} : Walks G pn (Itr lo n) (rgD lo n) B := by
  intro i U H B1 e σ s rl
  refine ⟨fun hi => by rw [rgD, List.length_map, List.length_range] at hi; exact hi, fun d hd => ?_⟩
  rw [rgD_get] at hd
  split at hd
  · next hi =>
    cases hd
    exact ⟨hi, fun y H' ⟨e1, e2⟩ => by subst e1; subst e2; exact ⟨B1, Same.refl _, Same.refl _, fun _ _ _ r => r, .int _⟩⟩
  · cases hd
def okR (i : Int) : Bool := decide (-1000000 ≤ i) && decide (i ≤ 1000000)
def rg1D : List D → Option (List D)
  | [.int j] => if okR j then some (rgD 0 j.toNat) else none
  | _ => none
def rg2D : List D → Option (List D)
  | [.int i, .int j] => if okR i && okR j then some (rgD i (j - i).toNat) else none
  | _ => none
theorem okR_eq {i : Int} (h : okR i = true) : -1000000 ≤ i ∧ i ≤ 1000000 := by
  unfold okR at h
  simpa using h
def rgI (φ : List D → Option (List D)) (f : FG (List D)) : FG (List D) := bindG f fun ds => optG (φ ds)
theorem ci_rg1 {t : TA} {f : FG (List D)} (h : CA G pn E t f) : CI G pn E (iRng1 t) (rgI rg1D f) := by
  refine CG.bind (t := t) h fun vs ds U e σ H B r p' Q rl ra hf post => ?_
  obtain ⟨c, hc, rfl, rfl⟩ := optG_eq hf
  unfold rg1D at hc
  split at hc
  · split at hc
    · next j hj =>
      cases hc
      have := okR_eq hj
      cases ra with
      | cons r1 r2 =>
        cases r2
        cases r1.int_inv
        exact ⟨j, rfl, by omega, by omega, post _ H B rl (Same.refl _) Keep.refl walks_r⟩
    · cases hc
  · cases hc
theorem ci_rg2 {t : TA} {f : FG (List D)} (h : CA G pn E t f) : CI G pn E (iRng2 t) (rgI rg2D f) := by
  refine CG.bind (t := t) h fun vs ds U e σ H B r p' Q rl ra hf post => ?_
  obtain ⟨c, hc, rfl, rfl⟩ := optG_eq hf
  unfold rg2D at hc
  split at hc
  · split at hc
    · next i j hj =>
      cases hc
      simp only [Bool.and_eq_true] at hj
      have h1 := okR_eq hj.1
      have h2 := okR_eq hj.2
      cases ra with
      | cons r1 r2 =>
        cases r2 with
        | cons r2 r3 =>
          cases r3
          cases r1.int_inv
          cases r2.int_inv
          exact ⟨i, j, rfl, ⟨by omega, by omega, by omega, by omega⟩, post _ H B rl (Same.refl _) Keep.refl walks_r⟩
    · cases hc
  · cases hc
/-! ### for -/
def forL (ft : FT) (body : FS) : List D → FS
  | [], e => some (.nx, e)
  | d :: ds, e => match ft d e.sl with
    | none => none
    | some sl => match body ⟨sl, e.pen⟩ with
      | none => none
      | some (.nx, e') => forL ft body ds e'
      | some (.ct, e') => forL ft body ds e'
      | some (.bk, e') => some (.nx, e')
      | some (.rt d, e') => some (.rt d, e')
      | some (.x c ns xs, e') => some (.x c ns xs, e')
def forS (fi : FG (List D)) (ft : FT) (body : FS) : FS := thenS fi fun ds => forL ft body ds
theorem drop_cons {ds : List D} {i : Nat} {d : D} {r : List D} (h : ds.drop i = d :: r) : ds[i]? = some d ∧ ds.drop (i + 1) = r ∧ i < ds.length := by
  have h1 : i < ds.length := by
    rcases Nat.lt_or_ge i ds.length with z | z
    · exact z
    · rw [List.drop_eq_nil_of_le z] at h; cases h
  rw [List.drop_eq_getElem_cons h1] at h
  cases h
  exact ⟨List.getElem?_eq_getElem h1, rfl, h1⟩
theorem cs_for {ti : TI} {g : TG} {tb : TS} {fi : FG (List D)} {ft : FT} {body : FS} (hi : CI G pn E ti fi) (hg : CTg G pn g ft) (hb : CS G pn E tb body) : CS G pn E (tFor ti g tb) (forS fi ft body) := by
  refine CS.of (t := ti) hi fun J ds U e σ H B r e' Dn rl wk hf post => ?_
  refine ⟨fun i m σ' H' => m = ds.length - i ∧ ∃ e1 B1, Rl G U pn e1 σ' H' B1 ∧ Same B B1 ∧ forL ft body (ds.drop i) e1 = some (r, e'), ⟨_, rfl, e, B, rl, Same.refl _, hf⟩, ?_⟩
  rintro i m σ1 H1 ⟨rfl, e1, B1, rl1, s1, h1⟩
  obtain ⟨w1, w2⟩ := wk i U H1 B1 e1 σ1 s1 rl1
  cases hd : ds.drop i with
  | nil =>
    rw [hd] at h1
    cases h1
    have hle : ds.length ≤ i := by
      rcases Nat.lt_or_ge i ds.length with z | z
      · rw [List.drop_eq_getElem_cons z] at hd; cases hd
      · exact z
    exact .inl ⟨w1 hle, post σ1 H1 B1 rl1 s1⟩
  | cons d rest =>
    rw [hd] at h1
    obtain ⟨g1, g2, g3⟩ := drop_cons hd
    obtain ⟨w3, w4⟩ := w2 d g1
    refine .inr ⟨w3, fun σ2 H2 => ∃ e2 B2, Rl G U pn e2 σ2 H2 B2 ∧ Same B B2 ∧ forL ft body (ds.drop (i + 1)) e2 = some (r, e'), fun σ2 H2 q => ⟨ds.length - (i + 1), by omega, rfl, q⟩, fun x H2 hy => ?_⟩
    obtain ⟨B2, s2, _, mv, rz⟩ := w4 x H2 hy
    rw [g2]
    unfold forL at h1
    cases ht : ft d e1.sl with
    | none => rw [ht] at h1; cases h1
    | some sl =>
      rw [ht] at h1
      dsimp only at h1
      have rl2 := mv U e1 σ1 rl1
      refine hg U e1 σ1 H2 B2 x d sl _ rl2 rz ht fun σ3 rl3 => ?_
      cases hbo : body ⟨sl, e1.pen⟩ with
      | none => rw [hbo] at h1; cases h1
      | some rp =>
        obtain ⟨rb, e3⟩ := rp
        rw [hbo] at h1
        have sB := s1.trans s2
        cases rb with
        | nx => exact hb U _ σ3 H2 B2 _ _ _ rl3 hbo fun σ4 H4 B4 rl4 s4 => ⟨e3, B4, rl4, sB.trans s4, h1⟩
        | ct => exact hb U _ σ3 H2 B2 _ _ _ rl3 hbo fun σ4 H4 B4 rl4 s4 => ⟨e3, B4, rl4, sB.trans s4, h1⟩
        | bk => cases h1; exact hb U _ σ3 H2 B2 _ _ _ rl3 hbo (post.up sB)
        | rt v => cases h1; exact hb U _ σ3 H2 B2 _ _ _ rl3 hbo (post.up sB)
        | x c ns xs => cases h1; exact hb U _ σ3 H2 B2 _ _ _ rl3 hbo (post.up sB)
/-! ### while: so many turns at most -/
def whileL (c : FG Bool) (body : FS) : Nat → FS
  | 0, _ => none
  | n + 1, e => match c e with
    | none => none
    | some (.x k ns ds, p) => some (.x k ns ds, ⟨e.sl, p⟩)
    | some (.v false, p) => some (.nx, ⟨e.sl, p⟩)
    | some (.v true, p) => match body ⟨e.sl, p⟩ with
      | none => none
      | some (.nx, e') => whileL c body n e'
      | some (.ct, e') => whileL c body n e'
      | some (.bk, e') => some (.nx, e')
      | some (.rt d, e') => some (.rt d, e')
      | some (.x c ns xs, e') => some (.x c ns xs, e')
theorem cs_while {c : TT} {tb : TS} {fc : FG Bool} {body : FS} (n : Nat) (hc : CT G pn E c fc) (hb : CS G pn E tb body) : CS G pn E (tWhile c tb) (whileL fc body n) := by
  intro U e σ H B r e' Dn rl hf post
  refine ⟨fun m σ' H' => ∃ e1 B1, Rl G U pn e1 σ' H' B1 ∧ Same B B1 ∧ whileL fc body m e1 = some (r, e'), ⟨n, e, B, rl, Same.refl _, hf⟩, ?_⟩
  rintro m σ1 H1 ⟨e1, B1, rl1, s1, h1⟩
  cases m with
  | zero => cases h1
  | succ m =>
    unfold whileL at h1
    cases hce : fc e1 with
    | none => rw [hce] at h1; cases h1
    | some rp =>
      obtain ⟨rc, p⟩ := rp
      rw [hce] at h1
      cases rc with
      | x k ns ds => cases h1; exact hc U e1 σ1 H1 B1 _ _ _ rl1 hce (post.up s1)
      | v b =>
        refine hc U e1 σ1 H1 B1 _ _ _ rl1 hce fun w H2 B2 rl2 s2 _ hw => ?_
        subst hw
        cases w with
        | false =>
          cases h1
          rw [if_neg (by simp)]
          exact post σ1 H2 B2 rl2 (s1.trans s2)
        | true =>
          rw [if_pos rfl]
          refine ⟨fun σ3 H3 => ∃ e3 B3, Rl G U pn e3 σ3 H3 B3 ∧ Same B B3 ∧ whileL fc body m e3 = some (r, e'), fun σ3 H3 q => ⟨m, Nat.lt_succ_self _, q⟩, ?_⟩
          dsimp only at h1
          have sB := s1.trans s2
          cases hbo : body ⟨e1.sl, p⟩ with
          | none => rw [hbo] at h1; cases h1
          | some rp =>
            obtain ⟨rb, e3⟩ := rp
            rw [hbo] at h1
            cases rb with
            | nx => exact hb U _ σ1 H2 B2 _ _ _ rl2 hbo fun σ4 H4 B4 rl4 s4 => ⟨e3, B4, rl4, sB.trans s4, h1⟩
            | ct => exact hb U _ σ1 H2 B2 _ _ _ rl2 hbo fun σ4 H4 B4 rl4 s4 => ⟨e3, B4, rl4, sB.trans s4, h1⟩
            | bk => cases h1; exact hb U _ σ1 H2 B2 _ _ _ rl2 hbo (post.up sB)
            | rt v => cases h1; exact hb U _ σ1 H2 B2 _ _ _ rl2 hbo (post.up sB)
            | x c ns xs => cases h1; exact hb U _ σ1 H2 B2 _ _ _ rl2 hbo (post.up sB)
/-! ### list comprehensions -/
def wipeS (sl : List Slot) : List Nat → List Slot
  | [] => sl
  | v :: vs => (wipeS sl vs).set v .u
theorem Rl.wipe (r : Rl G U pn e σ H B) : ∀ vs : List Nat, Rl G U pn ⟨wipeS e.sl vs, e.pen⟩ (wipe σ vs) H B
  | [] => r
  | v :: vs => (r.wipe vs).setU (w := none) v
/-- a target whose names are the comprehension's own -/
def CTw (G : Gm) (pn : Pn) (vs : List Nat) (g : TG) (f : FT) : Prop := ∀ U e σ0 σ H B v d sl' (Q : L2.St → Hp → Prop), Rl G U pn e σ H B → Rz G B v d → f d e.sl = some sl' → L2.wipe σ vs = L2.wipe σ0 vs →
  (∀ σ', L2.wipe σ' vs = L2.wipe σ0 vs → Rl G U pn ⟨sl', e.pen⟩ σ' H B → Q σ' H) → g v σ H Q
def CTws (G : Gm) (pn : Pn) (vs : List Nat) (g : TGs) (f : FTs) : Prop := ∀ U e σ0 σ H B ws ds sl' (Q : L2.St → Hp → Prop), Rl G U pn e σ H B → RzA G B ws ds → f ds e.sl = some sl' → L2.wipe σ vs = L2.wipe σ0 vs →
  (∀ σ', L2.wipe σ' vs = L2.wipe σ0 vs → Rl G U pn ⟨sl', e.pen⟩ σ' H B → Q σ' H) → g ws σ H Q
theorem wipe_set {σ : L2.St} {x : Option V} {i : Nat} : ∀ {vs : List Nat}, i ∈ vs → wipe (σ.set i x) vs = wipe σ vs
  | v :: vs, h => by
    unfold wipe
    by_cases z : i ∈ vs
    · rw [wipe_set z]
    · have e : v = i := ((List.mem_cons.mp h).resolve_right z).symm
      subst e
      clear h
      have : ∀ {ws : List Nat}, v ∉ ws → wipe (σ.set v x) ws = (wipe σ ws).set v x := by
        intro ws hw
        induction ws with
        | nil => rfl
        | cons w ws ih =>
          unfold wipe
          rw [ih fun q => hw (.tail _ q), List.set_comm _ _ (fun e => hw (by first | (rw [e]; exact .head _) | (rw [← e]; exact .head _)))]
      rw [this z, List.set_set]
theorem wipe_wipe {σ : L2.St} : ∀ (vs : List Nat), wipe (wipe σ vs) vs = wipe σ vs := fun vs => by
  have h : ∀ (us : List Nat), (∀ u ∈ us, u ∈ vs) → wipe (wipe σ us) vs = wipe σ vs := by
    intro us
    induction us with
    | nil => intro _; rfl
    | cons u us ih =>
      intro hs
      show wipe ((wipe σ us).set u none) vs = _
      rw [wipe_set (hs u (.head _))]
      exact ih fun w hw => hs w (.tail _ hw)
  exact h vs fun _ q => q
theorem wipeS_set {σ : List Slot} {x : Slot} {i : Nat} : ∀ {vs : List Nat}, i ∈ vs → wipeS (σ.set i x) vs = wipeS σ vs
  | v :: vs, h => by
    unfold wipeS
    by_cases z : i ∈ vs
    · rw [wipeS_set z]
    · have e : v = i := ((List.mem_cons.mp h).resolve_right z).symm
      subst e
      clear h
      have : ∀ {ws : List Nat}, v ∉ ws → wipeS (σ.set v x) ws = (wipeS σ ws).set v x := by
        intro ws hw
        induction ws with
        | nil => rfl
        | cons w ws ih =>
          unfold wipeS
          rw [ih fun q => hw (.tail _ q), List.set_comm _ _ (fun e => hw (by first | (rw [e]; exact .head _) | (rw [← e]; exact .head _)))]
      rw [this z, List.set_set]
theorem wipeS_wipe {σ : List Slot} : ∀ (vs : List Nat), wipeS (wipeS σ vs) vs = wipeS σ vs := fun vs => by
  have h : ∀ (us : List Nat), (∀ u ∈ us, u ∈ vs) → wipeS (wipeS σ us) vs = wipeS σ vs := by
    intro us
    induction us with
    | nil => intro _; rfl
    | cons u us ih =>
      intro hs
      show wipeS ((wipeS σ us).set u .u) vs = _
      rw [wipeS_set (hs u (.head _))]
      exact ih fun w hw => hs w (.tail _ hw)
  exact h vs fun _ q => q
/-- a target that stores to own names alone -/
def FTw (vs : List Nat) (f : FT) : Prop := ∀ d sl sl', f d sl = some sl' → wipeS sl' vs = wipeS sl vs
def FTws (vs : List Nat) (f : FTs) : Prop := ∀ d sl sl', f d sl = some sl' → wipeS sl' vs = wipeS sl vs
theorem fw_name {vs : List Nat} (i : Nat) (h : i ∈ vs) : FTw vs (nameT i) := by
  intro d sl sl' e
  cases e
  exact wipeS_set h
theorem fw_nil {vs : List Nat} : FTws vs nilT := by
  intro d sl sl' e
  unfold nilT at e
  split at e
  · cases e; rfl
  · cases e
theorem fw_cons {vs : List Nat} {f : FT} {g : FTs} (h1 : FTw vs f) (h2 : FTws vs g) : FTws vs (consT f g) := by
  intro d sl sl' e
  unfold consT at e
  split at e
  · cases e
  · obtain ⟨sl1, e1, e2⟩ := Option.bind_eq_some_iff.mp e
    exact (h2 _ _ _ e2).trans (h1 _ _ _ e1)
theorem fw_tup {vs : List Nat} {n : Nat} {f : FTs} (h1 : FTws vs f) : FTw vs (tupT n f) := by
  intro d sl sl' e
  unfold tupT at e
  split at e
  · split at e
    · exact h1 _ _ _ e
    · cases e
  · split at e
    · exact h1 _ _ _ e
    · cases e
  · cases e
theorem tw_name {vs : List Nat} (i : Nat) (h : i ∈ vs) : CTw G pn vs (gName i) (nameT i) := by
  intro U e σ0 σ H B v d sl' Q rl rz hf hw q
  cases hf
  exact q _ ((wipe_set h).trans hw) (rl.setD rz i)
theorem tw_nil {vs : List Nat} : CTws G pn vs gNil nilT := by
  intro U e σ0 σ H B ws ds sl' Q rl rz hf hw q
  unfold nilT at hf
  split at hf
  · cases hf; cases rz; exact ⟨rfl, q σ hw rl⟩
  · cases hf
theorem tw_cons {vs : List Nat} {t : TG} {u : TGs} {f : FT} {g : FTs} (h1 : CTw G pn vs t f) (h2 : CTws G pn vs u g) : CTws G pn vs (gCons t u) (consT f g) := by
  intro U e σ0 σ H B ws ds sl' Q rl rz hf hw q
  unfold consT at hf
  cases rz with
  | nil => cases hf
  | cons r1 r2 =>
    obtain ⟨sl1, e1, e2⟩ := Option.bind_eq_some_iff.mp hf
    exact ⟨_, _, rfl, h1 U e σ0 σ H B _ _ sl1 _ rl r1 e1 hw fun σ' hw' rl' => h2 U ⟨sl1, e.pen⟩ σ0 σ' H B _ _ sl' Q rl' r2 e2 hw' q⟩
theorem tw_tup {vs : List Nat} {n : Nat} {t : TGs} {f : FTs} (h1 : CTws G pn vs t f) : CTw G pn vs (gTup G.K n t) (tupT n f) := by
  intro U e σ0 σ H B v d sl' Q rl rz hf hw q
  unfold tupT at hf
  split at hf
  · next ds =>
    split at hf
    · next hn =>
      obtain ⟨a, xs, rfl, hx, hr⟩ := rz.tup_inv
      exact ⟨a, xs, rfl, same_t rl.b.bh hx, by rw [hr.length, hn], h1 U e σ0 σ H B xs ds sl' Q rl hr hf hw q⟩
    · cases hf
  · next ds =>
    split at hf
    · next hn =>
      obtain ⟨a, xs, rfl, hx, hr⟩ := Rz.kt_inv rl.b rz
      exact ⟨a, xs, rfl, hx.sq, by rw [hr.length, hn], h1 U e σ0 σ H B xs ds sl' Q rl hr hf hw q⟩
    · cases hf
  · cases hf
def lcL (slw : List Slot) (ft : FT) (test : FG Bool) (elt : FG D) : List D → PenS → Option (List D × PenS)
  | [], p => some ([], p)
  | d :: ds, p => match ft d slw with
    | none => none
    | some sl => match test ⟨sl, p⟩ with
      | some (.v true, p1) => match elt ⟨sl, p1⟩ with
        | some (.v x, p2) => (lcL slw ft test elt ds p2).map fun r => (x :: r.1, r.2)
        | _ => none
      | some (.v false, p1) => lcL slw ft test elt ds p1
      | _ => none
theorem Rl.addU (r : Rl G U pn e σ H B) {p : Addr} {o : HO} (h : H p = none) : Rl G (upd U p o) pn e σ (upd H p o) B := by
  have tb := r.b.tabN (o := o) (o2 := o) h (.inl rfl) (.inr rfl)
  obtain ⟨⟨bh, uh, bu, pe⟩, os, s, n, f⟩ := r
  have hB : B p = none := bh.free h
  refine ⟨⟨bh.trans (same_upd h), fun a x hx => ?_, fun a x hx => ?_, fun q hq => ?_, tb⟩, os, s.grow (Same.refl _) (fun q hq => ?_), n, fun q hq => ?_⟩
  · by_cases z : a = p
    · rw [z, upd_same] at hx ⊢; exact hx
    · rw [upd_ne z] at hx ⊢; exact uh a x hx
  · rw [upd_ne (ne_of_none hx hB)]; exact bu a x hx
  · obtain ⟨h1, h2, h3, h4⟩ := pe q hq
    have nq : q.1 ≠ p := fun z => by rw [← z, h3] at h; cases h
    exact ⟨h1, (upd_ne nq).trans h2, (upd_ne nq).trans h3, h4⟩
  · exact upd_ne fun z => (s.notin h) (z ▸ hq)
  · obtain ⟨h1, h2, h3⟩ := f q hq
    have nq : q ≠ p := fun z => (s.notin h) (z ▸ hq)
    exact ⟨h1, (upd_ne nq).trans h2, h3⟩
theorem Rl.swapU {p : Addr} {o o' : HO} (hno : NoC o) (r : Rl G (upd U p o) pn e σ H B) : Rl G (upd U p o') pn e σ (upd H p o') B ∧ H p = some o ∧ B p = none ∧ NP pn p := by
  have np : NP pn p := r.b.npU upd_same
  have tb := r.b.tab
  obtain ⟨⟨bh, uh, bu, pe⟩, os, s, n, f⟩ := r
  have hp : H p = some o := uh p o upd_same
  have hB : B p = none := (Base.mk bh uh bu pe tb).nub upd_same hno.nt
  have no : p ∉ os := fun z => by
    have := (f p z).2.1
    rw [upd_same] at this
    cases this
  refine ⟨⟨⟨fun a x hx => ?_, fun a x hx => ?_, fun a x hx => ?_, fun q hq => ?_, fun q hq => ?_⟩, os, s.grow (Same.refl _) (fun q hq => ?_), n, fun q hq => ?_⟩, hp, hB, np⟩
  · rw [upd_ne (ne_of_none hx hB)]; exact bh a x hx
  · by_cases z : a = p
    · rw [z, upd_same] at hx ⊢; exact hx
    · rw [upd_ne z] at hx ⊢
      have := uh a x
      rw [upd_ne z] at this
      exact this hx
  · have := bu a x hx
    rw [upd_ne (ne_of_none hx hB)] at this ⊢
    exact this
  · obtain ⟨h1, h2, h3, h4⟩ := pe q hq
    have nq : q.1 ≠ p := fun z => (np q hq).1 z.symm
    rw [upd_ne nq] at h2
    exact ⟨h1, (upd_ne nq).trans h2, (upd_ne nq).trans h3, h4⟩
  · obtain ⟨h1, h2, h3, h3'⟩ := tb q hq
    refine ⟨fun t ht => ⟨(h1 t ht).1, ?_⟩, tabs_mut h2 hp hno, h3.mut hp hno, h3'⟩
    · have := (h1 t ht).2
      have nt : t.1 ≠ p := fun z => (np q hq).2 t ht z.symm
      rw [upd_ne nt] at this ⊢
      exact this
  · exact upd_ne fun z => no (z ▸ hq)
  · obtain ⟨h1, h2, h3⟩ := f q hq
    have nq : q ≠ p := fun z => no (z ▸ hq)
    rw [upd_ne nq] at h2
    exact ⟨h1, (upd_ne nq).trans h2, h3⟩
theorem Base.unU {q : PenS} {p : Addr} {o : HO} (b : Base (upd U p o) pn q H B) (hU : U p = none) (no : NoC o) : Base U pn q H B := by
  have np := b.npU (a := p) upd_same
  refine ⟨b.bh, fun a x h => b.uh a x ((upd_ne (ne_of_none h hU)).trans h), fun a x h => ?_, fun q hq => ?_, fun q hq => ?_⟩
  · have := b.bu a x h
    by_cases z : a = p
    · rw [z]; exact .inl hU
    · rw [upd_ne z] at this; exact this
  · obtain ⟨h1, h2, h3, h4⟩ := b.pen q hq
    rw [upd_ne (fun z => (np q hq).1 z.symm)] at h2
    exact ⟨h1, h2, h3, h4⟩
  · obtain ⟨h1, h2, h3⟩ := b.tab q hq
    refine ⟨fun t ht => ⟨(h1 t ht).1, ?_⟩, h2, h3⟩
    have := (h1 t ht).2
    rw [upd_ne (fun z => (np q hq).2 t ht z.symm)] at this
    exact this
/-- which objects one owns -/
def isO : Option Slot → Bool
  | some (.o _) => true
  | _ => false
def ownA1 (x : Option V) (y : Slot) (r : List Addr) : List Addr := match x, y with
  | some (.ref p), .o _ => p :: r
  | _, _ => r
def ownA : L2.St → List Slot → List Addr
  | [], _ => []
  | _ :: _, [] => []
  | x :: σ, y :: ρ => ownA1 x y (ownA σ ρ)
theorem ownA_nil : ∀ (σ : L2.St), ownA σ [] = []
  | [] => rfl
  | _ :: _ => rfl
theorem ownA1_no {x : Option V} {y : Slot} {r : List Addr} (h : isO (some y) = false) : ownA1 x y r = r := by
  cases y with
  | o d => cases h
  | u => cases x with | none => rfl | some v => cases v <;> rfl
  | d d => cases x with | none => rfl | some v => cases v <;> rfl
  | p => cases x with | none => rfl | some v => cases v <;> rfl
  | f => cases x with | none => rfl | some v => cases v <;> rfl
  | me a => cases x with | none => rfl | some v => cases v <;> rfl
theorem Slots.own : ∀ {σ : L2.St} {ρ : List Slot} {os : List Addr}, Slots G pn B H σ ρ os → os = ownA σ ρ
  | _, _, _, .nil => rfl
  | _, _, _, .u t => t.own.trans (ownA1_no rfl).symm
  | _, _, _, .d _ t => t.own.trans (ownA1_no rfl).symm
  | _, _, _, .o _ t => congrArg _ t.own
  | _, _, _, .p _ t => t.own.trans (ownA1_no rfl).symm
  | _, _, _, .fo _ t => t.own.trans (ownA1_no rfl).symm
  | _, _, _, .me t => t.own.trans (ownA1_no rfl).symm
theorem ownA_set : ∀ (σ : L2.St) (ρ : List Slot) (i : Nat), isO ρ[i]? = false → ownA (σ.set i none) (ρ.set i .u) = ownA σ ρ
  | [], _, _, _ => by rfl
  | x :: σ, [], i, _ => by rw [List.set_nil, ownA_nil, ownA_nil]
  | x :: σ, y :: ρ, 0, h => (ownA1_no (x := none) (y := .u) (r := ownA σ ρ) rfl).trans (ownA1_no (x := x) (r := ownA σ ρ) h).symm
  | x :: σ, y :: ρ, i + 1, h => congrArg (ownA1 x y) (ownA_set σ ρ i (by simpa using h))
theorem wipeS_get {sl : List Slot} {i : Nat} : ∀ (vs : List Nat), isO sl[i]? = false → isO (wipeS sl vs)[i]? = false
  | [], h => h
  | v :: vs, h => by
    unfold wipeS
    by_cases z : v = i
    · subst z
      by_cases l : v < (wipeS sl vs).length
      · rw [List.getElem?_set_self l]; rfl
      · rw [List.getElem?_eq_none (by rw [List.length_set]; omega)]; rfl
    · rw [List.getElem?_set_ne z]
      exact wipeS_get vs h
theorem ownA_wipe {σ : L2.St} {sl : List Slot} : ∀ {vs : List Nat}, (∀ v ∈ vs, isO sl[v]? = false) → ownA (wipe σ vs) (wipeS sl vs) = ownA σ sl
  | [], _ => rfl
  | v :: vs, h => by
    show ownA ((wipe σ vs).set v none) ((wipeS sl vs).set v .u) = _
    rw [ownA_set _ _ _ (wipeS_get vs (h v (.head _))), ownA_wipe fun w hw => h w (.tail _ hw)]
/-- back in the def's own slots -/
theorem Rl.back {q1 : PenS} {p : Addr} {xs : List V} {ds : List D} {vs : List Nat} (r0 : Rl G U pn e σ H B) (h0 : H p = none) (hv : ∀ v ∈ vs, isO e.sl[v]? = false) (r1 : Rl G (upd U p (.lst xs)) pn ⟨wipeS e.sl vs, q1⟩ (L2.wipe σ vs) H1 B1) (s : Same B B1) (k : Keep pn H H1) (hr : RzA G B1 xs ds) :
    Fresh G U pn ⟨e.sl, q1⟩ σ H1 B1 p (.list ds) := by
  obtain ⟨_, hp, hB, np⟩ := r1.swapU (o' := .lst xs) noC_lst
  have tb1 := r1.b.tab
  obtain ⟨⟨bh, uh, bu, pe⟩, os1, s1, _, f1⟩ := r1
  obtain ⟨b0, os, s0, n, f⟩ := r0
  have hU : U p = none := b0.uh.free h0
  have eo : os1 = os := by rw [s1.own, ownA_wipe hv, s0.own]
  subst eo
  refine ⟨⟨bh, fun a x hx => ?_, fun a x hx => ?_, fun q hq => ?_, fun q hq => ?_⟩, ⟨os1, s0.grow s (fun q hq => ?_), n, fun q hq => ?_, s0.notin h0⟩, .lst hp hr, hB, hU, np⟩
  · exact uh a x ((upd_ne (ne_of_none hx hU)).trans hx)
  · have := bu a x hx
    by_cases z : a = p
    · rw [z]; exact .inl hU
    · rw [upd_ne z] at this; exact this
  · obtain ⟨h1, h2, h3, h4⟩ := pe q hq
    have nq : q.1 ≠ p := fun z => (np q hq).1 z.symm
    rw [upd_ne nq] at h2
    exact ⟨h1, h2, h3, h4⟩
  · obtain ⟨h1, h2, h3⟩ := tb1 q hq
    refine ⟨fun t ht => ⟨(h1 t ht).1, ?_⟩, h2, h3⟩
    have := (h1 t ht).2
    rw [upd_ne (fun z => (np q hq).2 t ht z.symm)] at this
    exact this
  · obtain ⟨o, ho⟩ := s0.there hq
    rw [ho]
    exact k q o ho (f q hq).2.2
  · exact ⟨(f1 q hq).1, (f q hq).2⟩
def lcG (vs : List Nat) (fi : FG (List D)) (ft : FT) (test : FG Bool) (elt : FG D) : FG D := bindG fi fun ds e =>
  if vs.any (fun v => isO e.sl[v]?) = true then none else
  match lcL (wipeS e.sl vs) ft test elt ds e.pen with
  | none => none
  | some (xs, p) => if xs.length ≤ 1000000 then some (.v (.list xs), p) else none
theorem lcL_inv {slw : List Slot} {ft : FT} {test : FG Bool} {elt : FG D} {d : D} {ds xs : List D} {p q : PenS} (h : lcL slw ft test elt (d :: ds) p = some (xs, q)) :
    ∃ sl, ft d slw = some sl ∧ ((∃ p1 x p2 ys, test ⟨sl, p⟩ = some (.v true, p1) ∧ elt ⟨sl, p1⟩ = some (.v x, p2) ∧ lcL slw ft test elt ds p2 = some (ys, q) ∧ xs = x :: ys) ∨
      ∃ p1, test ⟨sl, p⟩ = some (.v false, p1) ∧ lcL slw ft test elt ds p1 = some (xs, q)) := by
  unfold lcL at h
  split at h
  · cases h
  · next sl hs =>
    refine ⟨sl, hs, ?_⟩
    split at h
    · next p1 ht =>
      split at h
      · next x p2 hx =>
        obtain ⟨⟨ys, q'⟩, h1, h2⟩ := Option.map_eq_some_iff.mp h
        cases h2
        exact .inl ⟨p1, x, p2, ys, ht, hx, h1, rfl⟩
      · cases h
    · next p1 ht => exact .inr ⟨p1, ht, h⟩
    · cases h
theorem cf_lc {vs : List Nat} {ti : TI} {g : TG} {tt : TT} {te : TE} {fi : FG (List D)} {ft : FT} {test : FG Bool} {elt : FG D} (hi : CI G pn E ti fi) (hg : CTw G pn vs g ft) (hf' : FTw vs ft) (ht : CT G pn E tt test) (he : CE G pn E te elt) :
    CF G pn E (tLc ti g tt te vs) (lcG vs fi ft test elt) := by
  refine CF.bind (t := ti) hi fun J ds U e σ H B r p' Q rl wk hf post => ?_
  intro D hD
  split at hf
  · cases hf
  next hv =>
  simp only [Bool.not_eq_true, Bool.not_eq_false', List.any_eq_false] at hv
  split at hf
  · cases hf
  next xs p hx =>
  split at hf
  · next hl =>
    cases hf
    have hv' : ∀ v ∈ vs, isO e.sl[v]? = false := fun v m => by simpa using hv v m
    have rl0 := (rl.addU (o := .lst []) hD).wipe vs
    refine ⟨fun i m H' => m = ds.length - i ∧ ∃ q1 B1 acc ws rest, Rl G (upd U D (.lst ws)) pn ⟨wipeS e.sl vs, q1⟩ (wipe σ vs) H' B1 ∧ Same B B1 ∧ Keep pn H H' ∧ RzA G B1 ws acc ∧ lcL (wipeS e.sl vs) ft test elt (ds.drop i) q1 = some (rest, p') ∧ acc ++ rest = xs,
      ⟨_, rfl, e.pen, B, [], [], xs, rl0, Same.refl _, Keep.of (same_upd hD), .nil, hx, rfl⟩, ?_⟩
    rintro i m H1 ⟨rfl, q1, B1, acc, ws, rest, rl1, s1, k1, rz1, h1, hxs⟩
    obtain ⟨w1, w2⟩ := wk i _ H1 B1 _ _ s1 rl1
    cases hd : ds.drop i with
    | nil =>
      rw [hd] at h1
      cases h1
      have hle : ds.length ≤ i := by
        rcases Nat.lt_or_ge i ds.length with z | z
        · rw [List.drop_eq_getElem_cons z] at hd; cases hd
        · exact z
      rw [List.append_nil] at hxs
      subst hxs
      exact .inl ⟨w1 hle, post D H1 B1 (rl.back hD hv' rl1 s1 k1 rz1) s1 k1⟩
    | cons d more =>
      rw [hd] at h1
      obtain ⟨g1, g2, g3⟩ := drop_cons hd
      obtain ⟨w3, w4⟩ := w2 d g1
      refine .inr ⟨w3, fun H' => ∃ q1 B1 acc ws rest, Rl G (upd U D (.lst ws)) pn ⟨wipeS e.sl vs, q1⟩ (wipe σ vs) H' B1 ∧ Same B B1 ∧ Keep pn H H' ∧ RzA G B1 ws acc ∧ lcL (wipeS e.sl vs) ft test elt (ds.drop (i + 1)) q1 = some (rest, p') ∧ acc ++ rest = xs,
        fun H' q => ⟨ds.length - (i + 1), by omega, rfl, q⟩, fun x H2 hy => ?_⟩
      obtain ⟨B2, s2, sh, mv, rz⟩ := w4 x H2 hy
      rw [g2]
      obtain ⟨sl, hs, hcase⟩ := lcL_inv h1
      have rl2 := mv _ _ _ rl1
      have k2 : Keep pn H H2 := k1.trans (.of sh)
      have s12 := s1.trans s2
      refine hg _ _ σ (wipe σ vs) H2 B2 x d sl _ rl2 rz hs (wipe_wipe vs) fun σ3 hw rl3 => ⟨hw, ?_⟩
      have hw' : wipe σ3 vs = wipe σ vs := hw
      rcases hcase with ⟨p1, y, p2, ys, h2, h3, h4, rfl⟩ | ⟨p1, h2, h4⟩
      · refine ht _ _ σ3 H2 B2 _ _ _ rl3 h2 fun b H3 B3 rl4 s3 k3 hb => ?_
        subst hb
        rw [if_pos rfl]
        refine he _ _ σ3 H3 B3 _ _ _ rl4 h3 fun v H4 B4 rl5 s4 k4 rv => ?_
        obtain ⟨rl6, hp, hB4, np⟩ := rl5.swapU (o' := .lst (ws ++ [v])) noC_lst
        have sall := s12.trans (s3.trans s4)
        have r4 : RzA G B4 (ws ++ [v]) (acc ++ [y]) := (rz1.same (s2.trans (s3.trans s4))).app (.cons rv .nil)
        have hlen : ws.length < sizeLine := by
          rw [rz1.length]
          have : acc.length ≤ xs.length := by rw [← hxs, List.length_append]; omega
          exact line_lt (by omega)
        refine ⟨ws, hp, hlen, p2, B4, acc ++ [y], ws ++ [v], ys, ?_, sall, ?_, r4, h4, by rw [← hxs]; simp⟩
        · have z := rl6.wipe vs
          rw [hw'] at z
          have e2 : wipeS sl vs = wipeS e.sl vs := (hf' _ _ _ hs).trans (wipeS_wipe vs)
          simp only [e2] at z
          exact z
        · intro a o ha hn
          have hne : a ≠ D := fun z => by rw [z, hD] at ha; cases ha
          rw [upd_ne hne]
          exact (k2.trans (k3.trans k4)) a o ha hn
      · refine ht _ _ σ3 H2 B2 _ _ _ rl3 h2 fun b H3 B3 rl4 s3 k3 hb => ?_
        subst hb
        rw [if_neg (by simp)]
        refine ⟨p1, B3, acc, ws, rest, ?_, s12.trans s3, k2.trans k3, rz1.same (s2.trans s3), h4, hxs⟩
        have z := rl4.wipe vs
        rw [hw'] at z
        have e2 : wipeS sl vs = wipeS e.sl vs := (hf' _ _ _ hs).trans (wipeS_wipe vs)
        simp only [e2] at z
        exact z
  · cases hf
end
end Fw

set_option linter.all false
set_option maxRecDepth 100000
set_option maxHeartbeats 4000000
namespace Fw
open PySem PySem.Spec PyProof.Rows L2
/-! ### defs that are called where nothing is being shown, so that they may ask for repr -/
structure RoomG (n : Nat) (A : Around) : Prop where
  r : L2.Room n A
  g : A.guards = some []
theorem RoomG.mono {m n : Nat} {A : Around} (h : RoomG n A) (le : m ≤ n) : RoomG m A := ⟨h.r.mono le, h.g⟩
theorem RoomG.deeper {n : Nat} {A : Around} (h : RoomG (n + 1) A) (en : Env) : RoomG n (A.deeper en) := ⟨h.r.deeper en, h.g⟩
theorem guards_make {A : Around} {C : Addr} {us : List Value} {kw : List (Str × Value)} (h : A.guards = some []) : (A.under (.builtin "type.__call__" ⟨.ref C :: us, kw⟩)).guards = some [] := by
  have e : (A.under (.builtin "type.__call__" ⟨.ref C :: us, kw⟩)).guards = A.guards := by
    first | rfl | simp [Around.under, Code.guards, Code.isGuard, guardIds, pushGuards]
  rw [e, h]
theorem RoomG.make {n : Nat} {A : Around} (h : RoomG (n + 1) A) (C : Addr) (us : List Value) (kw : List (Str × Value)) : RoomG n (A.under (.builtin "type.__call__" ⟨.ref C :: us, kw⟩)) := ⟨h.r.make C us kw, guards_make h.g⟩
structure FnG (Pr : Program) (wo : World) (K : PySem.W.Frag) (mg : Str → Option Value) (base : Heap) (cx : CXT) (n : Nat) (f : Addr) (fd : FuncData) (ps : List Str) (sp : Sp) : Prop where
  len : ∀ ws H Q E, sp ws H Q E → ws.length = ps.length
  run : ∀ (A : Around) (fr : List Env) (s : Shared) (H : Hp) (as : Args) (us : List Value) (ws : List V) (Q : VK) (E : XK), RoomG n A → Env0 Pr wo K mg base A fr s H → BindsTo s fd as (ps.zip us) → Vals ws us → sp ws H Q E → codeAny (model Pr wo) A (.call (.ref f) as) (CR cx fr Pr wo H s Q E) s
section
variable {Pr : Program} {wo : World} {K : PySem.W.Frag} {mg : Str → Option Value} {base : Heap} {cx : CXT} {n m : Nat} {f : Addr} {fd : FuncData} {ps N : List Str} {sp : Sp}
theorem FnG.mono (F : FnG Pr wo K mg base cx m f fd ps sp) (le : m ≤ n) : FnG Pr wo K mg base cx n f fd ps sp := ⟨F.len, fun A fr s H as us ws Q E hr => F.run A fr s H as us ws Q E (hr.mono le)⟩
theorem fnG_of {x qual : Str} {st : Stmt} (F : Fun K x qual st f fd) (S : FnScope N ps (defScope st)) (len : ∀ ws H Q E, sp ws H Q E → ws.length = ps.length)
    (bd : ∀ (cdv : Value) (A : Around) (fr : List Env) (s : Shared) (H : Hp) (ws : List V) (Q : VK) (E : XK), RoomG n (A.deeper (envOfC qual (defScope st) s.heap.objs.size f cdv)) → sp ws H Q E →
      ∃ t, PSs (cxOf cx Pr wo K mg base N qual (defScope st) f cdv A fr s H E) (defBody st) t ∧ t { nx := fun _ H' => Q .non H', rt := Q } (L2.start N ws) H) : FnG Pr wo K mg base cx (n + 1) f fd ps sp := by
  obtain ⟨_, _, _, _, _, _, cdv, _, _, rfl, look, code⟩ := F.ex
  constructor
  · exact len
  intro A fr s H as us ws Q E room e0 bi rv pre
  have same := len _ _ _ _ pre
  have inK : K.In s.heap := e0.mod.kin.keeps fun b o e => And.left (e0.bs b o e)
  have kinds : ∀ z ∈ ps.zip us, (defScope st).names.lookup z.1 = some .local ∨ ((defScope st).names.lookup z.1 = some .cell ∧ ((cellsFrom (s.heap.objs.size + 1) (defScope st).names []).lookup z.1).isSome = true) := by
    rintro ⟨y, v⟩ hz
    exact (S.par y (List.of_mem_zip hz).1).imp id fun c => ⟨c, PySem.W.cellsFrom_some _ _ _ (Or.inl c)⟩
  refine codeAny_call_function room.r.depth (inK _ _ look) rfl S.co S.gen rfl (PySem.W.codeRec_of inK code) (bi _ _ _ _ (wpAny_newFunctionEnv_cells S.kind kinds ?_))
  rintro env rfl s1 born
  refine ⟨(e0.mod.nolimit.keeps fun b o e => And.left (e0.bs b o e)).keeps born.toInCall.keep, codeAny_func ?_⟩
  obtain ⟨t, runs, post⟩ := bd cdv A fr s H ws Q E (room.deeper _) pre
  have I := inv_start (CX := cx) (E := E) S room.r.hd e0 same rv born
  have out : ∀ (z : V) (y : Value) (σ : L2.St) (H' : Hp) (s' : Shared), Inv (cxOf cx Pr wo K mg base N qual (defScope st) f cdv A fr s H E) [] σ H' s' → RelV z y → Q z H' → L2.CE fr Pr wo H s Q y s' := fun z y σ H' s' J r q => ⟨z, H', J.os, J.bare, J.base, J.hok, r, q⟩
  refine wpAny_mono (runs.run [] s1 (L2.start N ws) H _ I post) (fun fl s' e => ?_) fun _ _ e => e
  match fl, e with
  | .ret y, ⟨z, σ, H', J, r, q⟩ => exact out z y σ H' s' J r q
  | .next, ⟨σ, H', J, q⟩ => exact out .non .none σ H' s' J rfl q
  | .brk, ⟨_, _, _, q⟩ => exact q.elim
  | .cont, ⟨_, _, _, q⟩ => exact q.elim
end
section
variable {X : Cx} {cx : CXT} {n : Nat} {f C : Addr} {fd : FuncData} {ps : List Str} {sp : Sp} {dvs : List V} {ds : List Value} {E : XK} {x : Str} {p pos : Pos} {e : Expr} {es : List Expr} {t : TA} {pins : List (Addr × Obj)} {σ : L2.St} {H : Hp} {s : Shared} {Q : VK} {us : List Value} {ws : List V}
theorem runG (F : FnG X.prog X.w X.K X.mg X.base cx n f fd ps sp) (room : RoomG n X.A) (bi : Binds X.K fd ps ds) (dv : Vals dvs ds) (out : Passes cx X E) (I : Inv X pins σ H s) (rv : Vals ws us) (pre : sp (ws ++ dvs) H Q E) : wpAny (model X.prog X.w) X.A (call (.ref f) us) (EP X pins σ Q) X.xe s := by
  have all : Vals (ws ++ dvs) (us ++ ds) := rv.append dv
  have same : (us ++ ds).length = ps.length := all.length.symm.trans (F.len _ _ _ _ pre)
  refine wpAny_call (codeAny_mono (F.run X.A X.stack s H ⟨us, []⟩ (us ++ ds) (ws ++ dvs) Q E room I.env0 (bi s us I.kIn same) all pre) ?_)
  intro r s' h
  match r, h with
  | .error y, h => exact out pins σ H s y s' I h
  | .ok (.ret y), h => exact I.after h
  | .ok .next, h => exact h.elim
  | .ok .brk, h => exact h.elim
  | .ok .cont, h => exact h.elim
theorem pe_call (F : FnG X.prog X.w X.K X.mg X.base cx n f fd ps sp) (room : RoomG n X.A) (gl : Gl X x) (at_ : X.mg x = some (.ref f)) (kp : PySem.W.keepIn X.K (.ref f) = true) (bi : Binds X.K fd ps ds) (dv : Vals dvs ds) (out : Passes cx X E) (as : PA X (e :: es) t)
    (nd : (x == ("__debug__" : Str)) = false := by decide) (h1 : starEach (e :: es) X.env = (false, eval e X.env) :: starEach es X.env := by rfl) (h2 : (backTo pos (starEach es X.env)).any (·.1) = false := by rfl) : PE X (.Call (.Name x p) (e :: es) [] pos) (tCall sp dvs E t) := by
  constructor
  intro pins s σ H Q I pre
  exact wpAny_Call_Name_kw (ld_glob I gl at_ (PySem.W.callWith_K (h₀ := X.base) I.ok.mod.kin kp (thn (as.run pos pins s σ H _ I pre) fun us s1 z => match z with
    | ⟨ws, H1, I1, r, q⟩ => ⟨I1.kIn, runG F room bi dv out I1 r q⟩) h1 h2) nd)
theorem pe_call0 (F : FnG X.prog X.w X.K X.mg X.base cx n f fd ps sp) (room : RoomG n X.A) (gl : Gl X x) (at_ : X.mg x = some (.ref f)) (kp : PySem.W.keepIn X.K (.ref f) = true) (bi : Binds X.K fd ps ds) (dv : Vals dvs ds) (out : Passes cx X E)
    (nd : (x == ("__debug__" : Str)) = false := by decide) : PE X (.Call (.Name x p) [] [] pos) (tCall sp dvs E tNil) := by
  constructor
  intro pins s σ H Q I pre
  exact wpAny_Call_Name_kw (ld_glob I gl at_ (PySem.W.callWith_K0 I.kIn kp (runG (us := []) F room bi dv out I .nil pre)) nd)
theorem makeG (M : Mk X.K C f) (F : FnG X.prog X.w X.K X.mg X.base cx n f fd ps sp) (room : RoomG (n + 1) X.A) (bi : Binds X.K fd ps ds) (dv : Vals dvs ds) (out : Passes cx X E) (I : Inv X pins σ H s) (rv : Vals ws us)
    (pre : ∀ x dx, H x = none → H dx = none → dx ≠ x → sp (.ref x :: (ws ++ dvs)) (upd (upd H dx (.own x)) x (.ins C dx [])) (fun v H2 => v = .non ∧ Q (.ref x) H2) E) : wpAny (model X.prog X.w) X.A (call (.ref C) us) (EP X pins σ Q) X.xe s := by
  have q0 := pre (s.heap.objs.size + 1) s.heap.objs.size (I.hok.fresh (Nat.le_succ _)) (I.hok.fresh (Nat.le_refl _)) (Nat.ne_of_lt (Nat.lt_succ_self _))
  have J := Inv.made (C := C) I
  have all : Vals (V.ref (s.heap.objs.size + 1) :: (ws ++ dvs)) (Value.ref (s.heap.objs.size + 1) :: (us ++ ds)) := .cons rfl (rv.append dv)
  have same : (Value.ref (s.heap.objs.size + 1) :: us ++ ds).length = ps.length := by
    rw [← F.len _ _ _ _ q0]
    exact all.length.symm
  refine wpAny_call (make_map (f := f) I.kIn M.makes M.init (beq_iff_eq.mp M.fn) (codeAny_mono (F.run _ X.stack _ _ ⟨Value.ref (s.heap.objs.size + 1) :: us, []⟩ (Value.ref (s.heap.objs.size + 1) :: (us ++ ds)) _ _ E (room.make C us []) (J.env0.make C us []) (bi _ (Value.ref (s.heap.objs.size + 1) :: us) J.kIn same) all q0) ?_))
  intro r s' h
  match r, h with
  | .error y, h => exact out pins σ _ _ y s' J h
  | .ok (.ret y), h =>
    obtain ⟨z, H', J2, rz, ez, q2⟩ := J.after h
    subst ez
    exact ⟨rz, ⟨V.ref (s.heap.objs.size + 1), H', J2, rfl, q2⟩⟩
  | .ok .next, h => exact h.elim
  | .ok .brk, h => exact h.elim
  | .ok .cont, h => exact h.elim
theorem pe_make (M : Mk X.K C f) (F : FnG X.prog X.w X.K X.mg X.base cx n f fd ps sp) (room : RoomG (n + 1) X.A) (gl : Gl X x) (at_ : X.mg x = some (.ref C)) (bi : Binds X.K fd ps ds) (dv : Vals dvs ds) (out : Passes cx X E) (as : PA X (e :: es) t)
    (nd : (x == ("__debug__" : Str)) = false := by decide) (h1 : starEach (e :: es) X.env = (false, eval e X.env) :: starEach es X.env := by rfl) (h2 : (backTo pos (starEach es X.env)).any (·.1) = false := by rfl) : PE X (.Call (.Name x p) (e :: es) [] pos) (tMake C sp dvs E t) := by
  constructor
  intro pins s σ H Q I pre
  exact wpAny_Call_Name_kw (ld_glob I gl at_ (PySem.W.callWith_K (h₀ := X.base) I.ok.mod.kin M.kp (thn (as.run pos pins s σ H _ I pre) fun us s1 z => match z with
    | ⟨ws, H1, I1, r, q⟩ => ⟨I1.kIn, makeG M F room bi dv out I1 r q⟩) h1 h2) nd)
theorem op_ownG (hs : PySem.W.findIn X.K (.ref C) "__eq__" = some (some (.ref f))) (hf : PySem.W.isFn X.K (.ref f) = true) (F : FnG X.prog X.w X.K X.mg X.base cx n f fd ps sp) (bi : Binds X.K fd ps []) (room : RoomG n X.A) (out : Passes cx X E) : OpR X (compareOp .Eq) (Sb.rOwnE X.K C sp E) := by
  intro pins s σ H x y v u Q I rx ry h
  obtain ⟨a, dx, fs, t, rfl, ha, ty, hn, q⟩ := h
  cases (show v = Value.ref a from rx)
  obtain ⟨mA, J, _⟩ := ins_get I.hok ha
  obtain ⟨od, J, _⟩ := J.look
  obtain ⟨m, hF⟩ := I.fr
  obtain ⟨P, kx, hP, _⟩ := kit_of I ry ty
  show wpAny (model X.prog X.w) X.A (richCompare .Eq (.ref a) u) (EP X pins σ Q) X.xe s
  refine PySem.W.cmp_K (op := .Eq) (tb := t) room.r.units0 hF I.ok.mod.kin J (kx.ty _ _ I.kIn hP) hn hs hf ?_
  refine wpAny_mono (runG (us := [.ref a, u]) (ws := [.ref a, y]) (ds := []) (dvs := []) F room bi .nil out I (.cons rfl (.cons ry .nil)) q) (fun w s' z => ?_) fun _ _ x => x
  obtain ⟨z', H', I', rz, qz⟩ := z
  exact SlX.cmpback rz ⟨z', H', I', rz, qz⟩
end
end Fw

set_option linter.all false
set_option maxRecDepth 100000
set_option maxHeartbeats 4000000
namespace Fw
open PySem PySem.Spec PyProof.Rows L2
/-! ### defs: what they tell of data -/
abbrev FF := List D → PenS → Option (Rs D × PenS)
def pen0 : PenS := ⟨[], 0, 0, 0, 0⟩
def penV : Pn → List V
  | none => []
  | some q => [.ref q.1]
def isPen (pn : Pn) (a : Addr) : Bool := match pn with
  | none => false
  | some q => a == q.1 || q.T.any fun t => a == t.1
theorem isPen_no {pn : Pn} {a : Addr} (h : NP pn a) : isPen pn a = false := by
  cases pn with
  | none => rfl
  | some q =>
    show (a == q.1 || q.T.any fun t => a == t.1) = false
    rw [Bool.or_eq_false_iff]
    refine ⟨beq_eq_false_iff_ne.mpr (h q rfl).1, ?_⟩
    rw [List.any_eq_false]
    exact fun t ht => by simpa using (h q rfl).2 t ht
theorem isPen_of {pn : Pn} {a : Addr} (h : isPen pn a = false) : NP pn a := fun q hq => by
  subst hq
  have h' : (a == q.1 || q.T.any fun t => a == t.1) = false := h
  rw [Bool.or_eq_false_iff, List.any_eq_false] at h'
  exact ⟨beq_eq_false_iff_ne.mp h'.1, fun t ht => by simpa using h'.2 t ht⟩
/-- all else, for a callee -/
def outU (pn : Pn) (B H : Hp) : Hp := fun a => match B a with
  | some _ => none
  | none => if isPen pn a = true then none else H a
theorem outU_of {pn : Pn} {B H : Hp} {a : Addr} {o : HO} (h : H a = some o) (hb : B a = none) (hn : NP pn a) : outU pn B H a = some o := by
  unfold outU
  rw [hb]
  show (if isPen pn a = true then none else H a) = _
  rw [isPen_no hn, if_neg (by simp), h]
theorem outU_in {pn : Pn} {B H : Hp} {a : Addr} {o : HO} (h : outU pn B H a = some o) : B a = none ∧ NP pn a ∧ H a = some o := by
  unfold outU at h
  split at h
  · cases h
  · next hb =>
    split at h
    · cases h
    · next hp => exact ⟨hb, isPen_of (by simpa using hp), h⟩
def PostR (G : Gm) (U : Hp) (pn : Pn) (B : Hp) (p' : PenS) (Q : VK) (E : XK) : Rs D → Prop
  | .v d => ∀ v H' B', Base U pn p' H' B' → Same B B' → Rz G B' v d → Q v H'
  | .x c ns ds => ∀ cls ao H' B', Base U pn p' H' B' → Same B B' → XAt G B' H' cls ao c ns ds → E cls ao H'
/-- a def that raises nothing -/
def spN (G : Gm) (pen : Bool) (n : Nat) (F : FF) : Sp := fun vs H Q _ => ∃ (pn : Pn) (U B : Hp) (ws : List V) (ds : List D) (p p' : PenS) (d : D),
  vs = penV pn ++ ws ∧ pn.isSome = pen ∧ ds.length = n ∧ Base U pn p H B ∧ RzA G B ws ds ∧ F ds p = some (.v d, p') ∧ ∀ v H' B', Base U pn p' H' B' → Same B B' → Rz G B' v d → Q v H'
/-- a def that may raise -/
def spX (G : Gm) (pen : Bool) (n : Nat) (F : FF) : Sp := fun vs H Q E => ∃ (pn : Pn) (U B : Hp) (ws : List V) (ds : List D) (p p' : PenS) (r : Rs D),
  vs = penV pn ++ ws ∧ pn.isSome = pen ∧ ds.length = n ∧ Base U pn p H B ∧ RzA G B ws ds ∧ F ds p = some (r, p') ∧ PostR G U pn B p' Q E r
section
variable {α β : Type} {G : Gm} {U : Hp} {pn : Pn} {E : XK} {e : Ev} {σ : L2.St} {H B H' B' H1 B1 : Hp}
theorem Rl.there (r : Rl G U pn e σ H B) {os : List Addr} (s : Slots G pn B H σ e.sl os) {q : Addr} (h : q ∈ os) : ∃ o, H q = some o := s.there h
/-- ahead of a call -/
theorem Rl.call0 (r : Rl G U pn e σ H B) : Base (outU none B H) none pen0 H B :=
  ⟨r.b.bh, fun a o h => (outU_in h).2.2, fun a o h => .inl (by unfold outU; rw [h]), (fun q hq => by cases hq), (fun q hq => by cases hq)⟩
theorem Base.call1 {p : PenS} (b : Base U pn p H B) : Base (outU pn B H) pn p H B := by
  refine ⟨b.bh, fun a o h => (outU_in h).2.2, fun a o h => .inl (by unfold outU; rw [h]), fun q hq => ?_, fun q hq => ?_⟩
  · obtain ⟨h1, h2, h3, h4⟩ := b.pen q hq
    refine ⟨h1, ?_, h3, h4⟩
    cases h : outU pn B H q.1 with
    | none => rfl
    | some o => exact absurd rfl ((outU_in h).2.1 q hq).1
  · obtain ⟨h1, h2, h3⟩ := b.tab q hq
    refine ⟨fun t ht => ⟨(h1 t ht).1, ?_⟩, h2, h3⟩
    cases h : outU pn B H t.1 with
    | none => rfl
    | some o => exact absurd rfl (((outU_in h).2.1 q hq).2 t ht)
theorem Rl.call1 (r : Rl G U pn e σ H B) : Base (outU pn B H) pn e.pen H B := r.b.call1
theorem Rl.uh1 (r : Rl G U pn e σ H B) {a : Addr} {o : HO} (h : U a = some o) : NP pn a ∧ H a = some o := ⟨r.b.npU h, r.b.uh a o h⟩
/-- behind a call -/
theorem Rl.after0 (r : Rl G U pn e σ H B) {q : PenS} (b : Base (outU none B H) none q H' B') (s : Same B B') : Rl G U pn e σ H' B' ∧ Keep pn H H' := by
  have r' := r
  obtain ⟨⟨bh, uh, bu, pe⟩, os, ss, n, f⟩ := r
  have np : ∀ a, NP none a := fun a q hq => by cases hq
  have out : ∀ {a : Addr} {o : HO}, H a = some o → B a = none → H' a = some o ∧ ((∀ xs, o ≠ .tup xs) → B' a = none) := fun {a o} h hb => by
    have hu := outU_of h hb (np a)
    exact ⟨b.uh a o hu, fun nt => b.nub hu nt⟩
  have kp : Same H H' := fun c o hc => by
    cases hb : B c with
    | none => exact (out hc hb).1
    | some x => exact b.bh _ _ (s _ _ (by rw [hb]; exact (bh c x hb).symm.trans hc))
  refine ⟨⟨⟨b.bh, fun a o h => kp _ _ (uh a o h), fun a o h => ?_, fun q hq => ?_, fun q hq => ?_⟩, os, ss.grow s (fun q hq => ?_), n, fun q hq => ?_⟩, fun a o h hn => kp _ _ h⟩
  · cases hu : U a with
    | none => exact .inl rfl
    | some x =>
      have hx := uh a x hu
      have e : x = o := Option.some.inj ((kp _ _ hx).symm.trans (b.bh a o h))
      by_cases t : ∃ xs, o = .tup xs
      · exact .inr t
      · have nt : ∀ xs, x ≠ .tup xs := fun xs z => t ⟨xs, by rw [← e]; exact z⟩
        rw [(out hx (r'.b.nub hu nt)).2 nt] at h
        cases h
  · obtain ⟨h1, h2, h3, h4⟩ := pe q hq
    exact ⟨(out h3 h1).2 (fun xs z => nomatch z), h2, (out h3 h1).1, s _ _ h4⟩
  · obtain ⟨h1, h2, h3, h4⟩ := r'.b.tab q hq
    refine ⟨fun t ht => ⟨?_, (h1 t ht).2⟩, h2.ext kp, h3.up kp, h4.trans s⟩
    obtain ⟨ps, hp, _⟩ := h2 t ht
    exact (out hp (h1 t ht).1).2 (fun xs z => nomatch z)
  · obtain ⟨o, ho⟩ := ss.there hq
    rw [ho]
    exact (out ho (f q hq).1).1
  · obtain ⟨o, ho, nc⟩ := ss.thereC hq
    exact ⟨(out ho (f q hq).1).2 nc.nt, (f q hq).2⟩
theorem Rl.after1 (r : Rl G U pn e σ H B) {q : PenS} (b : Base (outU pn B H) pn q H' B') (s : Same B B') : Rl G U pn ⟨e.sl, q⟩ σ H' B' ∧ Keep pn H H' := by
  have r' := r
  obtain ⟨⟨bh, uh, bu, pe⟩, os, ss, n, f⟩ := r
  have out : ∀ {a : Addr} {o : HO}, H a = some o → B a = none → NP pn a → H' a = some o ∧ ((∀ xs, o ≠ .tup xs) → B' a = none) := fun {a o} h hb np => by
    have hu := outU_of h hb np
    exact ⟨b.uh a o hu, fun nt => b.nub hu nt⟩
  have kp : Keep pn H H' := fun c o hc np => by
    cases hb : B c with
    | none => exact (out hc hb np).1
    | some x => exact b.bh _ _ (s _ _ (by rw [hb]; exact (bh c x hb).symm.trans hc))
  refine ⟨⟨⟨b.bh, fun a o h => kp _ _ (uh a o h) (r'.uh1 h).1, fun a o h => ?_, fun q hq => ?_, fun q hq => ?_⟩, os, ss.grow s (fun q hq => ?_), n, fun q hq => ?_⟩, kp⟩
  · cases hu : U a with
    | none => exact .inl rfl
    | some x =>
      obtain ⟨h2, hx⟩ := r'.uh1 hu
      have e : x = o := Option.some.inj ((kp _ _ hx h2).symm.trans (b.bh a o h))
      by_cases t : ∃ xs, o = .tup xs
      · exact .inr t
      · have nt : ∀ xs, x ≠ .tup xs := fun xs z => t ⟨xs, by rw [← e]; exact z⟩
        rw [(out hx (r'.b.nub hu nt) h2).2 nt] at h
        cases h
  · obtain ⟨h1, h2, h3, h4⟩ := b.pen q hq
    exact ⟨h1, (pe q hq).2.1, h3, h4⟩
  · obtain ⟨h1, h2, h3⟩ := r'.b.tab q hq
    obtain ⟨g1, g2, g3⟩ := b.tab q hq
    exact ⟨fun t ht => ⟨(g1 t ht).1, (h1 t ht).2⟩, g2, g3⟩
  · obtain ⟨o, ho⟩ := ss.there hq
    rw [ho]
    exact (out ho (f q hq).1 (f q hq).2.2).1
  · obtain ⟨o, ho, nc⟩ := ss.thereC hq
    exact ⟨(out ho (f q hq).1 (f q hq).2.2).2 nc.nt, (f q hq).2⟩
/-- f(..), f raises nothing -/
def callN (n : Nat) (F : FF) (f : FG (List D)) : FG D := bindG f fun ds e => if ds.length = n then (match F ds pen0 with
  | some (.v d, _) => some (.v d, e.pen)
  | _ => none) else none
theorem ce_callN {n : Nat} {F : FF} {f : FG (List D)} {t : TA} {E' : XK} (h : CA G pn E t f) : CE G pn E (tCall (spN G false n F) [] E' t) (callN n F f) := by
  refine CG.bind (t := t) h fun ws ds U e σ H B r p' Q rl ra hf post => ?_
  split at hf
  · next hn =>
    split at hf
    · next d q hF =>
      cases hf
      refine ⟨none, outU none B H, B, ws, ds, pen0, q, d, by rw [List.append_nil]; rfl, rfl, hn, rl.call0, ra, hF, fun v H' B' b s rz => ?_⟩
      obtain ⟨rl', k⟩ := rl.after0 b s
      exact post v H' B' rl' s k rz
    · cases hf
  · cases hf
def isP (e : Ev) (i : Nat) : Bool := match e.sl[i]? with
  | some .p => true
  | _ => false
theorem isP_eq {i : Nat} (h : isP e i = true) : e.sl[i]? = some .p := by
  unfold isP at h
  split at h
  · next h' => exact h'
  · cases h
/-- f(pen, ..) -/
def callP (n i : Nat) (F : FF) (f : FG (List D)) : FG D := fun e => if isP e i = true then bindG f (fun ds e => if ds.length = n then (match F ds e.pen with
  | some (.v d, p) => some (.v d, p)
  | _ => none) else none) e else none
theorem ce_callP {n i : Nat} {F : FF} {f : FG (List D)} {t : TA} {E' : XK} (h : CA G pn E t f) : CE G pn E (tCall (spN G true n F) [] E' (tCons (tVar i) t)) (callP n i F f) := by
  intro U e σ H B r p' Q rl hf post
  unfold callP at hf
  split at hf
  · next hi =>
    obtain ⟨os, ss, _, _⟩ := rl.s
    obtain ⟨qi, hs, hp⟩ := ss.getP (isP_eq hi)
    refine ⟨_, hs, ?_⟩
    rcases bind_inv hf with ⟨c', ns, ds, hx, rfl⟩ | ⟨ds, q, hx, hg⟩
    · exact h U e σ H B _ _ _ rl hx post
    · refine h U e σ H B _ _ _ rl hx fun ws H1 B1 rl1 s1 k1 ra => ?_
      split at hg
      · next hn =>
        split at hg
        · next d q' hF =>
          cases hg
          refine ⟨pn, outU pn B1 H1, B1, ws, ds, q, _, d, by rw [List.append_nil, hp]; rfl, by rw [hp]; rfl, hn, rl1.call1, ra, hF, fun v H' B' b s rz => ?_⟩
          obtain ⟨rl', k⟩ := rl1.after1 b s
          exact post v H' B' rl' (s1.trans s) (k1.trans k) rz
        · cases hg
      · cases hg
  · cases hf
/-- a call that may raise -/
def callX (n : Nat) (F : FF) (f : FG (List D)) : FG D := bindG f fun ds e => if ds.length = n then (match F ds pen0 with
  | some (r, _) => some (r, e.pen)
  | none => none) else none
theorem Rl.base' (r : Rl G U pn e σ H B) : Base U pn e.pen H B := r.b
theorem ce_callX {n : Nat} {F : FF} {f : FG (List D)} {t : TA} (h : CA G pn E t f) : CE G pn E (tCall (spX G false n F) [] E t) (callX n F f) := by
  refine CG.bind (t := t) h fun ws ds U e σ H B r p' Q rl ra hf post => ?_
  split at hf
  · next hn =>
    split at hf
    · next r q hF =>
      cases hf
      refine ⟨none, outU none B H, B, ws, ds, pen0, q, r, by rw [List.append_nil]; rfl, rfl, hn, rl.call0, ra, hF, ?_⟩
      cases r with
      | v d =>
        intro v H' B' b s rz
        obtain ⟨rl', k⟩ := rl.after0 b s
        exact post v H' B' rl' s k rz
      | x c ns es =>
        intro cls ao H' B' b s x
        obtain ⟨rl', k⟩ := rl.after0 b s
        exact post cls ao H' B' rl'.b s x
    · cases hf
  · cases hf
/-! ### from a body to its def -/
def ofFl : Option (Fl × Ev) → Option (Rs D × PenS)
  | some (.rt d, e) => some (.v d, e.pen)
  | some (.nx, e) => some (.v .none, e.pen)
  | some (.x c ns ds, e) => some (.x c ns ds, e.pen)
  | _ => none
def slots0 (pen : Bool) (N : Nat) (ds : List D) : List Slot := (if pen = true then [Slot.p] else []) ++ (ds.map Slot.d ++ List.replicate (N - ((if pen = true then 1 else 0) + ds.length)) .u)
def defF (pen : Bool) (N : Nat) (f : FS) : FF := fun ds p => ofFl (f ⟨slots0 pen N ds, p⟩)
theorem Slots.us : ∀ (n : Nat), Slots G pn B H (List.replicate n none) (List.replicate n .u) []
  | 0 => .nil
  | n + 1 => .u (Slots.us n)
theorem Slots.ds {σ : L2.St} {ρ : List Slot} {os : List Addr} (t : Slots G pn B H σ ρ os) : ∀ {vs : List V} {ds : List D}, RzA G B vs ds → Slots G pn B H (vs.map some ++ σ) (ds.map Slot.d ++ ρ) os
  | _, _, .nil => t
  | _, _, .cons h r => .d h (t.ds r)
theorem start_rl {N : List Str} {ws : List V} {ds : List D} {p : PenS} {pen : Bool} (b : Base U pn p H B) (hp : pn.isSome = pen) (ra : RzA G B ws ds) : Rl G U pn ⟨slots0 pen N.length ds, p⟩ (L2.start N (penV pn ++ ws)) H B := by
  refine ⟨b, [], ?_, .nil, fun q hq => by cases hq⟩
  unfold L2.start slots0
  cases pn with
  | none =>
    cases hp
    show Slots _ _ _ _ (ws.map some ++ List.replicate (N.length - ws.length) none) (ds.map Slot.d ++ List.replicate (N.length - (0 + ds.length)) .u) _
    rw [Nat.zero_add, ra.length]
    exact (Slots.us _).ds ra
  | some q =>
    cases hp
    show Slots _ _ _ _ (some (.ref q.1) :: (ws.map some ++ List.replicate (N.length - (ws.length + 1)) none)) (.p :: (ds.map Slot.d ++ List.replicate (N.length - (1 + ds.length)) .u)) _
    rw [Nat.add_comm 1, ra.length]
    exact .p rfl ((Slots.us _).ds ra)
theorem run_n {pen : Bool} {n : Nat} {N : List Str} {f : FS} {ts : TS} {vs : List V} {Q : VK} {E' : XK} (hcs : ∀ pn, CS G pn E0 ts f) (h : spN G pen n (defF pen N.length f) vs H Q E') : ts { nx := fun _ H' => Q .non H', rt := Q } (L2.start N vs) H := by
  obtain ⟨pn, U, B, ws, ds, p, p', d, rfl, hp, hn, b, ra, hF, post⟩ := h
  unfold defF ofFl at hF
  have rl := start_rl (N := N) b hp ra
  split at hF
  · next d' e' he => cases hF; exact hcs pn U _ _ H B _ _ _ rl he fun v H' B' b s rz => post v H' B' b s rz
  · next e' he => cases hF; exact hcs pn U _ _ H B _ _ _ rl he fun σ' H' B' r s => post .non H' B' r.b s .non
  · cases hF
  · cases hF
theorem run_x {pen : Bool} {n : Nat} {N : List Str} {f : FS} {ts : TS} {vs : List V} {Q : VK} (hcs : ∀ pn, CS G pn E ts f) (h : spX G pen n (defF pen N.length f) vs H Q E) : ts { nx := fun _ H' => Q .non H', rt := Q } (L2.start N vs) H := by
  obtain ⟨pn, U, B, ws, ds, p, p', d, rfl, hp, hn, b, ra, hF, post⟩ := h
  unfold defF ofFl at hF
  have rl := start_rl (N := N) b hp ra
  split at hF
  · next d' e' he => cases hF; exact hcs pn U _ _ H B _ _ _ rl he fun v H' B' b s rz => post v H' B' b s rz
  · next e' he => cases hF; exact hcs pn U _ _ H B _ _ _ rl he fun σ' H' B' r s => post .non H' B' r.b s .non
  · next c ns es e' he => cases hF; exact hcs pn U _ _ H B _ _ _ rl he fun cls ao H' B' b s x => post cls ao H' B' b s x
  · cases hF
theorem spN_len {pen : Bool} {n : Nat} {F : FF} {vs : List V} {Q : VK} {E' : XK} (h : spN G pen n F vs H Q E') : vs.length = (if pen = true then 1 else 0) + n := by
  obtain ⟨pn, U, B, ws, ds, p, p', d, rfl, hp, hn, b, ra, hF, post⟩ := h
  rw [List.length_append, ra.length, hn]
  cases pn with
  | none => cases hp; rfl
  | some q => cases hp; rfl
theorem spX_len {pen : Bool} {n : Nat} {F : FF} {vs : List V} {Q : VK} {E' : XK} (h : spX G pen n F vs H Q E') : vs.length = (if pen = true then 1 else 0) + n := by
  obtain ⟨pn, U, B, ws, ds, p, p', d, rfl, hp, hn, b, ra, hF, post⟩ := h
  rw [List.length_append, ra.length, hn]
  cases pn with
  | none => cases hp; rfl
  | some q => cases hp; rfl
end
section
variable {P : Program} {w : World} {K : PySem.W.Frag} {mg : Str → Option Value} {base : Heap} {G : Gm}
/-- a def's facts -/
structure FnD (K : PySem.W.Frag) (mg : Str → Option Value) (P : Program) (w : World) (base : Heap) (CX : CXT) (x : Str) (lv : Nat) (ps : List Str) (sp : Sp) : Prop where
  ex : ∃ (f : Addr) (fd : FuncData), mg x = some (.ref f) ∧ PySem.W.keepIn K (.ref f) = true ∧ Binds K fd ps [] ∧ FnG P w K mg base CX lv f fd ps sp
theorem fn_n {x qual : Str} {st : Stmt} {f : Addr} {fd : FuncData} {N ps : List Str} {k n : Nat} {pen : Bool} {F : FS} (Fn : Fun K x qual st f fd) (S : FnScope N ps (defScope st)) (hl : ps.length = (if pen = true then 1 else 0) + n)
    (hbody : ∀ (cdv : Value) (A : Around) (outer : List Env) (s : Shared) (H : Hp) (E : XK), RoomG k (A.deeper (envOfC qual (defScope st) s.heap.objs.size f cdv)) →
      ∃ t, PSs (cxOf CX0 P w K mg base N qual (defScope st) f cdv A outer s H E).nox (defBody st) t ∧ ∀ pn, CS G pn E0 t F) : FnG P w K mg base CX0 (k + 1) f fd ps (spN G pen n (defF pen N.length F)) := by
  refine fnG_of Fn S (fun vs H Q E h => by rw [spN_len h, hl]) (fun cdv A outer s H vs Q E hr h => ?_)
  obtain ⟨t, h1, h2⟩ := hbody cdv A outer s H E hr
  exact ⟨t, h1.nox, run_n h2 h⟩
end
end Fw

set_option linter.all false
set_option maxRecDepth 100000
set_option maxHeartbeats 4000000
namespace Fw
open PySem PySem.Spec PyProof.Rows L2
abbrev dSub := dI fun i j => i - j
abbrev dAnd := dI Builtin.bitAnd
abbrev dOr := dI Builtin.bitOr
abbrev dXor := dI Builtin.bitXor
abbrev dLt := dB fun i j => decide (i < j)
abbrev dLe := dB fun i j => decide (i ≤ j)
abbrev dGt := dB fun i j => decide (j < i)
abbrev dGe := dB fun i j => decide (j ≤ i)
theorem hu65 {k : Nat} {A : Around} (r : Room k A) : A.units + 65 < cLine := by have := r.un; omega
/-- a def that stands in the text, with what it tells -/
structure Fn (K : PySem.W.Frag) (mg : Str → Option Value) (P : Program) (w : World) (base : Heap) (CX : CXT) (x : Str) (lv : Nat) (f : Addr) (fd : FuncData) (ps : List Str) (sp : Sp) : Prop where
  g : mg x = some (.ref f)
  k : PySem.W.keepIn K (.ref f) = true
  b : Binds K fd ps []
  G : FnG P w K mg base CX lv f fd ps sp
/-- the built-ins that the text has not renamed -/
structure Bv (mg : Str → Option Value) : Prop where
  isinstance : mg "isinstance" = none
  int : mg "int" = none
  bool : mg "bool" = none
  str : mg "str" = none
  tuple : mg "tuple" = none
  list : mg "list" = none
  dict : mg "dict" = none
  set : mg "set" = none
  len : mg "len" = none
  all : mg "all" = none
  any : mg "any" = none
  enumerate : mg "enumerate" = none
  zip : mg "zip" = none
  range : mg "range" = none
  sorted : mg "sorted" = none
  max : mg "max" = none
  min : mg "min" = none
  abs : mg "abs" = none
  repr : mg "repr" = none
  reversed : mg "reversed" = none
  sum : mg "sum" = none
  divmod : mg "divmod" = none
section
variable {α β : Type} {G : Gm} {U : Hp} {pn : Pn} {E : XK} {e : Ev} {σ : L2.St} {H B H' B' H1 B1 : Hp}
/-! ### slices -/
theorem co_none : CO G pn E tNoPart (retG none) := by
  intro U e σ H B r p' Q rl hf post
  cases hf
  exact post none H B rl (Same.refl _) Keep.refl rfl
def partD : D → Option (Option Int)
  | .int i => some (some i)
  | _ => none
def partG (f : FG D) : FG (Option Int) := bindG f fun d => optG (partD d)
theorem co_some {t : TE} {f : FG D} (h : CE G pn E t f) : CO G pn E (tPart t) (partG f) := by
  refine CG.bind (t := t) h fun v a U e σ H B r p' Q rl ra hf post => ?_
  obtain ⟨c, hc, rfl, rfl⟩ := optG_eq hf
  unfold partD at hc
  split at hc
  · next i => cases hc; exact ⟨i, ra.int_inv, post _ H B rl (Same.refl _) Keep.refl rfl⟩
  · cases hc
def slG (f : FG D) (lo hi : FG (Option Int)) : FG D := bindG f fun a => bindG lo fun l => bindG hi fun h => optG (dSl l h a)
theorem ce_sl {t : TE} {tl th : TO} {f : FG D} {lo hi : FG (Option Int)} (h : CB G pn E t f) (h1 : CO G pn E tl lo) (h2 : CO G pn E th hi) : CE G pn E (tSl (uSl G.K) t tl th) (slG f lo hi) := by
  refine CB.bind2 (t := t) (u := tl) (k := fun v w σ H Q => th σ H fun u H3 => uSl G.K v w u H3 Q) (h := fun a l => bindG hi fun h => optG (dSl l h a)) h h1 fun v w a b U e σ H B r p' Q rl ra rb hf post => ?_
  subst rb
  rcases bind_inv hf with ⟨c, ns, ds, hx, rfl⟩ | ⟨u, q, hx, hg⟩
  · exact h2 U e σ H B _ _ _ rl hx post
  · refine h2 U e σ H B _ _ _ rl hx fun u' H1 B1 rl1 s1 k1 hu => ?_
    subst hu
    obtain ⟨c, hc, rfl, rfl⟩ := optG_eq hg
    have ra := ra.keep k1 s1
    unfold dSl at hc
    split at hc
    · cases hc
      obtain ⟨a1, xs, rfl, hl, n1, r1⟩ := ra.lst_inv
      refine .inl ⟨a1, xs, rfl, SqL.of hl, fun p hp => ?_⟩
      have hB := rl1.b.bh.free hp
      exact post _ _ _ (rl1.new hp) (s1.trans (same_upd hB)) (k1.trans (Keep.of (same_upd hp))) (.lst upd_same ((r1.cut _ _).same (same_upd hB)))
    · cases hc
      obtain ⟨a1, xs, rfl, hl, r1⟩ := ra.tup_inv
      refine .inr ⟨a1, xs, rfl, same_t rl1.b.bh hl, fun z => ?_, fun _ p hp => ?_⟩
      · have e1 : cutD ‹_› w u' = ‹List D› := by
          unfold cutD
          rw [r1.length] at z
          rw [z.1, z.2, List.drop_zero, Nat.sub_zero, List.take_length]
        rw [e1] at post
        exact post _ H1 B1 rl1 s1 k1 (.tup hl r1)
      · have hB := rl1.b.bh.free hp
        exact post _ _ _ (rl1.new hp) (s1.trans (same_upd hB)) (k1.trans (Keep.of (same_upd hp))) (.tup upd_same ((r1.cut _ _).same (same_upd hB)))
    · cases hc
/-! ### list(range(..)) -/
def rgV3 (i c : Int) (n : Nat) : List V := (List.range n).map fun (k : Nat) => V.int (i + (k : Int) * c)
def rgD3 (i c : Int) (n : Nat) : List D := (List.range n).map fun (k : Nat) => PyData.int (i + (k : Int) * c)
def tLr3 (ta : TA) : TE := fun σ H Q => ta σ H fun vs H1 => ∃ (i j c : Int) (n : Nat), vs = [.int i, .int j, .int c] ∧ RgC i j c n ∧ n ≤ 1000000 ∧ ∀ p, H1 p = none → Q (.ref p) (upd H1 p (.lst (rgV3 i c n)))
theorem pe_lr3 {X : Cx} {a b c : Expr} {ta : TA} {p p2 pos pos2 : Pos} (hc : X.calm = true) (hg : Gl X "range") (hm : X.mg "range" = none) (hg2 : Gl X "list") (hm2 : X.mg "list" = none) (ha : PA X [a, b, c] ta)
    (hs : starEach [a, b, c] X.env = (false, eval a X.env) :: starEach [b, c] X.env := by rfl) (hpl : (backTo pos (starEach [b, c] X.env)).any (·.1) = false := by rfl)
    (hs2 : starEach [.Call (.Name "range" p) [a, b, c] [] pos] X.env = (false, eval (.Call (.Name "range" p) [a, b, c] [] pos) X.env) :: starEach [] X.env := by rfl) :
    PE X (.Call (.Name "list" p2) [.Call (.Name "range" p) [a, b, c] [] pos] [] pos2) (tLr3 ta) := by
  refine ⟨fun pins s σ H Q I h => ?_⟩
  refine Call_ (ld_blt I hg2 hm2 boot_list (PyProof.Rows.callWith_type1 (args_cons ?_ hs2) hs2))
  refine Call_ (ld_blt I hg hm boot_range (PyProof.Rows.callWith_type1 (thn (ha.run pos pins s σ H _ I h) fun us s1 ⟨vs, H1, I1, r1, q1⟩ => ?_) hs hpl))
  obtain ⟨i, j, k, n, e, ⟨c0, c1, c2, c3⟩, hn, q⟩ := q1
  subst e
  cases r1 with
  | cons r rr =>
    cases rr with
    | cons r' rr =>
      cases rr with
      | cons r'' rr =>
        cases rr
        obtain ⟨t, rfl⟩ := r
        obtain ⟨t', rfl⟩ := r'
        obtain ⟨t'', rfl⟩ := r''
        refine call_range_3 c0 (args_nil ?_) (.inl (PyProof.noPylong_small c1))
        have I2 : Inv X pins σ H1 { s1 with heap := s1.heap.push { cls := .type "range", data := .fields #[.int i t, .int j t', .int k t''] } } := I1.kept (t' := s1.toks) fun b o e => Heap.get?_push_of_some _ e
        refine call_list_range (n := n) (I2.ok.hd hc) (IsRange.new ..) c2 c3 (Nat.le_trans hn (by decide)) fun h' tk acc c' hk e' hi => ?_
        have hlen : acc.toList.length = n := by rw [Array.length_toList]; exact hi.1
        have hv : Vals (rgV3 i k n) acc.toList := by
          unfold rgV3
          rw [← hlen]
          refine vals_of_get acc.toList _ fun j u hj => ?_
          obtain ⟨t, rfl⟩ := hi.2 j u (by rw [← hj, Array.getElem?_toList])
          exact ⟨t, rfl⟩
        refine ⟨.ref _, upd H1 _ (.lst (rgV3 i k n)), I2.laid hk (Nat.le_refl _) (show ObjOk X.prog X.w _ _ _ (.lst (rgV3 i k n)) from ⟨?_, acc.toList, c', hv, ?_⟩), rfl, q _ (I2.hok.fresh (Nat.le_refl _))⟩
        · rw [rgV3, List.length_map, List.length_range]; exact line_of hn
        · rw [Array.toArray_toList]; exact e'
theorem rzA_rg3 {i c : Int} {n : Nat} : RzA G B (rgV3 i c n) (rgD3 i c n) := by
  unfold rgV3 rgD3
  generalize List.range n = l
  induction l with
  | nil => exact .nil
  | cons k t ih => exact .cons (.int _) ih
/-- how many turns a range has -/
def rgN (i j c : Int) : Nat := (Builtin.Range.rangeSize i j c).toNat
def lr3D : List D → Option D
  | [.int i, .int j, .int c] => if okR i && okR j && (c == 1 || c == -1 || c == 2) then some (.list (rgD3 i c (rgN i j c))) else none
  | _ => none
theorem rgC_of {i j c : Int} (h : (okR i && okR j && (c == 1 || c == -1 || c == 2)) = true) : RgC i j c (rgN i j c) ∧ rgN i j c ≤ 3000000 := by
  simp only [Bool.and_eq_true, Bool.or_eq_true, beq_iff_eq] at h
  obtain ⟨⟨h1, h2⟩, h3⟩ := h
  have a1 := okR_eq h1
  have a2 := okR_eq h2
  rcases h3 with (rfl | rfl) | rfl
  · refine ⟨⟨by decide, by decide, small_one (by omega) (by omega) (by omega) (by omega), ?_⟩, ?_⟩
    · unfold rgN; rw [rangeSize_one]; split <;> omega
    · unfold rgN; rw [rangeSize_one]; split <;> omega
  · refine ⟨⟨by decide, by decide, PySem.W.small_down (by omega) (by omega) (by omega) (by omega), ?_⟩, ?_⟩
    · unfold rgN; rw [PySem.W.rangeSize_downNat]; rfl
    · unfold rgN; rw [PySem.W.rangeSize_downNat]; omega
  · have e : Builtin.Range.rangeSize i j 2 = if i < j then (j - i - 1) / 2 + 1 else 0 := by
      unfold Builtin.Range.rangeSize
      simp only [show (2 : Int) > 0 by decide, if_true]
    have sm : Builtin.Range.small i j 2 = true := by
      unfold Builtin.Range.small
      rw [e]
      simp only [Builtin.Range.rangeFitsLong, Bool.and_eq_true, Bool.or_eq_true, decide_eq_true_eq, beq_iff_eq, show (2 : Int) > 0 by decide, if_true]
      split <;> omega
    refine ⟨⟨by decide, by decide, sm, ?_⟩, ?_⟩
    · unfold rgN; rw [e]; split <;> omega
    · unfold rgN; rw [e]; split <;> omega
def lrG (f : FG (List D)) : FG D := bindG f fun ds => optG ((lr3D ds).bind fun d => match d with
  | .list xs => few xs (.list xs)
  | _ => none)
theorem cf_lr3 {t : TA} {f : FG (List D)} (h : CA G pn E t f) : CF G pn E (tLr3 t) (lrG f) := by
  refine CF.bind (t := t) h fun vs ds U e σ H B r p' Q rl ra hf post => ?_
  obtain ⟨c, hc, rfl, rfl⟩ := optG_eq hf
  obtain ⟨c', hc', h2⟩ := Option.bind_eq_some_iff.mp hc
  unfold lr3D at hc'
  split at hc'
  · split at hc'
    · next i j k hk =>
      cases hc'
      obtain ⟨hl, rfl⟩ := few_eq h2
      obtain ⟨g1, g2⟩ := rgC_of hk
      cases ra with
      | cons r1 r2 =>
        cases r2 with
        | cons r2 r3 =>
          cases r3 with
          | cons r3 r4 =>
            cases r4
            cases r1.int_inv
            cases r2.int_inv
            cases r3.int_inv
            refine ⟨i, j, k, _, rfl, g1, ?_, fun p hp => post p _ B (rl.fresh hp (.lst upd_same rzA_rg3)) (Same.refl _) (Keep.of (same_upd hp))⟩
            rw [rgD3, List.length_map, List.length_range] at hl
            exact hl
    · cases hc'
  · cases hc'
def tLr2 (ta : TE) (tb : TE) : TE := tLstRg (tRg2 ta tb)
def lr2G (f g : FG D) : FG D := bindG f fun a => bindG g fun b => optG ((lr3D [a, b, .int 1]).bind fun d => match d with
  | .list xs => few xs (.list xs)
  | _ => none)
theorem rgV_eq {i j : Int} : rgV i j = rgV3 i 1 (j - i).toNat := by
  unfold rgV rgV3
  congr 1
  funext k
  rw [Int.mul_one]
theorem cf_lr2 {t u : TE} {f g : FG D} (h1 : CE G pn E t f) (h2 : CE G pn E u g) : CF G pn E (tLstRg (tRg2 t u)) (lr2G f g) := by
  refine CF.bind (t := t) h1 fun v a U e σ H B r p' Q rl ra hf post => ?_
  rcases bind_inv hf with ⟨c, ns, ds, hx, rfl⟩ | ⟨b, q, hx, hg⟩
  · exact h2 U e σ H B _ _ _ rl hx post
  · refine h2 U e σ H B _ _ _ rl hx fun w H1 B1 rl1 s1 k1 rb => ?_
    obtain ⟨c, hc, rfl, rfl⟩ := optG_eq hg
    obtain ⟨c', hc', h3⟩ := Option.bind_eq_some_iff.mp hc
    unfold lr3D at hc'
    split at hc'
    · next i j k he =>
      cases he
      split at hc'
      · next hk =>
        cases hc'
        obtain ⟨hl, rfl⟩ := few_eq h3
        obtain ⟨g1, g2⟩ := rgC_of hk
        simp only [Bool.and_eq_true] at hk
        have a1 := okR_eq hk.1.1
        have a2 := okR_eq hk.1.2
        cases ra.int_inv
        cases rb.int_inv
        refine ⟨i, j, rfl, rfl, ⟨by omega, by omega, by omega, by omega, by omega⟩, fun p hp => ?_⟩
        have hn : rgN i j 1 = (j - i).toNat := by unfold rgN; rw [rangeSize_one]; split <;> omega
        rw [rgV_eq, ← hn]
        exact post p _ B1 (rl1.fresh hp (.lst upd_same rzA_rg3)) s1 (k1.trans (Keep.of (same_upd hp)))
      · cases hc'
    · cases hc'
/-! ### isinstance -/
def tyN : D → String
  | .none => "NoneType"
  | .bool _ => "bool"
  | .int _ => "int"
  | .str _ => "str"
  | .list _ => "list"
  | .tuple _ => "tuple"
  | .dict _ => "dict"
def isInsD : D → Bool
  | .dict ((.none, _) :: _) => true
  | .dict ((.bool _, _) :: _) => true
  | .dict ((.tuple _, _) :: _) => true
  | _ => false
theorem tyS {K : PySem.W.Frag} {a : Addr} {xs : List V} (h : SqT K H a xs) : TyX K H (.ref a) (.type "tuple") := by
  rcases h with (h | ⟨o, h⟩) | ⟨o, its, n, h1, h2, _⟩
  · exact .base (.tup h)
  · exact .fTuple h
  · exact .kTuple h1 h2
theorem RzB.ty {v : V} {d : D} (hb : Same B H) (h : RzB G pn B H v d) (hi : isInsD d = false) : TyX G.K H v (.type (tyN d)) := by
  cases h with
  | non => exact .base .non
  | bl b => exact .base (.bl b)
  | int i => exact .base (.int i)
  | str x => exact .base (.str x)
  | lst h _ _ => exact .base (.lst h)
  | tup h _ => exact tyS (same_t hb h)
  | kt h hs => simp [kD, isInsD] at hi
  | dk h _ _ =>
    rcases h with h | ⟨⟨o, h⟩, _⟩
    · exact .base (.dK h)
    · exact .fDict h
  | dt h _ hs =>
    rename_i ks ds _
    rcases h with h | ⟨⟨o, h⟩, _, n⟩
    · exact .base (.dT h)
    · cases ks with
      | nil => exact absurd rfl n
      | cons q ks => cases hs with
        | cons _ _ => simp [isInsD, keyT] at hi
  | ins h h2 h3 hs => simp [insD, isInsD] at hi
  | fn h => simp [fnD, isInsD] at hi
inductive Ty where
  | int | bool | str | tuple | list | dict
def Ty.nm : Ty → String
  | .int => "int"
  | .bool => "bool"
  | .str => "str"
  | .tuple => "tuple"
  | .list => "list"
  | .dict => "dict"
def isTy : Ty → D → Bool
  | .int, .int _ => true
  | .int, .bool _ => true
  | .bool, .bool _ => true
  | .str, .str _ => true
  | .tuple, .tuple _ => true
  | .list, .list _ => true
  | .dict, .dict _ => true
  | _, _ => false
theorem kit_is (t : Ty) (d : D) : kitB (tyN d) t.nm = some (isTy t d) := by
  cases t <;> cases d <;> kernel_rfl
def dIsi (T : Ty) (d : D) : Option D := if isInsD d = true then none else some (.bool (isTy T d))
def isiG (T : Ty) (f : FG D) : FG D := op1 (dIsi T) f
theorem ce_isi (T : Ty) {t : TE} {f : FG D} (h : CB G pn E t f) : CE G pn E (tCB (rIsi G.K) (tCons t (tCons (tC (.ty T.nm)) tNil))) (isiG T f) := by
  refine CG.bind (t := t) h fun v a U e σ H B r p' Q rl ra hf post => ?_
  obtain ⟨c, hc, rfl, rfl⟩ := optG_eq hf
  unfold dIsi at hc
  split at hc
  · cases hc
  · next hi =>
    cases hc
    exact ⟨v, .ty T.nm, _, _, isTy T a, rfl, .ty T.nm, ra.ty rl.b.bh (by simpa using hi), kit_ty (kit_is T a), post _ H B rl (Same.refl _) Keep.refl (.bl _)⟩
/-- isinstance(x, (S, T)) -/
def dIsi2 (S T : Ty) (d : D) : Option D := if isInsD d = true then none else some (.bool (isTy S d || isTy T d))
def isi2G (S T : Ty) (f : FG D) : FG D := op1 (dIsi2 S T) f
theorem ce_isi2 (S T : Ty) {t : TE} {f : FG D} (h : CE G pn E t f) : CE G pn E (tCB (rIsiT G.K) (tCons t (tCons (tTup (tCons (tC (.ty S.nm)) (tCons (tC (.ty T.nm)) tNil))) tNil))) (isi2G S T f) := by
  refine CG.bind (t := t) h fun v d U e σ H B r p' Q rl ra hf post => ?_
  obtain ⟨c, hc, rfl, rfl⟩ := optG_eq hf
  unfold dIsi2 at hc
  split at hc
  · cases hc
  · next hi =>
    cases hc
    have ha := kit_is S d
    have hb := kit_is T d
    generalize isTy S d = a at ha post ⊢
    generalize isTy T d = b at hb post ⊢
    refine ⟨by show 2 ≤ sizeLine; decide, fun p hp => ?_⟩
    have hB := rl.b.bh.free hp
    have rl2 := rl.new (o := .tup [.ty S.nm, .ty T.nm]) hp
    refine ⟨v, p, [.ty S.nm, .ty T.nm], _, [.type S.nm, .type T.nm], a || b, rfl, upd_same, .cons (.ty S.nm) (.cons (.ty T.nm) .nil), (Rz.b rl2.b (ra.same (same_upd hB))).ty rl2.b.bh (by simpa using hi), ?_, ?_⟩
    · exact kitAny_cons (kit_ty ha) (fun z => kitAny_cons (kit_ty hb) (fun z2 => by rw [z, z2]; rfl) (fun z2 => by rw [z, z2]; rfl)) (fun z => by rw [z, Bool.true_or])
    · exact post _ _ _ rl2 (same_upd hB) (Keep.of (same_upd hp)) (.bl _)
/-! ### stores of any form -/
abbrev FV := D → Ev → Option Ev
abbrev FVs := List D → Ev → Option Ev
def CV (G : Gm) (pn : Pn) (g : TG) (f : FV) : Prop := ∀ U e σ H B v d e' (Q : L2.St → Hp → Prop), Rl G U pn e σ H B → Rz G B v d → f d e = some e' →
  (∀ σ' H' B', Rl G U pn e' σ' H' B' → Same B B' → Q σ' H') → g v σ H Q
def CVs (G : Gm) (pn : Pn) (g : TGs) (f : FVs) : Prop := ∀ U e σ H B vs ds e' (Q : L2.St → Hp → Prop), Rl G U pn e σ H B → RzA G B vs ds → f ds e = some e' →
  (∀ σ' H' B', Rl G U pn e' σ' H' B' → Same B B' → Q σ' H') → g vs σ H Q
def nameV (i : Nat) : FV := fun d e => some ⟨e.sl.set i (.d d), e.pen⟩
def nilV : FVs := fun ds e => match ds with
  | [] => some e
  | _ => none
def consV (f : FV) (g : FVs) : FVs := fun ds e => match ds with
  | [] => none
  | d :: r => (f d e).bind (g r)
def tupV (n : Nat) (f : FVs) : FV := fun d e => match d with
  | .tuple ds => if ds.length = n then f ds e else none
  | .dict [(.bool false, .tuple ds)] => if ds.length = n then f ds e else none
  | _ => none
/-- xs[k] = .. -/
def subV (i : Nat) (fk : FG D) : FV := fun d e => (ownL i e).bind fun _ => match fk e with
  | some (.v (.int k), p) => (ownL i ⟨e.sl, p⟩).bind fun ds => (ixN ds.length k).map fun j => ⟨e.sl.set i (.o (.list (ds.set j d))), p⟩
  | _ => none
theorem v_name (i : Nat) : CV G pn (gName i) (nameV i) := by
  intro U e σ H B v d e' Q rl rz h q
  cases h
  exact q _ H B (rl.setD rz i) (Same.refl _)
theorem v_nil : CVs G pn gNil nilV := by
  intro U e σ H B vs ds e' Q rl rz h q
  unfold nilV at h
  split at h
  · cases h; cases rz; exact ⟨rfl, q σ H B rl (Same.refl _)⟩
  · cases h
theorem v_cons {t : TG} {u : TGs} {f : FV} {g : FVs} (h1 : CV G pn t f) (h2 : CVs G pn u g) : CVs G pn (gCons t u) (consV f g) := by
  intro U e σ H B vs ds e' Q rl rz h q
  unfold consV at h
  cases rz with
  | nil => cases h
  | cons r1 r2 =>
    obtain ⟨e1, h3, h4⟩ := Option.bind_eq_some_iff.mp h
    exact ⟨_, _, rfl, h1 U e σ H B _ _ e1 _ rl r1 h3 fun σ' H1 B1 rl' s1 => h2 U e1 σ' H1 B1 _ _ e' Q rl' (r2.same s1) h4 fun σ2 H2 B2 rl2 s2 => q σ2 H2 B2 rl2 (s1.trans s2)⟩
theorem v_tup {n : Nat} {t : TGs} {f : FVs} (h1 : CVs G pn t f) : CV G pn (gTup G.K n t) (tupV n f) := by
  intro U e σ H B v d e' Q rl rz h q
  unfold tupV at h
  split at h
  · next ds =>
    split at h
    · next hn =>
      obtain ⟨a, xs, rfl, hx, hr⟩ := rz.tup_inv
      exact ⟨a, xs, rfl, same_t rl.b.bh hx, by rw [hr.length, hn], h1 U e σ H B xs ds e' Q rl hr h q⟩
    · cases h
  · next ds =>
    split at h
    · next hn =>
      obtain ⟨a, xs, rfl, hx, hr⟩ := Rz.kt_inv rl.b rz
      exact ⟨a, xs, rfl, hx.sq, by rw [hr.length, hn], h1 U e σ H B xs ds e' Q rl hr h q⟩
    · cases h
  · cases h
theorem v_sub {i : Nat} {tk : TE} {fk : FG D} (hk : CE G pn E tk fk) : CV G pn (gSub (tVar i) tk rSetL) (subV i fk) := by
  intro U e σ H B v d e' Q rl rz h q
  obtain ⟨ds0, h0, h⟩ := Option.bind_eq_some_iff.mp h
  obtain ⟨p0, xs0, e0, e2, e3⟩ := rl.lst h0
  refine ⟨_, e0, ?_⟩
  split at h
  · next k p hk' =>
    obtain ⟨ds, h6, h7⟩ := Option.bind_eq_some_iff.mp h
    obtain ⟨j, h8, h9⟩ := Option.map_eq_some_iff.mp h7
    cases h9
    refine hk U e σ H B _ _ _ rl hk' fun w H1 B1 rl1 s1 k1 rw => ?_
    obtain ⟨p', xs', e1', e2', e3'⟩ := rl1.lst (i := i) (ds := ds) h6
    rw [e0] at e1'
    cases e1'
    cases rw.int_inv
    exact ⟨p0, xs', k, j, rfl, rfl, e2', by rw [e3'.length]; exact h8, q σ _ B1 (rl1.lstPut h6 e0 (e3'.set (rz.same s1) j)) s1⟩
  · cases h
def asgV (f : FG D) (t : FV) : FS := thenS f fun d e => (t d e).map fun e' => (.nx, e')
theorem cs_asgV {t : TE} {g : TG} {f : FG D} {ft : FV} (h : CE G pn E t f) (hg : CV G pn g ft) : CS G pn E (tAsg t g) (asgV f ft) := by
  refine CS.of (t := t) h fun w a U e σ H B r e' Dn rl ra hf post => ?_
  obtain ⟨e1, h1, h2⟩ := Option.map_eq_some_iff.mp hf
  cases h2
  exact hg U e σ H B w a _ _ rl ra h1 fun σ' H' B' rl' s' => post σ' H' B' rl' s'
/-- a, b, c = x, y, z -/
def par3S (i j l : Nat) (f : FG (List D)) : FS := thenS f fun ds e => match ds with
  | [a, b, c] => some (.nx, ⟨((e.sl.set i (.d a)).set j (.d b)).set l (.d c), e.pen⟩)
  | _ => none
theorem cs_par3 {i j l : Nat} {t : TA} {f : FG (List D)} (h : CA G pn E t f) : CS G pn E (tPar3 i j l t) (par3S i j l f) := by
  refine CS.of (t := t) h fun w a U e σ H B r e' Dn rl ra hf post => ?_
  split at hf
  · cases hf
    cases ra with
    | cons r1 r2 =>
      cases r2 with
      | cons r2 r3 =>
        cases r3 with
        | cons r3 r4 =>
          cases r4
          exact ⟨_, _, _, rfl, post _ H B (((rl.setD r1 i).setD r2 j).setD r3 l) (Same.refl _)⟩
  · cases hf
end
end Fw

set_option linter.all false
set_option maxRecDepth 100000
set_option maxHeartbeats 4000000
namespace Fw
open PySem PySem.Spec PyProof.Rows L2
/-! ### keys -/
def kEq1 : D → D → Bool
  | .int i, .int j => decide (i = j)
  | .str a, .str b => decide (a = b)
  | _, _ => false
def kEqL : List D → List D → Bool
  | [], [] => true
  | x :: xs, y :: ys => kEq1 x y && kEqL xs ys
  | _, _ => false
def kEq : D → D → Bool
  | .tuple xs, .tuple ys => kEqL xs ys
  | a, b => kEq1 a b
theorem kEq1_key (a b : Key) : kEq1 (keyD a) (keyD b) = decide (a = b) := by
  cases a <;> cases b <;> simp [kEq1, keyD]
theorem kEq_key (a b : Key) : kEq (keyD a) (keyD b) = decide (a = b) := by
  rw [← kEq1_key]
  cases a <;> cases b <;> rfl
theorem kEqL_key : ∀ (a b : List Key), kEqL (a.map keyD) (b.map keyD) = decide (a = b)
  | [], [] => rfl
  | [], _ :: _ => rfl
  | _ :: _, [] => rfl
  | x :: xs, y :: ys => by
    show (kEq1 (keyD x) (keyD y) && kEqL (xs.map keyD) (ys.map keyD)) = _
    rw [kEq1_key, kEqL_key xs ys]
    simp [Bool.decide_and]
theorem kEq_tup (a b : List Key) : kEq (keyT a) (keyT b) = decide (a = b) := kEqL_key a b
def getD' (kvs : List (D × D)) (k : D) : Option D := (kvs.find? fun p => kEq p.1 k).map (·.2)
def putD (kvs : List (D × D)) (k v : D) : List (D × D) := if (kvs.any fun p => kEq p.1 k) = true then kvs.map (fun p => if kEq p.1 k = true then (p.1, v) else p) else kvs ++ [(k, v)]
section
variable {κ : Type} [DecidableEq κ] {enc : κ → D} {G : Gm} {B : Hp}
theorem get_some (he : ∀ a b, kEq (enc a) (enc b) = decide (a = b)) {k : κ} {d : D} : ∀ {ks : List (κ × V)} {ds : List D}, RzA G B (ks.map (·.2)) ds → getD' ((ks.map fun p => enc p.1).zip ds) (enc k) = some d → ∃ v, valV ks k = some v ∧ Rz G B v d
  | [], _, .nil, h => by cases h
  | p :: ks, _, .cons r1 r2, h => by
    unfold getD' at h
    rw [List.map_cons, List.zip_cons_cons, List.find?_cons] at h
    dsimp only at h
    rw [he] at h
    by_cases z : p.1 = k
    · rw [decide_eq_true z] at h
      cases h
      exact ⟨p.2, valV_pos z, r1⟩
    · rw [decide_eq_false z] at h
      obtain ⟨v, h1, h2⟩ := get_some he r2 h
      exact ⟨v, (valV_neg z).trans h1, h2⟩
theorem get_none (he : ∀ a b, kEq (enc a) (enc b) = decide (a = b)) {k : κ} : ∀ {ks : List (κ × V)} {ds : List D}, RzA G B (ks.map (·.2)) ds → getD' ((ks.map fun p => enc p.1).zip ds) (enc k) = none → valV ks k = none
  | [], _, .nil, h => rfl
  | p :: ks, _, .cons r1 r2, h => by
    unfold getD' at h
    rw [List.map_cons, List.zip_cons_cons, List.find?_cons] at h
    dsimp only at h
    rw [he] at h
    by_cases z : p.1 = k
    · rw [decide_eq_true z] at h; cases h
    · rw [decide_eq_false z] at h
      exact (valV_neg z).trans (get_none he r2 h)
theorem any_key (he : ∀ a b, kEq (enc a) (enc b) = decide (a = b)) {k : κ} : ∀ {ks : List (κ × V)} {ds : List D}, RzA G B (ks.map (·.2)) ds → (((ks.map fun p => enc p.1).zip ds).any fun p => kEq p.1 (enc k)) = ks.any fun p => decide (p.1 = k)
  | [], _, .nil => rfl
  | p :: ks, _, .cons r1 r2 => by
    rw [List.map_cons, List.zip_cons_cons, List.any_cons, List.any_cons, any_key he r2]
    dsimp only
    rw [he]
theorem put_rz (he : ∀ a b, kEq (enc a) (enc b) = decide (a = b)) {k : κ} {v : V} {d : D} (rv : Rz G B v d) {ks : List (κ × V)} {ds : List D} (r : RzA G B (ks.map (·.2)) ds) :
    ∃ ds', RzA G B ((putK ks k v).map (·.2)) ds' ∧ putD ((ks.map fun p => enc p.1).zip ds) (enc k) d = ((putK ks k v).map fun p => enc p.1).zip ds' := by
  unfold putK putD
  rw [any_key he r]
  by_cases z : (ks.any fun p => decide (p.1 = k)) = true
  · rw [if_pos z, if_pos z]
    clear z
    have gen : ∀ {ks : List (κ × V)} {ds : List D}, RzA G B (ks.map (·.2)) ds → ∃ ds', RzA G B ((ks.map fun p => if p.1 = k then (p.1, v) else p).map (·.2)) ds' ∧
        ((ks.map fun p => enc p.1).zip ds).map (fun p => if kEq p.1 (enc k) = true then (p.1, d) else p) = ((ks.map fun p => if p.1 = k then (p.1, v) else p).map fun p => enc p.1).zip ds' := by
      intro ks
      induction ks with
      | nil => intro ds r; cases r; exact ⟨[], .nil, rfl⟩
      | cons p ks ih =>
        intro ds r
        cases r with
        | @cons _ _ d0 _ r1 r2 =>
          obtain ⟨ds', h1, h2⟩ := ih r2
          by_cases y : p.1 = k
          · refine ⟨d :: ds', ?_, ?_⟩
            · rw [List.map_cons, List.map_cons, if_pos y]; exact .cons rv h1
            · have e1 : kEq (enc p.1) (enc k) = true := by rw [he, decide_eq_true y]
              show (if kEq (enc p.1) (enc k) = true then (enc p.1, d) else (enc p.1, _)) :: _ = (enc (if p.1 = k then (p.1, v) else p).1, d) :: _
              rw [if_pos e1, if_pos y]
              exact congrArg _ h2
          · refine ⟨d0 :: ds', ?_, ?_⟩
            · rw [List.map_cons, List.map_cons, if_neg y]; exact .cons r1 h1
            · have e1 : ¬ kEq (enc p.1) (enc k) = true := by rw [he, decide_eq_false y]; simp
              show (if kEq (enc p.1) (enc k) = true then (enc p.1, d) else (enc p.1, _)) :: _ = (enc (if p.1 = k then (p.1, v) else p).1, _) :: _
              rw [if_neg e1, if_neg y]
              exact congrArg _ h2
    exact gen r
  · rw [if_neg z, if_neg z]
    refine ⟨ds ++ [d], ?_, ?_⟩
    · rw [List.map_append]; exact r.app (.cons rv .nil)
    · rw [List.map_append, List.zip_append (by rw [List.length_map, ← r.length, List.length_map])]
      rfl
end
def keyOf : D → Option Key
  | .int i => some (.inl i)
  | .str s => some (.inr s)
  | _ => none
theorem keyOf_eq {d : D} {k : Key} (h : keyOf d = some k) : d = keyD k := by
  cases d <;> cases h <;> rfl
section
variable {α β : Type} {G : Gm} {U : Hp} {pn : Pn} {E : XK} {e : Ev} {σ : L2.St} {H B H' B' H1 B1 : Hp}
theorem RzB.keyV {v : V} {k : Key} (h : RzB G pn B H v (keyD k)) : v = kV k := by
  cases k with
  | inl i => exact h.int_inv
  | inr s => exact h.str_inv
/-- a dict with int and text keys, or an empty one -/
def dGetK (d k : D) : Option D := (keyOf k).bind fun _ => match d with
  | .dict kvs => if (kvs.all fun p => (keyOf p.1).isSome) = true ∧ kvs ≠ [] then getD' kvs k else none
  | _ => none
theorem dict_k {a : V} {kvs : List (D × D)} (h : RzB G pn B H a (.dict kvs)) (hk : (kvs.all fun p => (keyOf p.1).isSome) = true) (h0 : kvs ≠ []) : ∃ p ks ds, a = .ref p ∧ RdD H p (.dK ks) ∧ NP pn p ∧ RzA G B (ks.map (·.2)) ds ∧ kvs = (ks.map fun k => keyD k.1).zip ds := by
  generalize hd : PyData.dict kvs = d at h
  cases h with
  | dk h n hs => cases hd; exact ⟨_, _, _, rfl, h, n, hs, rfl⟩
  | @dt a ks ds h n hs =>
    cases hd
    exfalso
    cases ks with
    | nil => cases hs; exact h0 rfl
    | cons k ks =>
      cases hs with
      | cons _ _ => rw [List.map_cons, List.zip_cons_cons, List.all_cons] at hk; simp [keyT, keyOf] at hk
  | ins h h2 h3 hs =>
    cases hd
    simp [insD, keyOf] at hk
  | fn h =>
    cases hd
    simp [keyOf] at hk
  | kt h hs =>
    cases hd
    simp [keyOf] at hk
  | _ => cases hd
theorem ce_dget {t u : TE} {f g : FG D} (h1 : CB G pn E t f) (h2 : CB G pn E u g) : CE G pn E (tDGet t u) (op2 dGetK f g) := by
  refine CB.bind2 (t := t) (u := u) (k := fun x y σ H2 Q => ∃ a v, x = .ref a ∧ DGet H2 a y (some v) ∧ Q v H2) (h := fun a b => optG (dGetK a b)) h1 h2 fun v w a b U e σ H B r p' Q rl ra rb hf post => ?_
  obtain ⟨c, hc, rfl, rfl⟩ := optG_eq hf
  unfold dGetK at hc
  obtain ⟨k, hk, hc⟩ := Option.bind_eq_some_iff.mp hc
  cases keyOf_eq hk
  split at hc
  · next kvs =>
    split at hc
    · next hz =>
      obtain ⟨p, ks, ds, rfl, hp, n, hr, rfl⟩ := dict_k ra hz.1 hz.2
      obtain ⟨x, hx, rx⟩ := get_some kEq_key hr hc
      cases rb.keyV
      exact ⟨p, x, rfl, hx ▸ .inl ⟨ks, _, hp.rd, rfl, rfl⟩, post _ H B rl (Same.refl _) Keep.refl rx⟩
    · cases hc
  · cases hc
/-! ### written dicts -/
def pairsG : List (Key × FG D) → FG (List D)
  | [] => retG []
  | (_, f) :: r => bindG f fun a => bindG (pairsG r) fun as => retG (a :: as)
inductive CPs (G : Gm) (pn : Pn) (E : XK) : List (TE × TE) → List (Key × FG D) → Prop
  | nil : CPs G pn E [] []
  | cons {k : Key} {t : TE} {f : FG D} {ts : List (TE × TE)} {fs : List (Key × FG D)} : CE G pn E t f → CPs G pn E ts fs → CPs G pn E ((tC (kV k), t) :: ts) ((k, f) :: fs)
def dispD (ks : List Key) (ds : List D) : List (D × D) := (ks.zip ds).foldl (fun acc p => putD acc (keyD p.1) p.2) []
def dispG (fs : List (Key × FG D)) : FG D := bindG (pairsG fs) fun ds => if fs.length ≤ 15 then retG (.dict (dispD (fs.map (·.1)) ds)) else fun _ => none
theorem CPs.run {ts : List (TE × TE)} {fs : List (Key × FG D)} (h : CPs G pn E ts fs) : CG G pn E (fun B _ (ps : List (V × V)) ds => ∃ vs, RzA G B vs ds ∧ ps = ((fs.map (·.1)).zip vs).map fun p => (kV p.1, p.2)) (tPairs ts) (pairsG fs) := by
  induction h with
  | nil =>
    intro U e σ H B r p' Q rl hf post
    cases hf
    exact post [] H B rl (Same.refl _) Keep.refl ⟨[], .nil, rfl⟩
  | @cons k t f ts fs h1 hr ih =>
    intro U e σ H B r p' Q rl hf post
    rcases bind_inv hf with ⟨c, ns, ds, hx, rfl⟩ | ⟨a, q, hx, hg⟩
    · exact h1 U e σ H B _ _ _ rl hx post
    · refine h1 U e σ H B _ _ _ rl hx fun v H1 B1 rl1 s1 k1 rv => ?_
      rcases bind_inv hg with ⟨c, ns, ds, hx2, rfl⟩ | ⟨as, q2, hx2, hg2⟩
      · exact ih U _ σ H1 B1 _ _ _ rl1 hx2 (post.up s1 k1)
      · cases hg2
        refine ih U _ σ H1 B1 _ _ _ rl1 hx2 fun ps H2 B2 rl2 s2 k2 ⟨vs, rvs, ep⟩ => ?_
        exact post _ H2 B2 rl2 (s1.trans s2) (k1.trans k2) ⟨v :: vs, .cons (rv.same s2) rvs, by rw [ep]; rfl⟩
theorem merge_rz : ∀ (more : List (Key × V)) (es : List D) (ks : List (Key × V)) (ds : List D), RzA G B (more.map (·.2)) es → RzA G B (ks.map (·.2)) ds →
    ∃ ds', RzA G B ((mergeK ks more).map (·.2)) ds' ∧ ((more.map (·.1)).zip es).foldl (fun acc p => putD acc (keyD p.1) p.2) ((ks.map fun k => keyD k.1).zip ds) = ((mergeK ks more).map fun k => keyD k.1).zip ds'
  | [], _, ks, ds, .nil, r => ⟨ds, r, rfl⟩
  | m :: more, e :: es, ks, ds, .cons r1 r2, r => by
    obtain ⟨ds1, h1, h2⟩ := put_rz (k := m.1) kEq_key r1 r
    obtain ⟨ds2, h3, h4⟩ := merge_rz more es (putK ks m.1 m.2) ds1 r2 h1
    refine ⟨ds2, h3, ?_⟩
    rw [List.map_cons, List.zip_cons_cons, List.foldl_cons, h2]
    exact h4
theorem cf_disp {ts : List (TE × TE)} {fs : List (Key × FG D)} (h : CPs G pn E ts fs) : CF G pn E (tDisp ts) (dispG fs) := by
  intro U e σ H B r p' Q rl hf post p hp
  have rl0 := rl.addU (o := .dK []) hp
  rcases bind_inv hf with ⟨c, ns, ds, hx, rfl⟩ | ⟨as, q, hx, hg⟩
  · refine h.run _ e σ _ B _ _ _ rl0 hx fun cls ao H' B' b s x => ?_
    exact post cls ao H' B' (b.unU (rl.b.uh.free hp) noC_dK) s x
  · refine h.run _ e σ _ B _ _ _ rl0 hx fun ps H2 B2 rl2 s2 k2 ⟨vs, rvs, ep⟩ => ?_
    split at hg
    · next hl =>
      cases hg
      have hpn := (rl2.swapU (o' := .dK []) noC_dK).2.1
      obtain ⟨rl3, _, hB, np⟩ := rl2.swapU (o' := .dK (mergeK [] ((fs.map (·.1)).zip vs))) noC_dK
      have hpl : (fs.map (·.1)).length = vs.length := by
        have key : ∀ {fs : List (Key × FG D)} {e : Ev} {as : List D} {q : PenS}, pairsG fs e = some (.v as, q) → as.length = fs.length := by
          intro fs
          induction fs with
          | nil => intro e as q hq; cases hq; rfl
          | cons f fs ih =>
            intro e as q hq
            rcases bind_inv (show bindG f.2 _ e = _ from hq) with ⟨_, _, _, _, z⟩ | ⟨a, q1, _, hg1⟩
            · cases z
            · rcases bind_inv hg1 with ⟨_, _, _, _, z⟩ | ⟨as', q2, hx2, hg2⟩
              · cases z
              · cases hg2; rw [List.length_cons, List.length_cons, ih hx2]
        rw [List.length_map, rvs.length, key hx]
      have e1 : ((fs.map (·.1)).zip vs).map (·.2) = vs := List.map_snd_zip (by omega)
      have e2 : ((fs.map (·.1)).zip vs).map (·.1) = fs.map (·.1) := List.map_fst_zip (by omega)
      refine ⟨hpn, (fs.map (·.1)).zip vs, ep, by rw [List.length_zip, List.length_map]; omega, ?_⟩
      obtain ⟨ds', h1, h2⟩ := merge_rz (G := G) (B := B2) ((fs.map (·.1)).zip vs) as [] [] (by rw [e1]; exact rvs) .nil
      have hd : dispD (fs.map (·.1)) as = ((mergeK [] ((fs.map (·.1)).zip vs)).map fun k => keyD k.1).zip ds' := by
        rw [← h2, e2]; rfl
      have hU : U p = none := rl.b.uh.free hp
      have b3 := rl3.b.unU hU noC_dK
      obtain ⟨_, os, ss, n, f⟩ := rl3
      have no : p ∉ os := fun z => by have := (f p z).2.1; rw [upd_same] at this; cases this
      refine post p _ B2 ⟨b3, ⟨os, ss, n, fun q hq => ?_, no⟩, ?_, hB, hU, np⟩ s2 ?_
      · obtain ⟨h1, h2, h3⟩ := f q hq
        have nq : q ≠ p := fun z => no (z ▸ hq)
        rw [upd_ne nq] at h2
        exact ⟨h1, h2, h3⟩
      · rw [hd]
        exact .dk upd_same h1
      · intro a o ha hn
        have ne := ne_of_none ha hp
        rw [upd_ne ne]
        exact k2 a o ((upd_ne ne).trans ha) hn
    · cases hg
end
end Fw

set_option linter.all false
set_option maxRecDepth 100000
set_option maxHeartbeats 4000000
namespace Sb
open PySem PySem.Spec PyProof.Rows L2
open PySem.AutoSeq1 in
theorem extend_tup (l : Addr) (items : Array Value) (n : Nat) (b : Addr) (items2 : Array Value) (n2 : Nat) (dd : Option Addr) (sl : Array (Option Value)) (hs0 : ¬(!items.isEmpty && Builtin.List.listTooLong (items.size + items2.size)) = true) (hs1 : items.size ≤ sizeLine) (hs2 : items.size + items2.size ≤ sizeLine + 1) :
    Meets (Builtin.«list.extend» ⟨[.ref l, .ref b], []⟩) (fun _ R s => s.heap.get? l = some { cls := .type "list", dict := none, data := .seq items n, slots := #[] } ∧ s.heap.get? b = some { cls := .type "tuple", dict := dd, data := .seq items2 n2, slots := sl } ∧ R (.ok (.ret Value.none)) { s with heap := s.heap.update l (Obj.mapSeq fun x => x ++ items2), toks := s.toks }) :=
  .of_wp fun prog w A R s h => by
    obtain ⟨hp, g, d, tk, os⟩ := s; obtain ⟨hl, hb, h⟩ := h; have f1 := AutoSeq1.idx_int; have f2 := AutoSeq1.sub_tuple_tuple; have f3 := AutoSeq1.sub_list_list; have f4 := AutoSeq1.sub_tuple_list; have f5 := AutoSeq1.sub_list_tuple;
    have hz' : (items ++ items2).size ≤ sizeLine + 1 := by rw [Array.size_append]; exact hs2
    wp_walk using (wpAny_updateSeq hl rfl (hz := hs1) (_hz' := hz')), wpAny_loadPart' hl, wpAny_loadPart' hb; exact ⟨_, rfl, h⟩
/-- l.extend(t), t a tuple -/
def rExtT (K : PySem.W.Frag) : V → List V → Hp → VK → Prop := fun x vs H Q => ∃ l b xs zs, x = .ref l ∧ vs = [.ref b] ∧ H l = some (.lst xs) ∧ SqT K H b zs ∧ xs.length + zs.length ≤ sizeLine ∧ Q .non (upd H l (.lst (xs ++ zs)))
theorem mt_extT {X : Cx} : MtM X "list.extend" (rExtT X.K) := by
  intro pins s σ H x vs v us Q I rx rv h
  obtain ⟨l, b, xs, zs, rfl, rfl, hH, hB, hz, q⟩ := h
  cases rx
  obtain ⟨u, rfl, ru⟩ := rv.one
  cases ru
  obtain ⟨z, its, n, r, hl, e⟩ := I.lstM hH
  obtain ⟨its2, r2, ⟨⟨cls, dd, data, sl⟩, e2, hc, n2, hd⟩, z2⟩ := I.tuple hB
  simp only at hc hd
  subst hc hd
  have hl2 := r2.length
  have hsz : its.toArray.size + its2.toArray.size ≤ sizeLine := by rw [List.size_toArray, List.size_toArray]; omega
  have hlong : ¬ (!its.toArray.isEmpty && Builtin.List.listTooLong (its.toArray.size + its2.toArray.size)) = true := by
    rw [notLongL hsz, Bool.and_false]
    exact Bool.false_ne_true
  refine call_meets F.slot_list_extend ⟨_, e, rfl⟩ F.entry_list_extend (F.args_list_extend_2 _ _)
    (extend_tup l its.toArray n b its2.toArray n2 dd sl hlong (by rw [List.size_toArray]; omega) (by omega)) ⟨e, e2, ?_⟩
  refine ⟨.non, _, I.lset (its' := its ++ its2) hH e (by simp) (r.append r2) ?_, rfl, q⟩
  rw [List.length_append]
  omega
end Sb

set_option linter.all false
set_option maxRecDepth 100000
set_option maxHeartbeats 4000000
namespace Fw
open PySem PySem.Spec PyProof.Rows L2
theorem mt_ext {X : Cx} : MtR X "list.extend" (uExt X.K) := by
  intro pins s σ H x xs v us Q I rx rv h
  rcases h with h | h
  · exact mt_extend pins s σ H x xs v us Q I rx rv h
  · exact Sb.mt_extT pins s σ H x xs v us Q I rx rv h
section
variable {α β : Type} {G : Gm} {U : Hp} {pn : Pn} {E : XK} {e : Ev} {σ : L2.St} {H B H' B' H1 B1 : Hp}
/-! ### range with a step -/
theorem rgD3_get {lo c : Int} {n i : Nat} : (rgD3 lo c n)[i]? = if i < n then some (.int (lo + (i : Int) * c)) else none := by
  unfold rgD3
  rw [List.getElem?_map]
  by_cases h : i < n
  · rw [if_pos h, List.getElem?_range h]; rfl
  · rw [if_neg h, List.getElem?_eq_none (by rw [List.length_range]; omega)]; rfl
theorem walks_c {lo c : Int} {n : Nat} : Walks G pn (Itc lo c n) (rgD3 lo c n) B := by
  intro i U H B1 e σ s rl
  refine ⟨fun hi => by rw [rgD3, List.length_map, List.length_range] at hi; exact hi, fun d hd => ?_⟩
  rw [rgD3_get] at hd
  split at hd
  · next hi =>
    cases hd
    exact ⟨hi, fun y H' ⟨e1, e2⟩ => by subst e1; subst e2; exact ⟨B1, Same.refl _, Same.refl _, fun _ _ _ r => r, .int _⟩⟩
  · cases hd
def rg3D (ds : List D) : Option (List D) := (lr3D ds).bind fun d => match d with
  | .list xs => some xs
  | _ => none
theorem ci_rg3 {t : TA} {f : FG (List D)} (h : CA G pn E t f) : CI G pn E (iRng3 t) (rgI rg3D f) := by
  refine CG.bind (t := t) h fun vs ds U e σ H B r p' Q rl ra hf post => ?_
  obtain ⟨c, hc, rfl, rfl⟩ := optG_eq hf
  obtain ⟨d, hd, h2⟩ := Option.bind_eq_some_iff.mp hc
  unfold lr3D at hd
  split at hd
  · split at hd
    · next i j k hk =>
      cases hd
      cases h2
      obtain ⟨g1, g2⟩ := rgC_of hk
      cases ra with
      | cons r1 r2 =>
        cases r2 with
        | cons r2 r3 =>
          cases r3 with
          | cons r3 r4 =>
            cases r4
            cases r1.int_inv
            cases r2.int_inv
            cases r3.int_inv
            exact ⟨i, j, k, _, rfl, g1, post _ H B rl (Same.refl _) Keep.refl walks_c⟩
    · cases hd
  · cases hd
/-! ### a, b = [], [] -/
def parOO (i j : Nat) (f g : FG D) : FS := thenS f fun a => thenS g fun b e => if i < e.sl.length ∧ j < e.sl.length ∧ i ≠ j then some (.nx, ⟨(e.sl.set i (.o a)).set j (.o b), e.pen⟩) else none
/-- two new objects at once -/
theorem cs_parOO {i j : Nat} {t u : TE} {f g : FG D} (h1 : CF G pn E t f) (h2 : CF G pn E u g) : CS G pn E (tPar i j (tCons t (tCons u tNil))) (parOO i j f g) := by
  intro U e σ H B r e' Dn rl hf post
  rcases thenS_inv hf with ⟨c, ns, ds, q, hx, rfl, rfl⟩ | ⟨a, q, hx, hg⟩
  · exact h1 U e σ H B _ _ _ rl hx post
  · refine h1 U e σ H B _ _ _ rl hx fun p H1 B1 fr s1 k1 => ?_
    -- the first one stands by, as what is not touched
    obtain ⟨o, ho, hno⟩ := fr.o.atC
    obtain ⟨os, ss, nn, ff, np⟩ := fr.s
    obtain ⟨n1, n2, n3⟩ := fr.n
    have rlU : Rl G (upd U p o) pn ⟨e.sl, q⟩ σ H1 B1 := by
      refine ⟨⟨fr.b.bh, fun a x hx => ?_, fun a x hx => ?_, fun z hz => ?_, fun z hz => ?_⟩, os, ss, nn, fun z hz => ?_⟩
      · by_cases y : a = p
        · rw [y, upd_same] at hx; rw [y, ho]; exact hx
        · rw [upd_ne y] at hx; exact fr.b.uh a x hx
      · rw [upd_ne (ne_of_none hx n1)]; exact fr.b.bu a x hx
      · obtain ⟨a1, a2, a3, a4⟩ := fr.b.pen z hz
        exact ⟨a1, (upd_ne (fun y => (n3 z hz).1 y.symm)).trans a2, a3, a4⟩
      · obtain ⟨a1, a2, a3⟩ := fr.b.tab z hz
        exact ⟨fun t ht => ⟨(a1 t ht).1, (upd_ne (fun y => (n3 z hz).2 t ht y.symm)).trans (a1 t ht).2⟩, a2, a3⟩
      · obtain ⟨a1, a2, a3⟩ := ff z hz
        exact ⟨a1, (upd_ne (fun y => np (by rw [← y]; exact hz))).trans a2, a3⟩
    rcases thenS_inv hg with ⟨c, ns, ds, q2, hx2, rfl, rfl⟩ | ⟨b, q2, hx2, hg2⟩
    · refine h2 _ _ σ H1 B1 _ _ _ rlU hx2 fun cls ao H' B' b s x => ?_
      exact post cls ao H' B' (b.unU n2 hno) (s1.trans s) x
    · refine h2 _ _ σ H1 B1 _ _ _ rlU hx2 fun p2 H2 B2 fr2 s2 k2 => ?_
      dsimp only at hg2
      split at hg2
      · next hij =>
        cases hg2
        refine ⟨_, _, rfl, ?_⟩
        obtain ⟨os2, ss2, nn2, ff2, np2⟩ := fr2.s
        obtain ⟨m1, m2, m3⟩ := fr2.n
        have hp2 : H2 p = some o := fr2.b.uh p o upd_same
        have hBp : B2 p = none := fr2.b.nub upd_same hno.nt
        have ne : p2 ≠ p := fun z => by rw [z, upd_same] at m2; cases m2
        have hpo : p ∉ os2 := fun z => by have := (ff2 p z).2.1; rw [upd_same] at this; cases this
        have hU2 : U p2 = none := by rw [upd_ne ne] at m2; exact m2
        have ow : OwnAt G B2 H2 p a := (fr.o.keep (by rw [hp2, ho]) s2)
        have base : Base U pn q2 H2 B2 := fr2.b.unU n2 hno
        have fr3 : Fresh G U pn ⟨e.sl, q2⟩ σ H2 B2 p a := ⟨base, ⟨os2, ss2, nn2, fun z hz => by
          obtain ⟨a1, a2, a3⟩ := ff2 z hz
          rw [upd_ne (fun y => hpo (by rw [← y]; exact hz))] at a2
          exact ⟨a1, a2, a3⟩, hpo⟩, ow, hBp, n2, n3⟩
        have rl3 := fr3.setO (i := i) hij.1
        obtain ⟨b3, os3, ss3, nn3, ff3⟩ := rl3
        have hp3 : p2 ∉ os3 := fun z => by
          obtain ⟨os4, s4, sb4, _⟩ := Slots.setO ow i hij.1 ss2
          have e3 := ss3.own
          have e4 := s4.own
          rw [← e4] at e3
          subst e3
          rcases sb4 p2 z with y | y
          · exact ne y
          · exact np2 y
        have fr4 : Fresh G U pn ⟨e.sl.set i (.o a), q2⟩ (σ.set i (some (.ref p))) H2 B2 p2 b := ⟨b3, ⟨os3, ss3, nn3, ff3, hp3⟩, fr2.o, m1, hU2, m3⟩
        exact post _ H2 B2 (fr4.setO (i := j) (by rw [List.length_set]; exact hij.2.1)) (s1.trans s2)
      · cases hg2
end
end Fw

set_option linter.all false
set_option maxRecDepth 100000
set_option maxHeartbeats 4000000
namespace Fw
open PySem PySem.Spec PyProof.Rows L2
section
variable {α β : Type} {G : Gm} {U : Hp} {pn : Pn} {E : XK} {e : Ev} {σ : L2.St} {H B H' B' H1 B1 : Hp}
/-! ### operations that lay a new list -/
def OpF (G : Gm) (pn : Pn) (r : R2) (φ : D → D → Option D) : Prop := ∀ U e σ H B x y a b c (Q : VK), Rl G U pn e σ H B → RzB G pn B H x a → RzB G pn B H y b → φ a b = some c →
  (∀ p H' B', Fresh G U pn e σ H' B' p c → Same B B' → Keep pn H H' → Q (.ref p) H') → r x y H Q
theorem cf_op {r : R2} {φ : D → D → Option D} {ta tb : TE} {f g : FG D} (hr : OpF G pn r φ) (h1 : CB G pn E ta f) (h2 : CB G pn E tb g) : CF G pn E (tOp r ta tb) (op2 φ f g) := by
  refine CF.bind (t := ta) h1 fun v a U e σ H B r p' Q rl ra hf post => ?_
  rcases bind_inv hf with ⟨c, ns, ds, hx, rfl⟩ | ⟨b, q, hx, hg⟩
  · exact h2 U e σ H B _ _ _ rl hx post
  · refine h2 U e σ H B _ _ _ rl hx fun w H1 B1 rl1 s1 k1 rb => ?_
    obtain ⟨c, hc, rfl, rfl⟩ := optG_eq hg
    exact hr U _ σ H1 B1 v w a b c Q rl1 (ra.keep k1 s1) rb hc fun p H' B' fr s k => post p H' B' fr (s1.trans s) (k1.trans k)
def dRep : D → D → Option D
  | .list a, .int k => if k ≤ 100000 ∧ a.length * k.toNat ≤ 1000000 ∧ -100000 ≤ k then some (.list (List.replicate k.toNat a).flatten) else none
  | _, _ => none
theorem of_rep : OpF G pn uMul dRep := by
  intro U e σ H B x y a b c Q rl ra rb h q
  unfold dRep at h
  split at h
  · split at h
    · next hz =>
      cases h
      obtain ⟨a1, xs, rfl, h1, n1, r1⟩ := ra.lst_inv
      cases rb.int_inv
      exact .inr ⟨a1, _, xs, rfl, rfl, h1, by omega, by omega, by rw [r1.length]; exact line_of hz.2.1, fun p hp => q p _ B (rl.fresh hp (.lst upd_same (r1.flat _))) (Same.refl _) (Keep.of (same_upd hp))⟩
    · cases h
  · cases h
def dCat : D → D → Option D
  | .list a, .list b => few (a ++ b) (.list (a ++ b))
  | _, _ => none
theorem of_cat : OpF G pn (uAdd G.K) dCat := by
  intro U e σ H B x y a b c Q rl ra rb h q
  unfold dCat at h
  split at h
  · obtain ⟨hl, rfl⟩ := few_eq h
    obtain ⟨a1, xs, rfl, h1, n1, r1⟩ := ra.lst_inv
    obtain ⟨a2, ys, rfl, h2, n2, r2⟩ := rb.lst_inv
    have r := r1.app r2
    refine .inr (.inl ⟨a1, a2, xs, ys, rfl, rfl, h1, h2, ?_, fun p hp => q p _ B (rl.fresh hp (.lst upd_same r)) (Same.refl _) (Keep.of (same_upd hp))⟩)
    rw [← List.length_append, r.length]; exact line_of hl
  · cases h
/-! ### the pen -/
def okP (p : PenS) : Bool := decide (p.ns.length ≤ 63) && decide (0 ≤ p.a) && decide (0 ≤ p.d) && decide (0 ≤ p.n) && decide (p.n < 1000000000) && decide (0 ≤ p.f) && decide (p.f < 2147483587)
def penStep (p : PenS) : PenS :=
  if p.d = 0 ∧ p.a < p.ns.length then
    if 10 ^ 18 ≤ p.ns.getD p.a.toNat 0 then ⟨p.ns, p.a + 1, p.ns.getD p.a.toNat 0 - 10 ^ 18, p.n + 1, p.f⟩
    else ⟨p.ns, p.a + 1, p.d, p.n + 1, (p.f * 69069 + p.ns.getD p.a.toNat 0).fmod 2147483587⟩
  else ⟨p.ns, p.a, p.d, p.n + 1, p.f⟩
def penDraw (p : PenS) (m : Int) : Int × PenS :=
  let q := penStep p
  if 0 < q.d then (q.d.fmod m, ⟨q.ns, q.a, q.d.fdiv m, q.n, q.f⟩)
  else ((((q.f + q.n * 8111 + 57) ^ 17).fmod 2305843009213693951).fdiv 128 |>.fmod m, q)
def drawF : FF := fun ds p => match ds with
  | [.int m] => if okP p = true ∧ 0 < m ∧ m < 1000000 then some (.v (.int (penDraw p m).1), (penDraw p m).2) else none
  | _ => none
theorem okP_eq {p : PenS} (h : okP p = true) : p.ns.length ≤ 63 ∧ 0 ≤ p.a ∧ 0 ≤ p.d ∧ 0 ≤ p.n ∧ p.n < 1000000000 ∧ 0 ≤ p.f ∧ p.f < 2147483587 := by
  unfold okP at h
  simpa [and_assoc] using h
/-- what stands ahead of the k-th draw at the latest -/
structure GoodP (k : Int) (p : PenS) : Prop where
  ok : okP p = true
  le : p.n ≤ k
theorem fmod_lo (a : Int) {m : Int} (h : 0 < m) : 0 ≤ a.fmod m := Int.fmod_nonneg_of_pos _ h
theorem fmod_hi (a : Int) {m : Int} (h : 0 < m) : a.fmod m < m := Int.fmod_lt_of_pos _ h
theorem penStep_ok {k : Int} {p : PenS} (h : GoodP k p) (hk : k < 999999999) : GoodP (k + 1) (penStep p) := by
  obtain ⟨h1, h2, h3, h4, h5, h6, h7⟩ := okP_eq h.ok
  have hle := h.le
  unfold penStep
  split
  · split
    · next z1 z2 =>
      have hp : (10 : Int) ^ 18 = 1000000000000000000 := by decide
      refine ⟨?_, by show p.n + 1 ≤ _; omega⟩
      unfold okP
      simp only [Bool.and_eq_true, decide_eq_true_eq]
      refine ⟨⟨⟨⟨⟨⟨h1, by omega⟩, by omega⟩, by omega⟩, by omega⟩, h6⟩, h7⟩
    · refine ⟨?_, by show p.n + 1 ≤ _; omega⟩
      unfold okP
      simp only [Bool.and_eq_true, decide_eq_true_eq]
      exact ⟨⟨⟨⟨⟨⟨h1, by omega⟩, h3⟩, by omega⟩, by omega⟩, fmod_lo _ (by decide)⟩, fmod_hi _ (by decide)⟩
  · refine ⟨?_, by show p.n + 1 ≤ _; omega⟩
    unfold okP
    simp only [Bool.and_eq_true, decide_eq_true_eq]
    exact ⟨⟨⟨⟨⟨⟨h1, h2⟩, h3⟩, by omega⟩, by omega⟩, h6⟩, h7⟩
theorem draw_spec {k m : Int} {p : PenS} (h : GoodP k p) (hk : k < 999999999) (hm : 0 < m) (hm2 : m < 1000000) :
    ∃ d p', drawF [.int m] p = some (.v (.int d), p') ∧ 0 ≤ d ∧ d < m ∧ GoodP (k + 1) p' := by
  have hs := penStep_ok h hk
  obtain ⟨h1, h2, h3, h4, h5, h6, h7⟩ := okP_eq hs.ok
  refine ⟨(penDraw p m).1, (penDraw p m).2, if_pos ⟨h.ok, hm, hm2⟩, ?_, ?_, ?_⟩
  · unfold penDraw
    simp only
    split
    · exact fmod_lo _ hm
    · exact fmod_lo _ hm
  · unfold penDraw
    simp only
    split
    · exact fmod_hi _ hm
    · exact fmod_hi _ hm
  · unfold penDraw
    simp only
    split
    · refine ⟨?_, hs.le⟩
      unfold okP
      simp only [Bool.and_eq_true, decide_eq_true_eq]
      exact ⟨⟨⟨⟨⟨⟨h1, h2⟩, Int.fdiv_nonneg h3 (by omega)⟩, h4⟩, h5⟩, h6⟩, h7⟩
    · exact hs
end
end Fw

set_option linter.all false
set_option maxRecDepth 100000
set_option maxHeartbeats 4000000
namespace Fw
open PySem PySem.Spec PyProof.Rows L2
/-! ### a law: its pen, then the rest -/
def spPen (K : PySem.W.Frag) : Sp := fun vs H Q _ => ∃ (a : Addr) (ns : List Int), vs = [.ref a] ∧ SqL K H a (ns.map V.int) ∧ ns.length ≤ 63 ∧
  ∀ p c H' (pp : PenS), H p = none → H c = none → p ≠ c → Same H H' → GoodP 0 pp → H' p = some (.dK (Fw.penD c pp)) → H' c = some (.lst (pp.ns.map V.int)) → Q (.ref p) H'
def spLaw (K : PySem.W.Frag) (T : List (Addr × Str)) : Sp := fun vs H Q _ => ∃ (a : Addr) (ns : List Int), vs = [.ref a] ∧ SqL K H a (ns.map V.int) ∧ ns.length ≤ 63 ∧ (∀ t ∈ T, H t.1 = some (.tbl #[])) ∧ ∀ H', Q (.bl true) H'
def lawSl (n : Nat) : List Slot := .u :: .p :: List.replicate (n - 2) .u
theorem law_run {G : Gm} {T : List (Addr × Str)} {rest : TS} {f : FS} {N : List Str} {E' E : XK} {vs : List V} {H : Hp} {Q : VK} (hcs : ∀ q : PnI, q.T = T → CS G (some q) E0 rest f) (hn : 2 ≤ N.length)
    (hf : ∀ pp, GoodP 0 pp → ∃ e', f ⟨lawSl N.length, pp⟩ = some (.rt (.bool true), e')) (h : spLaw G.K T vs H Q E) :
    tSeq (tAsg (tCall (spPen G.K) [] E' (tCons (tVar 0) tNil)) (gName 1)) rest { nx := fun _ H' => Q .non H', rt := Q } (L2.start N vs) H := by
  obtain ⟨a, ns, rfl, hS, hl, hT, q⟩ := h
  have hs : L2.start N [V.ref a] = some (.ref a) :: none :: List.replicate (N.length - 2) none := by
    obtain ⟨k, hk⟩ : ∃ k, N.length = k + 2 := ⟨N.length - 2, by omega⟩
    unfold L2.start
    rw [hk]
    show some (V.ref a) :: List.replicate (k + 2 - 1) none = _
    rw [show k + 2 - 1 = k + 1 by omega, show k + 2 - 2 = k by omega]
    rfl
  refine ⟨.ref a, by rw [hs]; rfl, a, ns, rfl, hS, hl, fun p c H1 pp hp hc ne s1 g hp1 hc1 => ?_⟩
  obtain ⟨e', he⟩ := hf pp g
  show rest _ ((L2.start N [V.ref a]).set 1 (some (.ref p))) H1
  rw [hs]
  refine hcs ⟨p, c, T, [], 0, fun _ => none⟩ rfl (fun _ => none) _ _ _ (upd (fun _ => none) c (.lst (pp.ns.map V.int))) _ _ _ ?_ he fun v H' B' b s rz => ?_
  · refine ⟨⟨fun x o hx => ?_, fun x o hx => ?_, fun x o hx => ?_, fun z hz => ?_, fun z hz => ?_⟩, [], ?_, .nil, fun z hz => (by cases hz)⟩
    · by_cases y : x = c
      · rw [y, upd_same] at hx; rw [y, hc1]; exact hx
      · rw [upd_ne y] at hx; cases hx
    · cases hx
    · exact .inl rfl
    · cases hz
      exact ⟨upd_ne ne, rfl, hp1, upd_same⟩
    · cases hz
      refine ⟨fun t ht => ⟨upd_ne (ne_of_none (hT t ht) hc), rfl⟩, fun t ht => (LamX.TabS.nil (hT t ht)).ext s1, fun z hz => (by cases hz), fun _ _ z => (by cases z)⟩
    · exact .u (.p (q := ⟨p, c, T, [], 0, fun _ => none⟩) rfl (Slots.us _))
  · rw [rz.bl_inv]
    exact q H'
end Fw

set_option linter.all false
set_option maxRecDepth 100000
set_option maxHeartbeats 4000000
namespace Fw
open PySem PySem.Spec PyProof.Rows L2
/-! ### raise C(e, ..): C keeps what it is given under its names -/
/-- an exception's __init__ that stores its arguments, in order -/
def spEx (C : Addr) (ns : List Str) : Sp := fun vs H Q _ => ∃ (a : Addr) (ws : List V), vs = .ref a :: ws ∧ ws.length = ns.length ∧ H a = some (exo a C none) ∧
  ∀ (d : Addr) (H' : Hp), H d = none → d ≠ a → (∀ b o, H b = some o → b ≠ a → H' b = some o) → H' a = some (exo a C (some d)) → H' d = some (exd d (ns.zip ws).reverse) → Q .non H'
theorem spEx_len {C : Addr} {ns : List Str} {vs : List V} {H : Hp} {Q : VK} {E : XK} (h : spEx C ns vs H Q E) : vs.length = 1 + ns.length := by
  obtain ⟨a, ws, rfl, hl, _⟩ := h
  rw [List.length_cons, hl]
  omega
/-- __init__ with one store -/
theorem ex_run1 {K : PySem.W.Frag} {C : Addr} {n : Str} {vs : List V} {H : Hp} {Q : VK} {E : XK} {x y : Str} (T : OexC K C) (hn : PySem.W.findIn K (.ref C) n = some none) (h : spEx C [n] vs H Q E) :
    tOst K n (tVar 0) (tVar 1) { nx := fun _ H' => Q .non H', rt := Q } (L2.start [x, y] vs) H := by
  obtain ⟨a, ws, rfl, hl, ha, q⟩ := h
  match ws, hl with
  | [v], _ =>
    refine ⟨v, rfl, .ref a, rfl, a, C, rfl, T, hn, .inl ⟨ha, fun dx nx ne => q dx _ nx ne (fun b o e hb => ?_) upd_same (by rw [upd_ne ne, upd_same]; rfl)⟩⟩
    rw [upd_ne hb, upd_ne (ne_of_none e nx)]
    exact e
/-- with two -/
theorem ex_run2 {K : PySem.W.Frag} {C : Addr} {n m : Str} {vs : List V} {H : Hp} {Q : VK} {E : XK} {x y z : Str} (T : OexC K C) (hn : PySem.W.findIn K (.ref C) n = some none) (hm : PySem.W.findIn K (.ref C) m = some none) (h : spEx C [n, m] vs H Q E) :
    tSeq (tOst K n (tVar 0) (tVar 1)) (tOst K m (tVar 0) (tVar 2)) { nx := fun _ H' => Q .non H', rt := Q } (L2.start [x, y, z] vs) H := by
  obtain ⟨a, ws, rfl, hl, ha, q⟩ := h
  match ws, hl with
  | [v, u], _ =>
    refine ⟨v, rfl, .ref a, rfl, a, C, rfl, T, hn, .inl ⟨ha, fun dx nx ne => ?_⟩⟩
    have h2 : (upd (upd H dx (exd dx [(n, v)])) a (exo a C (some dx))) dx = some (exd dx [(n, v)]) := by rw [upd_ne ne, upd_same]
    refine ⟨u, rfl, .ref a, rfl, a, C, rfl, T, hm, .inr ⟨dx, [(n, v)], upd_same, h2, by show 1 ≤ 900; decide, q dx _ nx ne (fun b o e hb => ?_) (by rw [upd_ne (Ne.symm ne), upd_same]) (by rw [upd_same]; rfl)⟩⟩
    rw [upd_ne (ne_of_none e nx), upd_ne hb, upd_ne (ne_of_none e nx)]
    exact e
section
variable {G : Gm} {U : Hp} {pn : Pn} {E : XK} {e : Ev} {σ : L2.St} {H B H' B' H1 B1 : Hp}
theorem Base.up {p : PenS} (b : Base U pn p H B) (s : Same H H') : Base U pn p H' B :=
  ⟨b.bh.trans s, b.uh.trans s, b.bu, fun q hq => by
    obtain ⟨h1, h2, h3, h4⟩ := b.pen q hq
    exact ⟨h1, h2, s _ _ h3, h4⟩, fun q hq => ⟨(b.tab q hq).1, (b.tab q hq).2.1.ext s, (b.tab q hq).2.2.1.up s, (b.tab q hq).2.2.2⟩⟩
def raiseS (c : Str) (ns : List Str) (f : FG (List D)) : FS := thenS f fun ds e => if ds.length = ns.length then some (.x c ns.reverse ds.reverse, e) else none
theorem zip_fst : ∀ {ns : List Str} {ws : List V}, ws.length = ns.length → (ns.zip ws).map (·.1) = ns
  | [], [], _ => rfl
  | n :: ns, w :: ws, h => by
    rw [List.zip_cons_cons, List.map_cons, zip_fst (by simpa using h)]
theorem zip_snd : ∀ {ns : List Str} {ws : List V}, ws.length = ns.length → (ns.zip ws).map (·.2) = ws
  | [], [], _ => rfl
  | n :: ns, w :: ws, h => by
    rw [List.zip_cons_cons, List.map_cons, zip_snd (by simpa using h)]
theorem cs_raise {C : Addr} {c : Str} {ns : List Str} {t : TA} {f : FG (List D)} (hX : G.X c = some C) (hl : ns.length ≤ 1000) (h : CA G pn E t f) :
    CS G pn E (fun _ σ H => tMkO C (spEx C ns) [] t σ H fun cls d H' => E cls d H') (raiseS c ns f) := by
  refine CS.of (t := t) h fun ws ds U e σ H B r e' Dn rl ra hf post => ?_
  split at hf
  · next hn =>
    cases hf
    have hw : ws.length = ns.length := by rw [ra.length]; exact hn
    refine ⟨by rw [hw]; exact hl, fun a ha => ⟨a, ws, by rw [List.append_nil], hw, upd_same, fun d H' hd hda k h1 h2 => ⟨rfl, d, _, h1, h2, ?_, ?_⟩⟩⟩
    · rwa [upd_ne hda] at hd
    · have hd' : H d = none := by rwa [upd_ne hda] at hd
      have s : Same H (upd (del H' a) d (.xd (ns.zip ws).reverse)) := fun b o hb => by
        have n1 : b ≠ a := ne_of_none hb ha
        have n2 : b ≠ d := ne_of_none hb hd'
        rw [upd_ne n2, del_ne n1]
        exact k b o (by rw [upd_ne n1]; exact hb) n1
      refine post (.ref C) (some d) _ B (rl.b.up s) (Same.refl _) ⟨C, d, (ns.zip ws).reverse, hX, rfl, rfl, upd_same, ?_, ?_⟩
      · rw [List.map_reverse, zip_fst hw]
      · rw [List.map_reverse, zip_snd hw]
        exact ra.reverse
  · cases hf
end
end Fw

set_option linter.all false
set_option maxRecDepth 100000
set_option maxHeartbeats 4000000
namespace Fw
open PySem PySem.Spec PyProof.Rows L2
/-! ### a def that may raise; a class that may be raised -/
/-- what is known of an error class c with its fields ns -/
structure Exn (K : PySem.W.Frag) (XC : Str → Option Addr) (mg : Str → Option Value) (P : Program) (w : World) (base : Heap) (c : Str) (ns ps : List Str) (C fI : Addr) (fd : FuncData) : Prop where
  T : OexC K C
  iC : PySem.W.findIn K (.ref C) "__init__" = some (some (.ref fI))
  tI : PySem.W.typeIn K (.ref fI) = some (.type "function")
  G : FnOk P w K mg base CX0 1 fI fd ps (spEx C ns)
  b : Binds K fd ps []
  m : mg c = some (.ref C)
  X : XC c = some C
section
variable {G : Gm} {P : Program} {w : World} {K : PySem.W.Frag} {mg : Str → Option Value} {base : Heap}
theorem spX_len' {pen : Bool} {n : Nat} {F : FF} {ps : List Str} (hl : ps.length = (if pen = true then 1 else 0) + n) {vs : List V} {H : Hp} {Q : VK} {E' : XK} (h : spX G pen n F vs H Q E') : vs.length = ps.length := by
  rw [spX_len h, hl]
theorem fn_x {x qual : Str} {st : Stmt} {f : Addr} {fd : FuncData} {N ps : List Str} {k n : Nat} {pen : Bool} {F : FS} (Fn : Fun K x qual st f fd) (S : FnScope N ps (defScope st)) (hl : ps.length = (if pen = true then 1 else 0) + n)
    (hbody : ∀ (cdv : Value) (A : Around) (outer : List Env) (s : Shared) (H : Hp) (E : XK), RoomG k (A.deeper (envOfC qual (defScope st) s.heap.objs.size f cdv)) →
      Takes (cxOf (L2.CX P w) P w K mg base N qual (defScope st) f cdv A outer s H E) (fun cls d _ H => E cls d H) →
      ∃ t, PSs (cxOf (L2.CX P w) P w K mg base N qual (defScope st) f cdv A outer s H E) (defBody st) t ∧ ∀ pn, CS G pn E t F) : FnG P w K mg base (L2.CX P w) (k + 1) f fd ps (spX G pen n (defF pen N.length F)) := by
  refine fnG_of Fn S (fun vs H Q E h => spX_len' hl h) (fun cdv A outer s H vs Q E hr h => ?_)
  obtain ⟨t, h1, h2⟩ := hbody cdv A outer s H E hr (takes_of rfl rfl rfl rfl)
  exact ⟨t, h1, run_x h2 h⟩
end
/-! ### x.f of an instance -/
def fldD (f : Str) : List (D × D) → Option D
  | (.str g, x) :: r => if f = g then some x else fldD f r
  | _ => none
def dFld (c f : Str) : D → Option D
  | .dict ((.none, .str c') :: kvs) => if c' = c then fldD f kvs else none
  | _ => none
section
variable {G : Gm} {U : Hp} {pn : Pn} {E : XK} {e : Ev} {σ : L2.St} {H B H' B' H1 B1 : Hp}
theorem fld_at {f : Str} {x : D} : ∀ {fs : List (Str × V)} {ds : List D}, RzA G B (fs.map (·.2)) ds → fldD f (((fs.map (·.1)).map PyData.str).zip ds) = some x → ∃ y, fs.lookup f = some y ∧ Rz G B y x
  | [], _, .nil, h => by cases h
  | (g, v) :: fs, _, .cons (d := d) (ds := ds) r rs, h => by
    have h' : (if f = g then some d else fldD f (((fs.map (·.1)).map PyData.str).zip ds)) = some x := h
    by_cases e : f = g
    · rw [if_pos e] at h'
      cases h'
      exact ⟨v, by rw [List.lookup_cons, show (f == g) = true from beq_iff_eq.mpr e], r⟩
    · rw [if_neg e] at h'
      obtain ⟨y, h1, h2⟩ := fld_at rs h'
      exact ⟨y, by rw [List.lookup_cons, show (f == g) = false from Bool.eq_false_iff.mpr fun z => e (beq_iff_eq.mp z)]; exact h1, h2⟩
theorem Rz.fld {c f : Str} {v : V} {d x : D} (r : Rz G B v d) (h : dFld c f d = some x) : ∃ a C dx fs y, v = .ref a ∧ B a = some (.ins C dx fs) ∧ G.X c = some C ∧ fs.lookup f = some y ∧ Rz G B y x := by
  cases r with
  | non => cases h
  | bl => cases h
  | int => cases h
  | str => cases h
  | lst => cases h
  | tup => cases h
  | dk h1 h2 =>
    rename_i a ks ds
    cases ks with
    | nil => cases h
    | cons k ks => cases ds with
      | nil => cases h
      | cons d ds => obtain ⟨k, u⟩ := k; cases k <;> cases h
  | dt h1 h2 =>
    rename_i a ks ds
    cases ks with
    | nil => cases h
    | cons k ks => cases ds with
      | nil => cases h
      | cons d ds => cases h
  | fn h1 => cases h
  | kt h1 h2 => cases h
  | ins h1 h2 h3 h4 =>
    rename_i a C dx c' fs ds
    have h' : (if c' = c then fldD f (((fs.map (·.1)).map PyData.str).zip ds) else none) = some x := h
    by_cases e : c' = c
    · rw [if_pos e] at h'
      obtain ⟨y, h5, h6⟩ := fld_at h4 h'
      exact ⟨a, C, dx, fs, y, rfl, h1, e ▸ h3, h5, h6⟩
    · rw [if_neg e] at h'; cases h'
/-- what is known of a class c whose instances' fields are read -/
structure Fld (G : Gm) (c f : Str) : Prop where
  at_ : ∀ C, G.X c = some C → Cls G.K C ∧ NoAttr G.K C f
theorem ce_fld {c f : Str} {t : TE} {g : FG D} (T : Fld G c f) (h : CE G pn E t g) : CE G pn E (tFld G.K t f) (op1 (dFld c f) g) := by
  refine CG.bind (t := t) h fun v a U e σ H B r p' Q rl rz hf post => ?_
  obtain ⟨x, hx, rfl, rfl⟩ := optG_eq hf
  obtain ⟨a, C, dx, fs, y, rfl, h1, h2, h3, h4⟩ := rz.fld hx
  obtain ⟨c1, c2⟩ := T.at_ C h2
  exact ⟨a, C, dx, fs, y, rfl, rl.b.bh _ _ h1, c1, c2, h3, post y H B rl (Same.refl _) Keep.refl h4⟩
end
end Fw

set_option linter.all false
set_option maxRecDepth 100000
set_option maxHeartbeats 4000000
namespace Fw
open PySem PySem.Spec PyProof.Rows L2
/-! ### enumerate, zip -/
def enumL : Nat → List D → List D
  | _, [] => []
  | i, d :: ds => .tuple [.int (i : Int), d] :: enumL (i + 1) ds
theorem enumL_len : ∀ {ds : List D} {i : Nat}, (enumL i ds).length = ds.length
  | [], _ => rfl
  | d :: ds, i => by
    show (enumL (i + 1) ds).length + 1 = ds.length + 1
    rw [enumL_len]
theorem enumL_get : ∀ {ds : List D} {i j : Nat} {x : D}, (enumL i ds)[j]? = some x → ∃ d, ds[j]? = some d ∧ x = .tuple [.int ((i + j : Nat) : Int), d]
  | [], _, _, _, h => by cases h
  | d :: ds, i, 0, x, h => by cases h; exact ⟨d, rfl, rfl⟩
  | d :: ds, i, j + 1, x, h => by
    obtain ⟨y, h1, h2⟩ := enumL_get (ds := ds) (i := i + 1) (j := j) h
    exact ⟨y, h1, by rw [h2, show i + 1 + j = i + (j + 1) by omega]⟩
def zipL : List D → List D → List D
  | d :: ds, e :: es => .tuple [d, e] :: zipL ds es
  | _, _ => []
theorem zipL_len : ∀ {ds es : List D}, (zipL ds es).length = min ds.length es.length
  | [], _ => by simp [zipL]
  | _ :: _, [] => by simp [zipL]
  | d :: ds, e :: es => by
    show (zipL ds es).length + 1 = min (ds.length + 1) (es.length + 1)
    rw [zipL_len]
    omega
theorem zipL_get : ∀ {ds es : List D} {j : Nat} {x : D}, (zipL ds es)[j]? = some x → ∃ d e, ds[j]? = some d ∧ es[j]? = some e ∧ x = .tuple [d, e]
  | [], _, _, _, h => by simp [zipL] at h
  | _ :: _, [], _, _, h => by simp [zipL] at h
  | d :: ds, e :: es, 0, x, h => by cases h; exact ⟨d, e, rfl, rfl, rfl⟩
  | d :: ds, e :: es, j + 1, x, h => zipL_get (ds := ds) (es := es) (j := j) h
section
variable {G : Gm} {U : Hp} {pn : Pn} {E : XK} {e : Ev} {σ : L2.St} {H B H' B' H1 B1 : Hp}
theorem yield_pair {T : Addr} {x y : V} {d1 d2 : D} (rl : Rl G U pn e σ H B) (hT : H T = none) (r1 : Rz G B x d1) (r2 : Rz G B y d2) :
    ∃ B', Same B B' ∧ Same H (upd H T (.tup [x, y])) ∧ (∀ U e σ, Rl G U pn e σ H B → Rl G U pn e σ (upd H T (.tup [x, y])) B') ∧ Rz G B' (.ref T) (.tuple [d1, d2]) := by
  have sb : Same B (upd B T (.tup [x, y])) := same_upd (rl.b.bh.free hT)
  exact ⟨_, sb, same_upd hT, fun U e σ r => r.new hT, .tup upd_same (.cons (r1.same sb) (.cons (r2.same sb) .nil))⟩
theorem walks_e {a : Addr} {xs : List V} {ds : List D} (h : B a = some (.lst xs)) (hr : RzA G B xs ds) : Walks G pn (Ite G.K a) (enumL 0 ds) B := by
  intro i U H B1 e σ s rl
  have hq : SqL G.K H a xs := SqL.of (rl.b.bh _ _ (s _ _ h))
  refine ⟨fun hi => ⟨xs, hq, by rw [hr.length, ← enumL_len (i := 0)]; exact hi⟩, fun d hd => ?_⟩
  obtain ⟨d0, h0, rfl⟩ := enumL_get hd
  obtain ⟨x, hx, rz⟩ := hr.get h0
  refine ⟨⟨xs, x, hq, hx⟩, fun y H' ⟨T, x', e1, e2, e3, e4⟩ => ?_⟩
  subst e1 e3
  have e5 := e4 xs hq
  rw [hx] at e5
  cases e5
  rw [Nat.zero_add]
  exact yield_pair rl e2 (.int _) (rz.same s)
theorem walks_z {a b : Addr} {xs ys : List V} {ds es : List D} (h : B a = some (.lst xs)) (h' : B b = some (.lst ys)) (hr : RzA G B xs ds) (hr' : RzA G B ys es) : Walks G pn (Itz G.K a b) (zipL ds es) B := by
  intro i U H B1 e σ s rl
  have hq : SqL G.K H a xs := SqL.of (rl.b.bh _ _ (s _ _ h))
  have hq' : SqL G.K H b ys := SqL.of (rl.b.bh _ _ (s _ _ h'))
  refine ⟨fun hi => ⟨xs, ys, hq, hq', by rw [hr.length, hr'.length]; rw [zipL_len] at hi; omega⟩, fun d hd => ?_⟩
  obtain ⟨d0, e0, h0, h0', rfl⟩ := zipL_get hd
  obtain ⟨x, hx, rz⟩ := hr.get h0
  obtain ⟨y, hy, rz'⟩ := hr'.get h0'
  refine ⟨⟨xs, ys, x, y, hq, hq', hx, hy⟩, fun v H' ⟨T, x', y', e1, e2, e3, e4, e5⟩ => ?_⟩
  subst e1 e3
  have e6 := e4 xs hq
  have e7 := e5 ys hq'
  rw [hx] at e6
  rw [hy] at e7
  cases e6
  cases e7
  exact yield_pair rl e2 (rz.same s) (rz'.same s)
theorem walks_zT {a b : Addr} {xs ys : List V} {ds es : List D} (h : SqT G.K B a xs) (h' : SqT G.K B b ys) (hr : RzA G B xs ds) (hr' : RzA G B ys es) : Walks G pn (RZ.ItzT G.K a b) (zipL ds es) B := by
  intro i U H B1 e σ s rl
  have hq : SqT G.K H a xs := same_tS rl.b.bh (same_tS s h)
  have hq' : SqT G.K H b ys := same_tS rl.b.bh (same_tS s h')
  refine ⟨fun hi => ⟨xs, ys, hq, hq', by rw [hr.length, hr'.length]; rw [zipL_len] at hi; omega⟩, fun d hd => ?_⟩
  obtain ⟨d0, e0, h0, h0', rfl⟩ := zipL_get hd
  obtain ⟨x, hx, rz⟩ := hr.get h0
  obtain ⟨y, hy, rz'⟩ := hr'.get h0'
  refine ⟨⟨xs, ys, x, y, hq, hq', hx, hy⟩, fun v H' ⟨T, x', y', e1, e2, e3, e4, e5⟩ => ?_⟩
  subst e1 e3
  have e6 := e4 xs hq
  have e7 := e5 ys hq'
  rw [hx] at e6
  rw [hy] at e7
  cases e6
  cases e7
  exact yield_pair rl e2 (rz.same s) (rz'.same s)
def enumD : List D → Option (List D)
  | [.list ds] => some (enumL 0 ds)
  | _ => none
def zipD : List D → Option (List D)
  | [.list ds, .list es] => some (zipL ds es)
  | [.tuple ds, .tuple es] => some (zipL ds es)
  | _ => none
theorem ci_enum {t : TA} {f : FG (List D)} (h : CA G pn E t f) : CI G pn E (iEnum G.K t) (rgI enumD f) := by
  refine CG.bind (t := t) h fun vs ds U e σ H B r p' Q rl ra hf post => ?_
  obtain ⟨c, hc, rfl, rfl⟩ := optG_eq hf
  unfold enumD at hc
  split at hc
  · cases hc
    cases ra with
    | cons r1 r2 =>
      cases r2
      obtain ⟨a, xs, rfl, hl, hr⟩ := r1.lst_inv
      exact ⟨a, xs, rfl, SqL.of (rl.b.bh _ _ hl), post _ H B rl (Same.refl _) Keep.refl (walks_e hl hr)⟩
  · cases hc
theorem ci_zip {t : TA} {f : FG (List D)} (h : CA G pn E t f) : CI G pn E (RZ.iZipA G.K t) (rgI zipD f) := by
  refine CG.bind (t := t) h fun vs ds U e σ H B r p' Q rl ra hf post => ?_
  obtain ⟨c, hc, rfl, rfl⟩ := optG_eq hf
  unfold zipD at hc
  split at hc
  · cases hc
    cases ra with
    | cons r1 r2 => cases r2 with
      | cons r3 r4 =>
        cases r4
        obtain ⟨a, xs, rfl, hl, hr⟩ := r1.lst_inv
        obtain ⟨b, ys, rfl, hl', hr'⟩ := r3.lst_inv
        exact ⟨a, b, xs, ys, rfl, .inl ⟨SqL.of (rl.b.bh _ _ hl), SqL.of (rl.b.bh _ _ hl'), post _ H B rl (Same.refl _) Keep.refl (walks_z hl hl' hr hr')⟩⟩
  · cases hc
    cases ra with
    | cons r1 r2 => cases r2 with
      | cons r3 r4 =>
        cases r4
        obtain ⟨a, xs, rfl, hl, hr⟩ := r1.tup_inv
        obtain ⟨b, ys, rfl, hl', hr'⟩ := r3.tup_inv
        exact ⟨a, b, xs, ys, rfl, .inr ⟨same_t rl.b.bh hl, same_t rl.b.bh hl', post _ H B rl (Same.refl _) Keep.refl (walks_zT (SqT.of hl) (SqT.of hl') hr hr')⟩⟩
  · cases hc
end
end Fw

set_option linter.all false
set_option maxRecDepth 100000
set_option maxHeartbeats 4000000
namespace Fw
open PySem PySem.Spec PyProof.Rows L2
/-! ### a module's constant -/
structure Cst (K : PySem.W.Frag) (XC : Str → Option Addr) (mg : Str → Option Value) (x : Str) (v : V) (d : D) : Prop where
  m : ∃ u, mg x = some u ∧ RelV v u
  z : ∀ B, Rz ⟨K, XC⟩ B v d
theorem pe_cst {X : Cx} {XC : Str → Option Addr} {x : Str} {v : V} {d : D} {pos : Pos} (hg : Gl X x) (h : Cst X.K XC X.mg x v d) (hd : (x == ("__debug__" : Str)) = false := by decide) : PE X (.Name x pos) (tC v) := by
  obtain ⟨u, hm, hr⟩ := h.m
  exact pe_glob hg hm hr hd
section
variable {G : Gm} {U : Hp} {pn : Pn} {E : XK} {e : Ev} {σ : L2.St} {H B H' B' H1 B1 : Hp}
theorem ce_cst {K : PySem.W.Frag} {XC : Str → Option Addr} {mg : Str → Option Value} {x : Str} {v : V} {d : D} (h : Cst K XC mg x v d) : CE ⟨K, XC⟩ pn E (tC v) (retG d) := ce_const h.z
end
/-! ### sorted, of ints -/
def insI (x : Int) : List Int → List Int
  | [] => [x]
  | y :: ys => if x ≤ y then x :: y :: ys else y :: insI x ys
def sortI : List Int → List Int
  | [] => []
  | x :: xs => insI x (sortI xs)
theorem insI_mem {x y : Int} : ∀ {ys : List Int}, y ∈ insI x ys → y = x ∨ y ∈ ys
  | [], h => .inl (List.mem_singleton.mp h)
  | z :: zs, h => by
    unfold insI at h
    split at h
    · exact List.mem_cons.mp h
    · rcases List.mem_cons.mp h with h | h
      · exact .inr (h ▸ .head _)
      · rcases insI_mem h with h | h
        · exact .inl h
        · exact .inr (.tail _ h)
theorem insI_perm {x : Int} : ∀ {ys : List Int}, (insI x ys).Perm (x :: ys)
  | [] => .refl _
  | z :: zs => by
    unfold insI
    split
    · exact .refl _
    · exact (List.Perm.cons z insI_perm).trans (.swap x z zs)
theorem insI_pw {x : Int} : ∀ {ys : List Int}, ys.Pairwise (· ≤ ·) → (insI x ys).Pairwise (· ≤ ·)
  | [], _ => List.pairwise_singleton _ _
  | z :: zs, h => by
    obtain ⟨h1, h2⟩ := List.pairwise_cons.mp h
    unfold insI
    split
    · next hx =>
      refine List.pairwise_cons.mpr ⟨fun y hy => ?_, h⟩
      rcases List.mem_cons.mp hy with hy | hy
      · omega
      · have := h1 y hy
        omega
    · refine List.pairwise_cons.mpr ⟨fun y hy => ?_, insI_pw h2⟩
      rcases insI_mem hy with hy | hy
      · omega
      · exact h1 y hy
theorem sortI_perm : ∀ {xs : List Int}, (sortI xs).Perm xs
  | [] => .refl _
  | _ :: _ => insI_perm.trans (.cons _ sortI_perm)
theorem sortI_pw : ∀ {xs : List Int}, (sortI xs).Pairwise (· ≤ ·)
  | [] => .nil
  | _ :: _ => insI_pw sortI_pw
theorem sortI_only {xs ys : List Int} (p : ys.Perm xs) (h : ys.Pairwise (· ≤ ·)) : ys = sortI xs :=
  (p.trans sortI_perm.symm).eq_of_pairwise (fun a b _ _ h1 h2 => by omega) h sortI_pw
def dSortI : D → Option D
  | .list ds => (intsD ds).map fun ns => .list ((sortI ns).map PyData.int)
  | _ => none
section
variable {G : Gm} {U : Hp} {pn : Pn} {E : XK} {e : Ev} {σ : L2.St} {H B H' B' H1 B1 : Hp}
theorem f_sortI : Cf1 G pn (rSortedI G.K) dSortI := by
  intro U e σ H B x a c Q rl ra h q
  unfold dSortI at h
  split at h
  · obtain ⟨ns, hn, rfl⟩ := Option.map_eq_some_iff.mp h
    obtain ⟨a1, xs, rfl, h1, n1, r1⟩ := ra.lst_inv
    obtain rfl := r1.ints_inv hn
    refine ⟨a1, ns, rfl, SqL.of h1, fun ns' p hp hs hq => ?_⟩
    obtain rfl := sortI_only hp hs
    exact q p _ B (rl.fresh hq (.lst upd_same (RzA.ints _))) (Same.refl _) (Keep.of (same_upd hq))
  · cases h
end
end Fw

set_option linter.all false
set_option maxRecDepth 100000
set_option maxHeartbeats 4000000
namespace Fw
open PySem PySem.Spec PyProof.Rows L2
/-! ### C(..): an instance made, its fields set at the end of __init__ -/
section
variable {G : Gm} {U : Hp} {pn : Pn} {E : XK} {e : Ev} {σ : L2.St} {H B H' B' H1 B1 : Hp}
theorem Slots.getR {a : Addr} : ∀ {σ : L2.St} {ρ : List Slot} {os : List Addr} {i : Nat}, Slots G pn B H σ ρ os → ρ[i]? = some (.me a) → σ[i]? = some (some (.ref a))
  | _, _, _, 0, .me _, e => by cases e; rfl
  | _, _, _, 0, .u _, e => by cases e
  | _, _, _, 0, .d _ _, e => by cases e
  | _, _, _, 0, .o _ _, e => by cases e
  | _, _, _, 0, .p _ _, e => by cases e
  | _, _, _, 0, .fo _ _, e => by cases e
  | _, _, _, i + 1, .d _ t, e => Slots.getR (i := i) t (by simpa using e)
  | _, _, _, i + 1, .u t, e => Slots.getR (i := i) t (by simpa using e)
  | _, _, _, i + 1, .o _ t, e => Slots.getR (i := i) t (by simpa using e)
  | _, _, _, i + 1, .p _ t, e => Slots.getR (i := i) t (by simpa using e)
  | _, _, _, i + 1, .fo _ t, e => Slots.getR (i := i) t (by simpa using e)
  | _, _, _, i + 1, .me t, e => Slots.getR (i := i) t (by simpa using e)
  | _, _, _, _, .nil, e => by simp at e
theorem Rl.getR (r : Rl G U pn e σ H B) {i : Nat} {a : Addr} (h : e.sl[i]? = some (.me a)) : σ[i]? = some (some (.ref a)) := by
  obtain ⟨os, s, _, _⟩ := r.s
  exact s.getR h
theorem Base.nb {p : PenS} (b : Base U pn p H B) {a : Addr} {o : HO} (hu : U a = some o) (n : ∀ xs, o ≠ .tup xs := by exact fun xs z => nomatch z) : B a = none := b.nub hu n
theorem Rl.frame (r : Rl G U pn e σ H B) {a : Addr} {o0 o : HO} (hno : NoC o0) (hu : U a = some o0) : Rl G (upd U a o) pn e σ (upd H a o) B := by
  obtain ⟨b, os, s, n, f⟩ := r
  have nB := b.nb hu hno.nt
  refine ⟨⟨fun c x hx => ?_, fun c x hx => ?_, fun c x hx => ?_, fun q hq => ?_, fun q hq => ?_⟩, os, s.grow (Same.refl _) (fun q hq => ?_), n, fun q hq => ?_⟩
  · have : c ≠ a := fun z => by rw [z, nB] at hx; cases hx
    rw [upd_ne this]; exact b.bh c x hx
  · by_cases z : c = a
    · rw [z, upd_same] at hx ⊢; exact hx
    · rw [upd_ne z] at hx ⊢; exact b.uh c x hx
  · have : c ≠ a := fun z => by rw [z, nB] at hx; cases hx
    rw [upd_ne this]; exact b.bu c x hx
  · obtain ⟨h1, h2, h3, h4⟩ := b.pen q hq
    have nq : q.1 ≠ a := fun z => by rw [z, hu] at h2; cases h2
    exact ⟨h1, (upd_ne nq).trans h2, (upd_ne nq).trans h3, h4⟩
  · obtain ⟨h1, h2, h3⟩ := b.tab q hq
    have np := b.npU hu q hq
    refine ⟨fun t ht => ⟨(h1 t ht).1, (upd_ne (fun z => np.2 t ht z.symm)).trans (h1 t ht).2⟩, tabs_mut h2 (b.uh _ _ hu) hno, h3.1.mut (b.uh _ _ hu) hno, h3.2⟩
  · obtain ⟨_, h2, _⟩ := f q hq
    have nq : q ≠ a := fun z => by rw [z, hu] at h2; cases h2
    exact upd_ne nq
  · obtain ⟨h1, h2, h3⟩ := f q hq
    have nq : q ≠ a := fun z => by rw [z, hu] at h2; cases h2
    exact ⟨h1, (upd_ne nq).trans h2, h3⟩
/-- the made instance becomes data -/
theorem Base.made {p : PenS} {C a dx : Addr} {fs : List (Str × V)} (b : Base U pn p H B) (hu : U a = some (.ins C dx fs)) (hx : U dx = some (.own a)) :
    Base (del (del U a) dx) pn p H (upd (upd B dx (.own a)) a (.ins C dx fs)) ∧ Same B (upd (upd B dx (.own a)) a (.ins C dx fs)) := by
  have ne : dx ≠ a := fun z => by rw [z, hu] at hx; cases hx
  have nB := b.nb hu
  have nX := b.nb hx
  refine ⟨⟨fun c x h => ?_, fun c x h => ?_, fun c x h => ?_, fun q hq => ?_, fun q hq => ?_⟩, fun c x h => ?_⟩
  · by_cases z : c = a
    · rw [z, upd_same] at h
      rw [z, b.uh a _ hu]; exact h
    · rw [upd_ne z] at h
      by_cases y : c = dx
      · rw [y, upd_same] at h
        rw [y, b.uh dx _ hx]; exact h
      · rw [upd_ne y] at h; exact b.bh c x h
  · unfold del at h
    split at h
    · cases h
    · split at h
      · cases h
      · exact b.uh c x h
  · unfold del
    split
    · exact .inl rfl
    · next y =>
      split
      · exact .inl rfl
      · next z => rw [upd_ne z, upd_ne y] at h; exact b.bu c x h
  · obtain ⟨h1, h2, h3, h4⟩ := b.pen q hq
    have n1 : q.1 ≠ a := fun z => by rw [z, hu] at h2; cases h2
    have n2 : q.1 ≠ dx := fun z => by rw [z, hx] at h2; cases h2
    have n3 : q.2 ≠ a := fun z => by rw [z, nB] at h4; cases h4
    have n4 : q.2 ≠ dx := fun z => by rw [z, nX] at h4; cases h4
    refine ⟨by rw [upd_ne n1, upd_ne n2]; exact h1, ?_, h3, by rw [upd_ne n3, upd_ne n4]; exact h4⟩
    unfold del
    rw [if_neg n2, if_neg n1]; exact h2
  · obtain ⟨h1, h2, h3⟩ := b.tab q hq
    have p1 := b.npU hu q hq
    have p2 := b.npU hx q hq
    have sm : Same B (upd (upd B dx (.own a)) a (.ins C dx fs)) := fun c x h => by
      rw [upd_ne (fun z => by rw [z, nB] at h; cases h), upd_ne (fun z => by rw [z, nX] at h; cases h)]
      exact h
    refine ⟨fun t ht => ⟨?_, ?_⟩, h2, h3.1, h3.2.trans sm⟩
    · rw [upd_ne (fun z => p1.2 t ht z.symm), upd_ne (fun z => p2.2 t ht z.symm)]; exact (h1 t ht).1
    · unfold del
      rw [if_neg (fun z => p2.2 t ht z.symm), if_neg (fun z => p1.2 t ht z.symm)]; exact (h1 t ht).2
  · have n1 : c ≠ a := fun z => by rw [z, nB] at h; cases h
    have n2 : c ≠ dx := fun z => by rw [z, nX] at h; cases h
    rw [upd_ne n1, upd_ne n2]; exact h
/-! the end of an __init__: self.f = .., one behind another -/
abbrev FM := List (Str × D) → FG D
def PostM (G : Gm) (U : Hp) (pn : Pn) (E : XK) (a dx : Addr) (B : Hp) (p' : PenS) (Dn : Ends) : Rs D → Prop
  | .v d => ∀ σ' H' B', Base (del (del U a) dx) pn p' H' B' → Same B B' → Rz G B' (.ref a) d → Dn.nx σ' H'
  | .x c ns ds => ∀ cls ao H' B', Base (del (del U a) dx) pn p' H' B' → Same B B' → XAt G B' H' cls ao c ns ds → E cls ao H'
theorem Base.sub {U1 : Hp} {p : PenS} (b : Base U none p H B) (s : Same U1 U) : Base U1 none p H B := by
  have no : ∀ c, U c = none → U1 c = none := fun c h => by
    cases h1 : U1 c with
    | none => rfl
    | some x => rw [s c x h1] at h; cases h
  exact ⟨b.bh, s.trans b.uh, fun c x h => (b.bu c x h).imp (no c) id, (fun q hq => by cases hq), (fun q hq => by cases hq)⟩
theorem del2_sub {a dx : Addr} : Same (del (del U a) dx) U := fun c x h => by
  unfold del at h
  split at h
  · cases h
  · split at h
    · cases h
    · exact h
theorem Base.del2 {p : PenS} {a dx C : Addr} {fs : List (Str × V)} (b : Base U pn p H B) (hu : U a = some (.ins C dx fs)) (hx : U dx = some (.own a)) : Base (del (del U a) dx) pn p H B := by
  have no : ∀ c, U c = none → (del (del U a) dx) c = none := fun c h => by
    cases h1 : (del (del U a) dx) c with
    | none => rfl
    | some x => rw [del2_sub c x h1] at h; cases h
  refine ⟨b.bh, fun c x h => b.uh c x (del2_sub c x h), fun c x h => (b.bu c x h).imp (no c) id, fun q hq => ?_, fun q hq => ?_⟩
  · obtain ⟨h1, h2, h3, h4⟩ := b.pen q hq
    exact ⟨h1, no _ h2, h3, h4⟩
  · obtain ⟨h1, h2, h3⟩ := b.tab q hq
    exact ⟨fun t ht => ⟨(h1 t ht).1, no _ (h1 t ht).2⟩, h2, h3⟩
theorem del2_upd {a dx : Addr} {o : HO} : del (del (upd U a o) a) dx = del (del U a) dx := by
  funext c
  unfold del
  split
  · rfl
  · split
    · rfl
    · next z => exact upd_ne z
theorem PostM.up {a dx : Addr} {p' : PenS} {Dn : Ends} {r : Rs D} (s : Same B B1) (h : PostM G U pn E a dx B p' Dn r) : PostM G U pn E a dx B1 p' Dn r := by
  cases r with
  | v d => exact fun σ' H' B' b s' x => h σ' H' B' b (s.trans s') x
  | x c ns ds => exact fun cls ao H' B' b s' x => h cls ao H' B' b (s.trans s') x
theorem putF_new {f : Str} {v : V} : ∀ {fs : List (Str × V)}, f ∉ fs.map (·.1) → putF f v fs = fs ++ [(f, v)]
  | [], _ => rfl
  | (g, x) :: r, h => by
    have h1 : g ≠ f := fun z => h (by rw [z]; exact .head _)
    show (if g = f then (g, v) :: r else (g, x) :: putF f v r) = _
    rw [if_neg h1, putF_new (fun z => h (.tail _ z))]
    rfl
def CM (G : Gm) (pn : Pn) (E : XK) (c : Str) (t : TS) (T : FM) : Prop := ∀ (acc : List (Str × D)) (fs : List (Str × V)) U e σ H B r p' a dx C Dn, σ[0]? = some (some (.ref a)) → Rl G U pn e σ H B → U a = some (.ins C dx fs) → U dx = some (.own a) → G.X c = some C →
  fs.map (·.1) = acc.map (·.1) → RzA G B (fs.map (·.2)) (acc.map (·.2)) → T acc e = some (r, p') → PostM G U pn E a dx B p' Dn r → t Dn σ H
def newF (f : Str) (acc : List (Str × D)) : Bool := !(acc.map (·.1)).contains f && decide (acc.length < 999)
def oneM (c f : Str) (g : FG D) : FM := fun acc => bindG g fun d => if newF f acc = true then retG (insD c ((acc ++ [(f, d)]).map (·.1)) ((acc ++ [(f, d)]).map (·.2))) else fun _ => none
def consM (f : Str) (g : FG D) (T : FM) : FM := fun acc => bindG g fun d => if newF f acc = true then T (acc ++ [(f, d)]) else fun _ => none
theorem newF_inv {f : Str} {acc : List (Str × D)} {fs : List (Str × V)} (hn : fs.map (·.1) = acc.map (·.1)) (h : newF f acc = true) : f ∉ fs.map (·.1) ∧ fs.length < 1000 := by
  unfold newF at h
  rw [Bool.and_eq_true] at h
  obtain ⟨h1, h2⟩ := h
  have hl := congrArg List.length hn
  rw [List.length_map, List.length_map] at hl
  refine ⟨fun z => ?_, by have := of_decide_eq_true h2; omega⟩
  rw [hn] at z
  rw [List.contains_iff_mem.mpr z] at h1
  cases h1
theorem cm_one {c f : Str} {tv : TE} {g : FG D} (T : Fld G c f) (hv : CE G pn E tv g) : CM G pn E c (sFld G.K (tVar 0) tv f) (oneM c f g) := by
  intro acc fs U e σ H B r p' a dx C Dn h0 rl hu hx hX hn hr hf post
  obtain ⟨c1, c2⟩ := T.at_ C hX
  rcases bind_inv hf with ⟨c', ns, ds, he, rfl⟩ | ⟨d, q, he, hg⟩
  · exact hv U e σ H B _ _ _ rl he fun cls ao H' B' b s x => post cls ao H' B' (b.del2 hu hx) s x
  · split at hg
    · next hnew =>
      cases hg
      obtain ⟨hf1, hl⟩ := newF_inv hn hnew
      refine hv U e σ H B _ _ _ rl he fun v H1 B1 rl1 s1 k1 rz => ?_
      refine ⟨.ref a, h0, a, C, dx, fs, rfl, rl1.b.uh _ _ hu, c1, c2, hl, ?_⟩
      rw [putF_new hf1]
      have rl2 := rl1.frame (o := .ins C dx (fs ++ [(f, v)])) noC_ins hu
      have hxa : dx ≠ a := fun z => by rw [z, hu] at hx; cases hx
      obtain ⟨b3, s3⟩ := rl2.b.made upd_same ((upd_ne hxa).trans hx)
      rw [del2_upd] at b3
      refine post σ _ _ b3 (s1.trans s3) ?_
      have e1 : (acc ++ [(f, d)]).map (·.1) = (fs ++ [(f, v)]).map (·.1) := by rw [List.map_append, List.map_append, hn]; rfl
      rw [e1]
      refine .ins upd_same ((upd_ne hxa).trans upd_same) hX ?_
      rw [List.map_append, List.map_append]
      exact ((hr.same s1).same s3).app (.cons (rz.same s3) .nil)
    · cases hg
theorem cm_cons {c f : Str} {tv : TE} {g : FG D} {t2 : TS} {T2 : FM} (T : Fld G c f) (hv : CE G pn E tv g) (h2 : CM G pn E c t2 T2) : CM G pn E c (tSeq (sFld G.K (tVar 0) tv f) t2) (consM f g T2) := by
  intro acc fs U e σ H B r p' a dx C Dn h0 rl hu hx hX hn hr hf post
  obtain ⟨c1, c2⟩ := T.at_ C hX
  rcases bind_inv hf with ⟨c', ns, ds, he, rfl⟩ | ⟨d, q, he, hg⟩
  · exact hv U e σ H B _ _ _ rl he fun cls ao H' B' b s x => post cls ao H' B' (b.del2 hu hx) s x
  · split at hg
    · next hnew =>
      obtain ⟨hf1, hl⟩ := newF_inv hn hnew
      refine hv U e σ H B _ _ _ rl he fun v H1 B1 rl1 s1 k1 rz => ?_
      refine ⟨.ref a, h0, a, C, dx, fs, rfl, rl1.b.uh _ _ hu, c1, c2, hl, ?_⟩
      rw [putF_new hf1]
      have hxa : dx ≠ a := fun z => by rw [z, hu] at hx; cases hx
      refine h2 (acc ++ [(f, d)]) (fs ++ [(f, v)]) _ _ σ _ B1 r p' a dx C _ h0 (rl1.frame noC_ins hu) upd_same ((upd_ne hxa).trans hx) hX ?_ ?_ hg ?_
      · rw [List.map_append, List.map_append, hn]; rfl
      · rw [List.map_append, List.map_append]
        exact (hr.same s1).app (.cons rz .nil)
      · have := post.up s1
        cases r with
        | v d => intro σ' H' B' b; rw [del2_upd] at b; exact this σ' H' B' b
        | x c ns ds => intro cls ao H' B' b; rw [del2_upd] at b; exact this cls ao H' B' b
    · cases hg
/-- ahead of it: statements that leave self where it is -/
def CMI (G : Gm) (pn : Pn) (E : XK) (c : Str) (t : TS) (F : FG D) : Prop := ∀ U e σ H B r p' a dx C Dn, e.sl[0]? = some (.me a) → Rl G U pn e σ H B → U a = some (.ins C dx []) → U dx = some (.own a) → G.X c = some C → F e = some (r, p') → PostM G U pn E a dx B p' Dn r → t Dn σ H
theorem cmi_end {c : Str} {t : TS} {T : FM} (h : CM G pn E c t T) : CMI G pn E c t (T []) := fun U e σ H B r p' a dx C Dn h0 rl hu hx hX hf post =>
  h [] [] U e σ H B r p' a dx C Dn (rl.getR h0) rl hu hx hX rfl .nil hf post
def sameMe : Option Slot → Option Slot → Bool
  | some (.me a), some (.me b) => decide (a = b)
  | _, _ => false
theorem sameMe_eq {x : Option Slot} {a : Addr} (h : sameMe x (some (.me a)) = true) : x = some (.me a) := by
  unfold sameMe at h
  split at h
  · next b c h1 h2 =>
    cases h2
    rw [of_decide_eq_true h]
  · cases h
def preM (f : FS) (F : FG D) : FG D := fun e => match f e with
  | some (.nx, e') => if sameMe e'.sl[0]? e.sl[0]? = true then F e' else none
  | some (.x c ns ds, e') => some (.x c ns ds, e'.pen)
  | _ => none
theorem cmi_pre {c : Str} {tp t : TS} {f : FS} {F : FG D} (h1 : CS G pn E tp f) (h2 : CMI G pn E c t F) : CMI G pn E c (tSeq tp t) (preM f F) := by
  intro U e σ H B r p' a dx C Dn h0 rl hu hx hX hf post
  unfold preM at hf
  split at hf
  · next e' hfe =>
    split at hf
    · next hs =>
      rw [h0] at hs
      exact h1 U e σ H B _ _ _ rl hfe fun σ' H' B' rl' s' => h2 U e' σ' H' B' r p' a dx C Dn (sameMe_eq hs) rl' hu hx hX hf (post.up s')
    · cases hf
  · next c' ns ds e' hfe =>
    cases hf
    exact h1 U e σ H B _ _ _ rl hfe fun cls ao H' B' b s x => post cls ao H' B' (b.del2 hu hx) s x
  · cases hf
end
/-! what an __init__ promises; C(..) -/
def PostK (G : Gm) (U : Hp) (a dx : Addr) (B : Hp) (p' : PenS) (Q : VK) (E : XK) : Rs D → Prop
  | .v d => ∀ H' B', Base (del (del U a) dx) none p' H' B' → Same B B' → Rz G B' (.ref a) d → Q .non H'
  | .x c ns ds => ∀ cls ao H' B', Base (del (del U a) dx) none p' H' B' → Same B B' → XAt G B' H' cls ao c ns ds → E cls ao H'
def spMk (G : Gm) (C : Addr) (n : Nat) (F : Addr → FF) : Sp := fun vs H Q E => ∃ (a dx : Addr) (U B : Hp) (ws : List V) (ds : List D) (r : Rs D) (p' : PenS),
  vs = .ref a :: ws ∧ ds.length = n ∧ U a = some (.ins C dx []) ∧ U dx = some (.own a) ∧ Base U none pen0 H B ∧ RzA G B ws ds ∧ F a ds pen0 = some (r, p') ∧ PostK G U a dx B p' Q E r
def slotsM (a : Addr) (N : Nat) (ds : List D) : List Slot := .me a :: (ds.map Slot.d ++ List.replicate (N - (ds.length + 1)) .u)
def defM (N : Nat) (F : FG D) (a : Addr) : FF := fun ds p => F ⟨slotsM a N ds, p⟩
section
variable {G : Gm} {U : Hp} {pn : Pn} {E : XK} {e : Ev} {σ : L2.St} {H B H' B' H1 B1 : Hp}
theorem spMk_len {C : Addr} {n : Nat} {F : Addr → FF} {vs : List V} {Q : VK} {E' : XK} (h : spMk G C n F vs H Q E') : vs.length = n + 1 := by
  obtain ⟨a, dx, U, B, ws, ds, r, p', rfl, hn, _, _, _, ra, _⟩ := h
  rw [List.length_cons, ra.length, hn]
theorem run_m {C : Addr} {c : Str} {n : Nat} {N : List Str} {F : FG D} {ts : TS} {vs : List V} {Q : VK} (hcs : CMI G none E c ts F) (hX : G.X c = some C) (h : spMk G C n (defM N.length F) vs H Q E) :
    ts { nx := fun _ H' => Q .non H', rt := Q } (L2.start N vs) H := by
  obtain ⟨a, dx, U, B, ws, ds, r, p', rfl, hn, hu, hx, b, ra, hF, post⟩ := h
  have rl : Rl G U none ⟨slotsM a N.length ds, pen0⟩ (L2.start N (.ref a :: ws)) H B := by
    refine ⟨b, [], ?_, .nil, fun q hq => by cases hq⟩
    unfold slotsM L2.start
    rw [List.map_cons, List.cons_append, List.length_cons, ra.length]
    exact .me ((Slots.us _).ds ra)
  refine hcs U _ _ H B r p' a dx C _ rfl rl hu hx hX hF ?_
  cases r with
  | v d => exact fun σ' H' B' b' s rz => post H' B' b' s rz
  | x c ns es => exact post
theorem outU_none {a : Addr} (h : H a = none) : outU none B H a = none := by
  cases e : outU none B H a with
  | none => rfl
  | some o => rw [(outU_in e).2.2] at h; cases h
def mkG (n : Nat) (F : Addr → FF) (f : FG (List D)) : FG D := bindG f fun ds e => if ds.length = n then (match F 0 ds pen0 with
  | some (r, _) => some (r, e.pen)
  | none => none) else none
theorem ce_make {C : Addr} {n : Nat} {F : Addr → FF} {f : FG (List D)} {t : TA} (hF : ∀ a, F a = F 0) (h : CA G pn E t f) : CE G pn E (tMake C (spMk G C n F) [] E t) (mkG n F f) := by
  refine CG.bind (t := t) h fun ws ds U e σ H B r p' Q rl ra hf post => ?_
  split at hf
  · next hn =>
    split at hf
    · next r q hR =>
      cases hf
      intro x dx hx hd ne
      have b0 := rl.call0
      have hxB : B x = none := rl.b.bh.free hx
      have hdB : B dx = none := rl.b.bh.free hd
      have sH : Same H (upd (upd H dx (.own x)) x (.ins C dx [])) := fun c o hc => by
        rw [upd_ne (ne_of_none hc hx), upd_ne (ne_of_none hc hd)]; exact hc
      refine ⟨x, dx, upd (upd (outU none B H) dx (.own x)) x (.ins C dx []), B, ws, ds, r, q, by rw [List.append_nil], hn, upd_same, (upd_ne ne).trans upd_same, ⟨rl.b.bh.trans sH, fun c o hc => ?_, fun c o hc => ?_, (fun _ hq => by cases hq), (fun _ hq => by cases hq)⟩, ra, by rw [hF]; exact hR, ?_⟩
      · by_cases z : c = x
        · rw [z, upd_same] at hc ⊢; exact hc
        · rw [upd_ne z] at hc ⊢
          by_cases y : c = dx
          · rw [y, upd_same] at hc ⊢; exact hc
          · rw [upd_ne y] at hc ⊢; exact (outU_in hc).2.2
      · have n1 : c ≠ x := fun z => by rw [z, hxB] at hc; cases hc
        have n2 : c ≠ dx := fun z => by rw [z, hdB] at hc; cases hc
        rw [upd_ne n1, upd_ne n2]
        exact b0.bu c o hc
      · have sub : Same (outU none B H) (del (del (upd (upd (outU none B H) dx (.own x)) x (.ins C dx [])) x) dx) := fun c o hc => by
          have n1 : c ≠ x := fun z => by rw [z, outU_none hx] at hc; cases hc
          have n2 : c ≠ dx := fun z => by rw [z, outU_none hd] at hc; cases hc
          rw [del_ne n2, del_ne n1, upd_ne n1, upd_ne n2]; exact hc
        cases r with
        | v d =>
          intro H' B' b s rz
          obtain ⟨rl', k⟩ := rl.after0 (b.sub sub) s
          exact ⟨rfl, post _ H' B' rl' s k rz⟩
        | x c ns es =>
          intro cls ao H' B' b s xa
          obtain ⟨rl', k⟩ := rl.after0 (b.sub sub) s
          exact post cls ao H' B' rl'.b s xa
    · cases hf
  · cases hf
end
end Fw

set_option linter.all false
set_option maxRecDepth 100000
set_option maxHeartbeats 4000000
namespace Fw
open PySem PySem.Spec PyProof.Rows L2
/-! ### where self stands is not looked at -/
def swS (a : Addr) : Slot → Slot
  | .me _ => .me a
  | s => s
def sw (a : Addr) (e : Ev) : Ev := ⟨e.sl.map (swS a), e.pen⟩
def sw2 {α : Type} (a : Addr) (r : α × Ev) : α × Ev := (r.1, sw a r.2)
def Mg {α : Type} (f : FG α) : Prop := ∀ a e, f (sw a e) = f e
def Ms (f : FS) : Prop := ∀ a e, f (sw a e) = (f e).map (sw2 a)
def Mt (t : FT) : Prop := ∀ a d sl, t d (sl.map (swS a)) = (t d sl).map (List.map (swS a))
def Mts (t : List D → List Slot → Option (List Slot)) : Prop := ∀ a d sl, t d (sl.map (swS a)) = (t d sl).map (List.map (swS a))
section
variable {α β : Type}
theorem mg_ret {x : α} : Mg (retG x) := fun _ _ => rfl
theorem mg_opt {o : Option α} : Mg (optG o) := fun _ _ => rfl
theorem mg_none : Mg (fun _ => none : FG α) := fun _ _ => rfl
theorem mg_bind {f : FG α} {g : α → FG β} (h1 : Mg f) (h2 : ∀ x, Mg (g x)) : Mg (Fw.bindG f g) := fun a e => by
  unfold Fw.bindG
  rw [h1 a e]
  cases hf : f e with
  | none => rfl
  | some r =>
    obtain ⟨r, q⟩ := r
    cases r with
    | x c ns ds => rfl
    | v x => exact h2 x a ⟨e.sl, q⟩
theorem mg_slotD {i : Nat} : Mg (slotD i) := fun a e => by
  unfold slotD
  show (match (e.sl.map (swS a))[i]? with | some (.d x) => some (Rs.v x, e.pen) | _ => none) = _
  rw [List.getElem?_map]
  cases e.sl[i]? with
  | none => rfl
  | some s => cases s <;> rfl
theorem mg_if {c : Prop} [Decidable c] {f g : FG α} (h1 : Mg f) (h2 : Mg g) : Mg (if c then f else g) := by
  split <;> assumption
theorem mg_callN {n : Nat} {F : FF} {f : FG (List D)} (h : Mg f) : Mg (callN n F f) := mg_bind h fun ds a e => rfl
theorem mg_callX {n : Nat} {F : FF} {f : FG (List D)} (h : Mg f) : Mg (callX n F f) := mg_bind h fun ds a e => rfl
theorem mg_mk {n : Nat} {F : Addr → FF} {f : FG (List D)} (h : Mg f) : Mg (mkG n F f) := mg_bind h fun ds a e => rfl
theorem ms_next : Ms nextS := fun _ _ => rfl
theorem ms_brk : Ms breakS := fun _ _ => rfl
theorem ms_cnt : Ms contS := fun _ _ => rfl
theorem ms_none : Ms (fun _ => none) := fun _ _ => rfl
theorem ms_seq {f g : FS} (h1 : Ms f) (h2 : Ms g) : Ms (seqS f g) := fun a e => by
  unfold seqS
  rw [h1 a e]
  cases hf : f e with
  | none => rfl
  | some r =>
    obtain ⟨r, e'⟩ := r
    cases r with
    | nx => exact h2 a e'
    | _ => rfl
theorem ms_then {f : FG α} {g : α → FS} (h1 : Mg f) (h2 : ∀ x, Ms (g x)) : Ms (thenS f g) := fun a e => by
  unfold thenS
  rw [h1 a e]
  cases hf : f e with
  | none => rfl
  | some r =>
    obtain ⟨r, q⟩ := r
    cases r with
    | x c ns ds => rfl
    | v x => exact h2 x a ⟨e.sl, q⟩
theorem ms_ite {c : Prop} [Decidable c] {f g : FS} (h1 : Ms f) (h2 : Ms g) : Ms (if c then f else g) := by
  split <;> assumption
theorem ms_ifS {c : FG Bool} {f g : FS} (h0 : Mg c) (h1 : Ms f) (h2 : Ms g) : Ms (ifS c f g) := ms_then h0 fun _ => ms_ite h1 h2
theorem ms_retS {f : FG D} (h : Mg f) : Ms (retS f) := ms_then h fun _ _ _ => rfl
theorem ms_dropS {f : FG D} (h : Mg f) : Ms (dropS f) := ms_then h fun _ _ _ => rfl
theorem ms_raise {c : Str} {ns : List Str} {f : FG (List D)} (h : Mg f) : Ms (raiseS c ns f) := ms_then h fun ds a e => by
  by_cases z : ds.length = ns.length
  · rw [if_pos z, if_pos z]; rfl
  · rw [if_neg z, if_neg z]; rfl
theorem ms_asgS {f : FG D} {t : FT} (h : Mg f) (ht : Mt t) : Ms (asgS f t) := ms_then h fun d a e => by
  show (t d (e.sl.map (swS a))).map _ = _
  rw [ht a d e.sl]
  cases t d e.sl <;> rfl
theorem mt_name {i : Nat} : Mt (nameT i) := fun a d sl => by
  unfold nameT
  show _ = Option.map _ (some _)
  rw [Option.map_some, List.map_set]
  rfl
theorem mt_nil : Mts nilT := fun a d sl => by cases d <;> rfl
theorem mt_cons {f : FT} {g : List D → List Slot → Option (List Slot)} (h1 : Mt f) (h2 : Mts g) : Mts (consT f g) := fun a d sl => by
  cases d with
  | nil => rfl
  | cons d r =>
    show (f d (sl.map (swS a))).bind (g r) = ((f d sl).bind (g r)).map _
    rw [h1 a d sl]
    cases f d sl with
    | none => rfl
    | some e => exact h2 a r e
theorem mt_tup {n : Nat} {f : List D → List Slot → Option (List Slot)} (h : Mts f) : Mt (tupT n f) := fun a d sl => by
  unfold tupT
  split
  · split
    · exact h a _ sl
    · rfl
  · split
    · exact h a _ sl
    · rfl
  · rfl
theorem ms_forL {ft : FT} {body : FS} (ht : Mt ft) (h : Ms body) : ∀ ds, Ms (forL ft body ds)
  | [] => fun _ _ => rfl
  | d :: ds => fun a e => by
    unfold forL
    show (match ft d (e.sl.map (swS a)) with | none => none | some sl' => _) = _
    rw [ht a d e.sl]
    cases hs : ft d e.sl with
    | none => rfl
    | some sl' =>
      rw [Option.map_some]
      dsimp only
      rw [show body ⟨List.map (swS a) sl', (sw a e).pen⟩ = _ from h a ⟨sl', e.pen⟩]
      cases hb : body ⟨sl', e.pen⟩ with
      | none => rfl
      | some r =>
        obtain ⟨r, e'⟩ := r
        cases r with
        | nx => exact ms_forL ht h ds a e'
        | ct => exact ms_forL ht h ds a e'
        | _ => rfl
theorem ms_for {fi : FG (List D)} {ft : FT} {body : FS} (h0 : Mg fi) (ht : Mt ft) (h : Ms body) : Ms (forS fi ft body) := ms_then h0 fun ds => ms_forL ht h ds
/-! the end -/
theorem mg_one {c f : Str} {g : FG D} (h : Mg g) (acc : List (Str × D)) : Mg (oneM c f g acc) := mg_bind h fun _ => mg_if mg_ret mg_none
theorem mg_cons {f : Str} {g : FG D} {T : FM} (h : Mg g) (h2 : ∀ acc, Mg (T acc)) (acc : List (Str × D)) : Mg (consM f g T acc) := mg_bind h fun _ => mg_if (h2 _) mg_none
def MgI (F : FG D) : Prop := ∀ a b e, F (sw a e) = F (sw b e)
theorem mgi_of {F : FG D} (h : Mg F) : MgI F := fun a b e => (h a e).trans (h b e).symm
theorem sameMe_sw {a b : Addr} {x y : List Slot} : sameMe (x.map (swS a))[0]? (y.map (swS a))[0]? = sameMe (x.map (swS b))[0]? (y.map (swS b))[0]? := by
  rw [List.getElem?_map, List.getElem?_map, List.getElem?_map, List.getElem?_map]
  cases x[0]? with
  | none => rfl
  | some s => cases y[0]? with
    | none => cases s <;> rfl
    | some t => cases s <;> cases t <;> first | rfl | exact (decide_eq_true rfl).trans (decide_eq_true rfl).symm
theorem mgi_pre {f : FS} {F : FG D} (h1 : Ms f) (h2 : MgI F) : MgI (preM f F) := fun a b e => by
  unfold preM
  rw [h1 a e, h1 b e]
  cases hf : f e with
  | none => rfl
  | some r =>
    obtain ⟨r, e'⟩ := r
    cases r with
    | nx =>
      show (if sameMe (e'.sl.map (swS a))[0]? (e.sl.map (swS a))[0]? = true then F (sw a e') else none) = (if sameMe (e'.sl.map (swS b))[0]? (e.sl.map (swS b))[0]? = true then F (sw b e') else none)
      rw [sameMe_sw (a := a) (b := b), h2 a b e']
    | _ => rfl
theorem defM_any {N : Nat} {F : FG D} (h : MgI F) (a : Addr) : defM N F a = defM N F 0 := by
  funext ds p
  have e : ∀ b, (⟨slotsM b N ds, p⟩ : Ev) = sw b ⟨slotsM 0 N ds, p⟩ := fun b => by
    unfold sw slotsM
    simp [swS, Function.comp_def]
  exact (congrArg F (e a)).trans ((h a 0 _).trans (congrArg F (e 0)).symm)
end
end Fw

set_option linter.all false
set_option maxRecDepth 100000
set_option maxHeartbeats 4000000
namespace Fw
open PySem PySem.Spec PyProof.Rows L2
/-! ### a class's __init__, as a def -/
/-- what is known of a class c of the text -/
structure Mkr (K : PySem.W.Frag) (XC : Str → Option Addr) (mg : Str → Option Value) (P : Program) (w : World) (base : Heap) (c : Str) (lv : Nat) (C fI : Addr) (fd : FuncData) (ps : List Str) (n : Nat) (F : Addr → FF) : Prop where
  M : Mk K C fI
  G : FnG P w K mg base (L2.CX P w) lv fI fd ps (spMk ⟨K, XC⟩ C n F)
  b : Binds K fd ps []
  m : mg c = some (.ref C)
  X : XC c = some C
section
variable {G : Gm} {P : Program} {w : World} {K : PySem.W.Frag} {mg : Str → Option Value} {base : Heap}
theorem pass_false {X : Cx} : Passes (L2.CX X.prog X.w) X E0 := fun pins σ H s e s' I c => by
  obtain ⟨a, B, H', cls, d, r⟩ := c
  exact absurd r (by rintro ⟨_, _, _, _, _, _, _, h⟩; exact h)
theorem fn_m {qual : Str} {st : Stmt} {f C : Addr} {c : Str} {fd : FuncData} {N ps : List Str} {k n : Nat} {F : FG D} (Fn : Fun K "__init__" qual st f fd) (S : FnScope N ps (defScope st)) (hl : ps.length = n + 1) (hX : G.X c = some C)
    (hbody : ∀ (cdv : Value) (A : Around) (outer : List Env) (s : Shared) (H : Hp) (E : XK), RoomG k (A.deeper (envOfC qual (defScope st) s.heap.objs.size f cdv)) →
      Takes (cxOf (L2.CX P w) P w K mg base N qual (defScope st) f cdv A outer s H E) (fun cls d _ H => E cls d H) →
      ∃ t, PSs (cxOf (L2.CX P w) P w K mg base N qual (defScope st) f cdv A outer s H E) (defBody st) t ∧ CMI G none E c t F) : FnG P w K mg base (L2.CX P w) (k + 1) f fd ps (spMk G C n (defM N.length F)) := by
  refine fnG_of Fn S (fun vs H Q E h => by rw [spMk_len h, hl]) (fun cdv A outer s H vs Q E hr h => ?_)
  obtain ⟨t, h1, h2⟩ := hbody cdv A outer s H E hr (takes_of rfl rfl rfl rfl)
  exact ⟨t, h1, run_m h2 hX h⟩
end
end Fw

set_option linter.all false
set_option maxRecDepth 100000
set_option maxHeartbeats 4000000
namespace Fw
open PySem PySem.Spec PyProof.Rows L2 Sb
/-! ### enumerate, of a list or a tuple -/
def iEnumU (K : PySem.W.Frag) (ta : TA) : TI := fun σ H R => iEnum K ta σ H R ∨ iEnumT K ta σ H R
theorem pi_enumU {X : Cx} {e : Expr} {ta : TA} {p pos tpos : Pos} {elts : List Expr} {kk : Nat} (hg : Gl X "enumerate") (hm : X.mg "enumerate" = none) (ha : PA X [e] ta) (hs : starEach [e] X.env = [(false, eval e X.env)] := by rfl) :
    PI X (.Tuple elts kk tpos) (.Call (.Name "enumerate" p) [e] [] pos) (iEnumU X.K ta) := PI.or (pi_enum hg hm ha hs) (pi_enumT hg hm ha hs)
section
variable {G : Gm} {U : Hp} {pn : Pn} {E : XK} {e : Ev} {σ : L2.St} {H B H' B' H1 B1 : Hp}
theorem walks_eT {a : Addr} {xs : List V} {ds : List D} (h : SqT G.K B a xs) (hr : RzA G B xs ds) : Walks G pn (IteT G.K a) (enumL 0 ds) B := by
  intro i U H B1 e σ s rl
  have hq : SqT G.K H a xs := same_tS rl.b.bh (same_tS s h)
  refine ⟨fun hi => ⟨xs, hq, by rw [hr.length, ← enumL_len (i := 0)]; exact hi⟩, fun d hd => ?_⟩
  obtain ⟨d0, h0, rfl⟩ := enumL_get hd
  obtain ⟨x, hx, rz⟩ := hr.get h0
  refine ⟨⟨xs, x, hq, hx⟩, fun y H' ⟨T, x', e1, e2, e3, e4⟩ => ?_⟩
  subst e1 e3
  have e5 := e4 xs hq
  rw [hx] at e5
  cases e5
  rw [Nat.zero_add]
  exact yield_pair rl e2 (.int _) (rz.same s)
def enumUD : List D → Option (List D)
  | [.list ds] => some (enumL 0 ds)
  | [.tuple ds] => some (enumL 0 ds)
  | _ => none
theorem ci_enumU {t : TA} {f : FG (List D)} (h : CA G pn E t f) : CI G pn E (iEnumU G.K t) (rgI enumUD f) := by
  intro U e σ H B r p' Q rl hf post
  rcases bind_inv hf with ⟨c, ns, ds, hx, rfl⟩ | ⟨a, q, hx, hg⟩
  · exact .inl (h U e σ H B _ _ _ rl hx post)
  · obtain ⟨ds, hc, rfl, rfl⟩ := optG_eq hg
    unfold enumUD at hc
    split at hc
    · cases hc
      refine .inl (h U e σ H B _ _ _ rl hx fun v H1 B1 rl1 s1 k1 ra => ?_)
      cases ra with
      | cons r1 r2 =>
        cases r2
        obtain ⟨a, xs, rfl, hl, hr⟩ := r1.lst_inv
        exact ⟨a, xs, rfl, SqL.of (rl1.b.bh _ _ hl), post _ H1 B1 rl1 s1 k1 (walks_e hl hr)⟩
    · cases hc
      refine .inr (h U e σ H B _ _ _ rl hx fun v H1 B1 rl1 s1 k1 ra => ?_)
      cases ra with
      | cons r1 r2 =>
        cases r2
        obtain ⟨a, xs, rfl, hl, hr⟩ := r1.tup_inv
        exact ⟨a, xs, rfl, same_t rl1.b.bh hl, post _ H1 B1 rl1 s1 k1 (walks_eT (SqT.of hl) hr)⟩
    · cases hc
end
end Fw

set_option linter.all false
set_option maxRecDepth 100000
set_option maxHeartbeats 4000000
namespace Fw
open PySem PySem.Spec PyProof.Rows L2
section
variable {G : Gm} {U : Hp} {pn : Pn} {E : XK} {e : Ev} {σ : L2.St} {H B H' B' H1 B1 : Hp}
/-! ### x = xs.pop() -/
def popS (i j : Nat) : FS := fun e => (ownL i e).bind fun ds => (ds[ds.length - 1]?).map fun d => (.nx, ⟨(e.sl.set i (.o (.list (ds.take (ds.length - 1))))).set j (.d d), e.pen⟩)
theorem cs_pop {i j : Nat} : CS G pn E (tAsg (tBM0 G.K "list" rPop (tVar i)) (gName j)) (popS i j) := by
  intro U e σ H B r e' Dn rl hf post
  obtain ⟨ds, h0, hf⟩ := Option.bind_eq_some_iff.mp hf
  obtain ⟨d, hd, hf⟩ := Option.map_eq_some_iff.mp hf
  cases hf
  obtain ⟨p, xs, e0, e2, e3⟩ := rl.lst h0
  obtain ⟨y, hy, rz⟩ := e3.get hd
  refine ⟨_, e0, .inl ⟨rfl, xs, SqL.of e2⟩, ?_⟩
  have hl := e3.length
  refine ⟨p, xs, y, rfl, rfl, e2, by rw [hl]; exact hy, ?_⟩
  have hr : RzA G B xs.dropLast (ds.take (ds.length - 1)) := by
    rw [List.dropLast_eq_take, hl]
    exact e3.take _
  exact post _ _ B ((rl.lstPut h0 e0 hr).setD rz j) (Same.refl _)
/-! ### f(..) with defaults filled up -/
def tApp (t : TA) (dvs : List V) : TA := fun σ H Q => t σ H fun vs H1 => Q (vs ++ dvs) H1
theorem tCall_app {sp : Sp} {dvs : List V} {E' : XK} {t : TA} : tCall sp dvs E' t = tCall sp [] E' (tApp t dvs) := by
  funext σ H Q
  show t σ H (fun vs H1 => sp (vs ++ dvs) H1 Q E') = t σ H (fun vs H1 => sp (vs ++ dvs ++ []) H1 Q E')
  simp only [List.append_nil]
def withD (dds : List D) (f : FG (List D)) : FG (List D) := bindG f fun ds => retG (ds ++ dds)
theorem ca_with {t : TA} {f : FG (List D)} {dvs : List V} {dds : List D} (hd : ∀ B, RzA G B dvs dds) (h : CA G pn E t f) : CA G pn E (tApp t dvs) (withD dds f) := by
  refine CG.bind (t := t) h fun vs ds U e σ H B r p' Q rl ra hf post => ?_
  cases hf
  exact post _ H B rl (Same.refl _) Keep.refl (ra.app (hd B))
theorem ce_callD {n : Nat} {F : FF} {f : FG (List D)} {t : TA} {E' : XK} {dvs : List V} {dds : List D} (hd : ∀ B, RzA G B dvs dds) (h : CA G pn E t f) : CE G pn E (tCall (spN G false n F) dvs E' t) (callN n F (withD dds f)) := by
  rw [tCall_app]
  exact ce_callN (ca_with hd h)
end
/-- .. the defaults told beside -/
theorem pe_callD {X : Cx} {CX : CXT} {k : Nat} {f : Addr} {fd : FuncData} {ps : List Str} {sp : Sp} {dvs : List V} {E : XK} {x : Str} {p pos : Pos} {e : Expr} {es : List Expr} {t : TA} (F : FnG X.prog X.w X.K X.mg X.base CX k f fd ps sp) (hr : RoomG k X.A) (hg : Gl X x) (hm : X.mg x = some (.ref f)) (hk : PySem.W.keepIn X.K (.ref f) = true) (hD : ∃ ds, Binds X.K fd ps ds ∧ Vals dvs ds) (hx : Passes CX X E)
    (ha : PA X (e :: es) t) (hdb : (x == ("__debug__" : Str)) = false := by decide) (he : starEach (e :: es) X.env = (false, eval e X.env) :: starEach es X.env := by rfl) (hpl : (backTo pos (starEach es X.env)).any (·.1) = false := by rfl) :
    PE X (.Call (.Name x p) (e :: es) [] pos) (tCall sp dvs E t) := by
  obtain ⟨ds, hb, hd⟩ := hD
  exact Fw.pe_call F hr hg hm hk hb hd hx ha hdb he hpl
end Fw

set_option linter.all false
set_option maxRecDepth 100000
set_option maxHeartbeats 4000000
namespace Fw
open PySem PySem.Spec PyProof.Rows L2
/-! ### isinstance(x, C), C a class of the text -/
structure IsC (K : PySem.W.Frag) (XC : Str → Option Addr) (mg : Str → Option Value) (c : Str) (C : Addr) : Prop where
  m : mg c = some (.ref C)
  X : XC c = some C
  ty : ∀ (H : Hp) (a dx : Addr) (fs : List (Str × V)), H a = some (.ins C dx fs) → TyX K H (.ref a) (.ref C)
  own : PySem.W.kitOne K (.ref C) (.ref C) = some true
  ne : ∀ t ∈ ["NoneType", "bool", "int", "str", "list", "tuple", "dict"], PySem.W.kitOne K (.type t) (.ref C) = some false
def dIsC (c : Str) (d : D) : Option D := if isInsD d = true then (match d with
  | .dict ((.none, .str c') :: _) => if c' = c then some (.bool true) else none
  | _ => none) else some (.bool false)
theorem tyN_in (d : D) : tyN d ∈ ["NoneType", "bool", "int", "str", "list", "tuple", "dict"] := by
  cases d <;> simp [tyN]
section
variable {G : Gm} {U : Hp} {pn : Pn} {E : XK} {e : Ev} {σ : L2.St} {H B H' B' H1 B1 : Hp}
theorem ce_isc {mg : Str → Option Value} {c : Str} {C : Addr} {t : TE} {f : FG D} (T : IsC G.K G.X mg c C) (h : CB G pn E t f) : CE G pn E (tCB (rIsi G.K) (tCons t (tCons (tC (.ref C)) tNil))) (op1 (dIsC c) f) := by
  refine CG.bind (t := t) h fun v a U e σ H B r p' Q rl ra hf post => ?_
  obtain ⟨x, hx, rfl, rfl⟩ := optG_eq hf
  unfold dIsC at hx
  split at hx
  · next hi =>
    cases ra with
    | fn h => cases hx
    | kt h h2 => cases hx
    | ins h1 h2 h3 h4 =>
      rename_i c' fs ds
      have hx' : (if c' = c then some (PyData.bool true) else none) = some x := hx
      by_cases z : c' = c
      · rw [if_pos z] at hx'
        cases hx'
        subst z
        have e1 := T.X.symm.trans h3
        cases e1
        exact ⟨_, .ref C, _, _, true, rfl, .own C, T.ty _ _ _ _ (rl.b.bh _ _ h1), T.own, post _ H B rl (Same.refl _) Keep.refl (.bl _)⟩
      · rw [if_neg z] at hx'; cases hx'
    | dk h1 h2 h3 =>
      exfalso
      rename_i ks ds
      cases ks with
      | nil => cases hi
      | cons k ks => cases ds with
        | nil => cases hi
        | cons d ds => obtain ⟨k, u⟩ := k; cases k <;> cases hi
    | dt h1 h2 h3 =>
      exfalso
      rename_i ks ds
      cases ks with
      | nil => cases hi
      | cons k ks => cases ds with
        | nil => cases hi
        | cons d ds => simp [keyT] at hx
    | _ => cases hi
  · next hi =>
    cases hx
    exact ⟨v, .ref C, _, _, false, rfl, .own C, ra.ty rl.b.bh (by simpa using hi), T.ne _ (tyN_in a), post _ H B rl (Same.refl _) Keep.refl (.bl _)⟩
end
end Fw

set_option linter.all false
set_option maxRecDepth 100000
set_option maxHeartbeats 4000000
namespace Fw
open PySem PySem.Spec PyProof.Rows L2
section
variable {G : Gm} {U : Hp} {pn : Pn} {E : XK} {e : Ev} {σ : L2.St} {H B H' B' H1 B1 : Hp}
/-! ### a, b = e, [] -/
def parDO (i j : Nat) (f g : FG D) : FS := thenS f fun a => thenS g fun b e => if j < e.sl.length ∧ i ≠ j then some (.nx, ⟨(e.sl.set j (.o b)).set i (.d a), e.pen⟩) else none
theorem cs_parDO {i j : Nat} {t u : TE} {f g : FG D} (h1 : CE G pn E t f) (h2 : CF G pn E u g) : CS G pn E (tPar i j (tCons t (tCons u tNil))) (parDO i j f g) := by
  intro U e σ H B r e' Dn rl hf post
  rcases thenS_inv hf with ⟨c, ns, ds, q, hx, rfl, rfl⟩ | ⟨a, q, hx, hg⟩
  · exact h1 U e σ H B _ _ _ rl hx post
  · refine h1 U e σ H B _ _ _ rl hx fun v H1 B1 rl1 s1 k1 rz => ?_
    rcases thenS_inv hg with ⟨c, ns, ds, q2, hx2, rfl, rfl⟩ | ⟨b, q2, hx2, hg2⟩
    · exact h2 U _ σ H1 B1 _ _ _ rl1 hx2 fun cls ao H' B' b s x => post cls ao H' B' b (s1.trans s) x
    · refine h2 U _ σ H1 B1 _ _ _ rl1 hx2 fun p H2 B2 fr s2 k2 => ?_
      dsimp only at hg2
      split at hg2
      · next hij =>
        cases hg2
        refine ⟨_, _, rfl, ?_⟩
        have r3 := (fr.setO hij.1).setD (rz.same s2) i
        rw [List.set_comm _ _ (Ne.symm hij.2)] at r3
        have r4 : Rl G U pn ⟨(e.sl.set i (.d a)).set j (.o b), q2⟩ ((σ.set i (some v)).set j (some (.ref p))) H2 B2 := by
          rw [List.set_comm (some (V.ref p)) (some v) (Ne.symm hij.2)] at r3
          exact r3
        rw [List.set_comm _ _ (Ne.symm hij.2)] at post
        exact post _ H2 B2 r4 (s1.trans s2)
      · cases hg2
end
end Fw

set_option linter.all false
set_option maxRecDepth 100000
set_option maxHeartbeats 4000000
namespace Fw
open PySem PySem.Spec PyProof.Rows L2
/-! ### for the end: what the written part tells gives the hypotheses -/
section
variable {K : PySem.W.Frag} {XC : Str → Option Addr} {mg : Str → Option Value}
theorem Fld.of {c f : Str} {C : Addr} (hX : XC c = some C) (cl : Cls K C) (na : NoAttr K C f) : Fld ⟨K, XC⟩ c f :=
  ⟨fun C' h => by
    have e := hX.symm.trans h
    cases e
    exact ⟨cl, na⟩⟩
theorem IsC.of {c : Str} {C : Addr} (hX : XC c = some C) (hm : mg c = some (.ref C)) (cl : Cls K C) (ha : PySem.W.findIn K (.ref C) "__class__" = some (some (.builtin "object.__class__")))
    (hn : PySem.W.specialIn K (.builtin "object.__class__") "__get__" = some (some (.builtin "getset_descriptor.__get__"))) (ht : PySem.W.takesIn K (.builtin "object.__class__") = some true)
    (ho : PySem.W.mroIn K C (.type "object") = some true) (own : PySem.W.kitOne K (.ref C) (.ref C) = some true)
    (n0 : PySem.W.kitOne K (.type "NoneType") (.ref C) = some false) (n1 : PySem.W.kitOne K (.type "bool") (.ref C) = some false) (n2 : PySem.W.kitOne K (.type "int") (.ref C) = some false) (n3 : PySem.W.kitOne K (.type "str") (.ref C) = some false)
    (n4 : PySem.W.kitOne K (.type "list") (.ref C) = some false) (n5 : PySem.W.kitOne K (.type "tuple") (.ref C) = some false) (n6 : PySem.W.kitOne K (.type "dict") (.ref C) = some false) : IsC K XC mg c C :=
  ⟨hm, hX, fun H a dx fs h => .base (.ins h cl ha hn ht ho), own, fun t h => by
    simp only [List.mem_cons, List.not_mem_nil, or_false] at h
    rcases h with rfl | rfl | rfl | rfl | rfl | rfl | rfl <;> assumption⟩
/-- a module's constant that is a number, a text -/
theorem Cst.int {x : Str} {i : Int} {t : Tok} (h : mg x = some (.int i t)) : Cst K XC mg x (.int i) (.int i) := ⟨⟨_, h, _, rfl⟩, fun _ => .int i⟩
/-- .. a tuple of what is plain -/
theorem Cst.tup {x : Str} {a : Addr} {xs : List V} {ds : List D} (h : mg x = some (.ref a)) (l : KT K a xs) (hz : ∀ B, RzA ⟨K, XC⟩ B xs ds) :
    Cst K XC mg x (.ref a) (kD ds) := ⟨⟨_, h, rfl⟩, fun B => .kt l (hz B)⟩
end
end Fw

set_option linter.all false
set_option maxRecDepth 100000
set_option maxHeartbeats 4000000
namespace Fw
open PySem PySem.Spec PyProof.Rows L2
section
variable {G : Gm} {U : Hp} {pn : Pn} {E : XK} {e : Ev} {σ : L2.St} {H B H' B' H1 B1 : Hp}
/-- two new objects, one behind the other -/
theorem two_new {i j : Nat} {t u : TE} {f g : FG D} {a b : D} {q q2 : PenS} {Q : V → V → Hp → Prop} (h1 : CF G pn E t f) (h2 : CF G pn E u g) (rl : Rl G U pn e σ H B) (hx : f e = some (.v a, q)) (hx2 : g ⟨e.sl, q⟩ = some (.v b, q2))
    (hij : i < e.sl.length ∧ j < e.sl.length ∧ i ≠ j)
    (post : ∀ p p2 H2 B2, Rl G U pn ⟨(e.sl.set i (.o a)).set j (.o b), q2⟩ ((σ.set i (some (.ref p))).set j (some (.ref p2))) H2 B2 → Same B B2 → Q (.ref p) (.ref p2) H2) : t σ H fun v H1 => u σ H1 fun w H2 => Q v w H2 := by
  refine h1 U e σ H B _ _ _ rl hx fun p H1 B1 fr s1 k1 => ?_
  obtain ⟨o, ho, hno⟩ := fr.o.atC
  obtain ⟨os, ss, nn, ff, np⟩ := fr.s
  obtain ⟨n1, n2, n3⟩ := fr.n
  have rlU : Rl G (upd U p o) pn ⟨e.sl, q⟩ σ H1 B1 := by
    refine ⟨⟨fr.b.bh, fun a x hx => ?_, fun a x hx => ?_, fun z hz => ?_, fun z hz => ?_⟩, os, ss, nn, fun z hz => ?_⟩
    · by_cases y : a = p
      · rw [y, upd_same] at hx; rw [y, ho]; exact hx
      · rw [upd_ne y] at hx; exact fr.b.uh a x hx
    · rw [upd_ne (ne_of_none hx n1)]; exact fr.b.bu a x hx
    · obtain ⟨a1, a2, a3, a4⟩ := fr.b.pen z hz
      exact ⟨a1, (upd_ne (fun y => (n3 z hz).1 y.symm)).trans a2, a3, a4⟩
    · obtain ⟨a1, a2, a3⟩ := fr.b.tab z hz
      exact ⟨fun t ht => ⟨(a1 t ht).1, (upd_ne (fun y => (n3 z hz).2 t ht y.symm)).trans (a1 t ht).2⟩, a2, a3⟩
    · obtain ⟨a1, a2, a3⟩ := ff z hz
      exact ⟨a1, (upd_ne (fun y => np (by rw [← y]; exact hz))).trans a2, a3⟩
  refine h2 _ _ σ H1 B1 _ _ _ rlU hx2 fun p2 H2 B2 fr2 s2 k2 => ?_
  obtain ⟨os2, ss2, nn2, ff2, np2⟩ := fr2.s
  obtain ⟨m1, m2, m3⟩ := fr2.n
  have hp2 : H2 p = some o := fr2.b.uh p o upd_same
  have hBp : B2 p = none := fr2.b.nub upd_same hno.nt
  have ne : p2 ≠ p := fun z => by rw [z, upd_same] at m2; cases m2
  have hpo : p ∉ os2 := fun z => by have := (ff2 p z).2.1; rw [upd_same] at this; cases this
  have hU2 : U p2 = none := by rw [upd_ne ne] at m2; exact m2
  have ow : OwnAt G B2 H2 p a := (fr.o.keep (by rw [hp2, ho]) s2)
  have base : Base U pn q2 H2 B2 := fr2.b.unU n2 hno
  have fr3 : Fresh G U pn ⟨e.sl, q2⟩ σ H2 B2 p a := ⟨base, ⟨os2, ss2, nn2, fun z hz => by
    obtain ⟨a1, a2, a3⟩ := ff2 z hz
    rw [upd_ne (fun y => hpo (by rw [← y]; exact hz))] at a2
    exact ⟨a1, a2, a3⟩, hpo⟩, ow, hBp, n2, n3⟩
  have rl3 := fr3.setO (i := i) hij.1
  obtain ⟨b3, os3, ss3, nn3, ff3⟩ := rl3
  have hp3 : p2 ∉ os3 := fun z => by
    obtain ⟨os4, s4, sb4, _⟩ := Slots.setO ow i hij.1 ss2
    have e3 := ss3.own
    have e4 := s4.own
    rw [← e4] at e3
    subst e3
    rcases sb4 p2 z with y | y
    · exact ne y
    · exact np2 y
  have fr4 : Fresh G U pn ⟨e.sl.set i (.o a), q2⟩ (σ.set i (some (.ref p))) H2 B2 p2 b := ⟨b3, ⟨os3, ss3, nn3, ff3, hp3⟩, fr2.o, m1, hU2, m3⟩
  exact post p p2 H2 B2 (fr4.setO (i := j) (by rw [List.length_set]; exact hij.2.1)) (s1.trans s2)
/-! ### a, b, c = e, [], [] -/
def parDOO (i j l : Nat) (f0 f g : FG D) : FS := thenS f0 fun d e => match f e with
  | some (.v a, q) => (match g ⟨e.sl, q⟩ with
    | some (.v b, q2) => if (j < e.sl.length ∧ l < e.sl.length ∧ j ≠ l) ∧ i ≠ j ∧ i ≠ l then some (.nx, ⟨((e.sl.set j (.o a)).set l (.o b)).set i (.d d), q2⟩) else none
    | _ => none)
  | _ => none
theorem cs_parDOO {i j l : Nat} {t0 t u : TE} {f0 f g : FG D} (h0 : CE G pn E t0 f0) (h1 : CF G pn E t f) (h2 : CF G pn E u g) : CS G pn E (tPar3 i j l (tCons t0 (tCons t (tCons u tNil)))) (parDOO i j l f0 f g) := by
  intro U e σ H B r e' Dn rl hf post
  rcases thenS_inv hf with ⟨c, ns, ds, q, hx, rfl, rfl⟩ | ⟨d, q0, hx, hg⟩
  · exact h0 U e σ H B _ _ _ rl hx post
  · refine h0 U e σ H B _ _ _ rl hx fun v H1 B1 rl1 s1 k1 rz => ?_
    dsimp only at hg
    split at hg
    · next a q ha =>
      split at hg
      · next b q2 hb =>
        split at hg
        · next hh =>
          cases hg
          obtain ⟨hij, n1, n2⟩ := hh
          refine two_new (i := j) (j := l) (Q := fun x y H2 => ∃ a1 b1 c1, [v, x, y] = [a1, b1, c1] ∧ Dn.nx (((σ.set i (some a1)).set j (some b1)).set l (some c1)) H2) h1 h2 rl1 ha hb hij fun p p2 H2 B2 rl2 s2 => ⟨v, .ref p, .ref p2, rfl, ?_⟩
          have r3 := rl2.setD (rz.same s2) i
          have e1 : (((σ.set j (some (V.ref p))).set l (some (V.ref p2))).set i (some v)) = ((σ.set i (some v)).set j (some (V.ref p))).set l (some (V.ref p2)) := by
            rw [List.set_comm _ _ (Ne.symm n2), List.set_comm _ _ (Ne.symm n1)]
          rw [e1] at r3
          exact post _ H2 B2 r3 (s1.trans s2)
        · cases hg
      · cases hg
    · cases hg
end
end Fw

set_option linter.all false
set_option maxRecDepth 100000
set_option maxHeartbeats 4000000
namespace Fw
open PySem PySem.Spec PyProof.Rows L2
/-! ### x == y by x's own __eq__ -/
structure EqC (K : PySem.W.Frag) (XC : Str → Option Addr) (mg : Str → Option Value) (P : Program) (w : World) (base : Heap) (c : Str) (lv : Nat) (C f : Addr) (fd : FuncData) (ps : List Str) (F : FF) : Prop where
  I : IsC K XC mg c C
  s : PySem.W.findIn K (.ref C) "__eq__" = some (some (.ref f))
  fn : PySem.W.isFn K (.ref f) = true
  G : FnG P w K mg base CX0 lv f fd ps (spN ⟨K, XC⟩ false 2 F)
  b : Binds K fd ps []
  no : PySem.W.notFirst K C (.ref C) = true
  nt : ∀ t ∈ ["NoneType", "bool", "int", "str", "tuple"], PySem.W.notFirst K C (.type t) = true
def isC (c : Str) : D → Bool
  | .dict ((.none, .str c') :: _) => decide (c' = c)
  | _ => false
def flatD : D → Bool
  | .list _ => false
  | .dict _ => false
  | _ => true
def dEqI (c : Str) (F : FF) (a b : D) : Option D := if (isC c a && (isC c b || flatD b)) = true then (match F [a, b] pen0 with
  | some (.v d, _) => some d
  | _ => none) else none
section
variable {G : Gm} {U : Hp} {pn : Pn} {E : XK} {e : Ev} {σ : L2.St} {H B H' B' H1 B1 : Hp}
theorem RzB.isC {c : Str} {v : V} {d : D} (h : RzB G pn B H v d) (i : isC c d = true) : Rz G B v d ∧ ∃ a C dx fs, v = .ref a ∧ B a = some (.ins C dx fs) ∧ G.X c = some C := by
  cases h with
  | ins h1 h2 h3 h4 =>
    rename_i c' fs ds
    have z : c' = c := of_decide_eq_true i
    exact ⟨.ins h1 h2 h3 h4, _, _, _, _, rfl, h1, z ▸ h3⟩
  | dk h1 h2 h3 =>
    exfalso
    rename_i ks ds
    cases ks with
    | nil => cases i
    | cons k ks => cases ds with
      | nil => cases i
      | cons d ds => obtain ⟨k, u⟩ := k; cases k <;> cases i
  | dt h1 h2 h3 =>
    exfalso
    rename_i ks ds
    cases ks with
    | nil => cases i
    | cons k ks => cases ds with
      | nil => cases i
      | cons d ds => cases i
  | _ => cases i
theorem RzB.flat {v : V} {d : D} (h : RzB G pn B H v d) (i : flatD d = true) : Rz G B v d ∧ isInsD d = false ∧ tyN d ∈ ["NoneType", "bool", "int", "str", "tuple"] := by
  cases h with
  | non => exact ⟨.non, rfl, by simp [tyN]⟩
  | bl b => exact ⟨.bl b, rfl, by simp [tyN]⟩
  | int b => exact ⟨.int b, rfl, by simp [tyN]⟩
  | str b => exact ⟨.str b, rfl, by simp [tyN]⟩
  | tup h1 h2 => exact ⟨.tup h1 h2, rfl, by simp [tyN]⟩
  | _ => cases i
theorem ob_eqI {P : Program} {w : World} {mg : Str → Option Value} {base : Heap} {c : Str} {lv : Nat} {C f : Addr} {fd : FuncData} {ps : List Str} {F : FF} {E' : XK} (T : EqC G.K G.X mg P w base c lv C f fd ps F) : OpB G pn (Sb.rOwnE G.K C (spN G false 2 F) E') (dEqI c F) := by
  intro U e σ H B x y a b d Q rl rx ry h post
  unfold dEqI at h
  split at h
  · next hc =>
    rw [Bool.and_eq_true, Bool.or_eq_true] at hc
    obtain ⟨zx, p, C', dx, fs, rfl, h1, hX⟩ := rx.isC hc.1
    have e1 := T.I.X.symm.trans hX
    cases e1
    split at h
    · next d' q hF =>
      cases h
      have fin : ∀ (z : Rz G B y b), spN G false 2 F [.ref p, y] H Q E' := fun z =>
        ⟨none, outU none B H, B, [.ref p, y], [a, b], pen0, q, _, rfl, rfl, rfl, rl.call0, .cons zx (.cons z .nil), hF, fun v H' B' b' s rz => by
          obtain ⟨rl', k⟩ := rl.after0 b' s
          exact post v H' B' rl' s k rz⟩
      rcases hc.2 with i | i
      · obtain ⟨zy, p2, C2, dx2, fs2, rfl, h2, hX2⟩ := ry.isC i
        have e2 := T.I.X.symm.trans hX2
        cases e2
        exact ⟨p, dx, fs, _, rfl, rl.b.bh _ _ h1, T.I.ty _ _ _ _ (rl.b.bh _ _ h2), T.no, fin zy⟩
      · obtain ⟨zy, hi, ht⟩ := ry.flat i
        exact ⟨p, dx, fs, _, rfl, rl.b.bh _ _ h1, ry.ty rl.b.bh hi, T.nt _ ht, fin zy⟩
    · cases h
  · cases h
end
end Fw

set_option linter.all false
set_option maxRecDepth 100000
set_option maxHeartbeats 4000000
namespace Fw
open PySem PySem.Spec PyProof.Rows L2
/-! ### repr of data -/
def keyR : D → Bool
  | .int _ => true
  | .str _ => true
  | _ => false
mutual
/-- no instance; dicts of ints and texts -/
def repK : D → Bool
  | .dict kvs => repKv kvs
  | .list ds => repKA ds
  | .tuple ds => repKA ds
  | _ => true
def repKA : List D → Bool
  | [] => true
  | d :: ds => repK d && repKA ds
def repKv : List (D × D) → Bool
  | [] => true
  | kv :: r => keyR kv.1 && repK kv.2 && repKv r
end
theorem repKv_no {a b : D} {r : List (D × D)} (h : keyR a = false) : repK (.dict ((a, b) :: r)) = false := by
  show (keyR a && repK b && repKv r) = false
  rw [h]
  rfl
@[irreducible] def shw (d : D) : Str := d.shown
theorem shw_eq {d : D} : d.shown = shw d := by unfold shw; rfl
mutual
/-- no list within -/
def noL : D → Bool
  | .dict kvs => noLk kvs
  | .list _ => false
  | .tuple ds => noLA ds
  | _ => true
def noLA : List D → Bool
  | [] => true
  | d :: ds => noL d && noLA ds
def noLk : List (D × D) → Bool
  | [] => true
  | kv :: r => noL kv.2 && noLk r
end
def fitD (d : D) : Bool := repK d && (!d.hasDict || noL d) && d.showable && decide (d.depth ≤ 64) && decide (d.shown.length ≤ 100000)
def dRepr (d : D) : Option D := if fitD d = true then some (.str (shw d)) else none
section
variable {X : Cx} {pins : List (Addr × Obj)} {σ : L2.St} {H : Hp} {s : Shared} {XC : Str → Option Addr}
theorem key_enc {ks : List (Key × V)} {ds : List D} : repKv ((ks.map fun k => keyD k.1).zip ds) = true → ks.length = ds.length → repKA ds = true := by
  induction ks generalizing ds with
  | nil => intro _ hl; cases ds with
    | nil => intros; rfl
    | cons => cases hl
  | cons k ks ih =>
    intro h hl
    cases ds with
    | nil => cases hl
    | cons d ds =>
      have h' : (keyR (keyD k.1) && repK d && repKv ((ks.map fun k => keyD k.1).zip ds)) = true := h
      simp only [Bool.and_eq_true] at h'
      show (repK d && repKA ds) = true
      rw [h'.1.2, ih h'.2 (by simpa using hl)]
      rfl
theorem kv_vals : ∀ {ks : List (Key × V)} {vs : List (Key × Value)}, KV ks vs → Vals (ks.map (·.2)) (vs.map (·.2))
  | _, _, .nil => .nil
  | _, _, .cons r t => .cons r.2 (kv_vals t)
theorem kv_keys : ∀ {ks : List (Key × V)} {vs : List (Key × Value)}, KV ks vs → (ks.map fun k => keyD k.1) = vs.map fun k => keyD k.1
  | _, _, .nil => rfl
  | _, _, .cons r t => by rw [List.map_cons, List.map_cons, r.1, kv_keys t]
theorem pairs_read {P : Program} {w : World} {h : Heap} : ∀ {l : List DictEntry} {vs : List (Key × Value)}, Pairs (mixKind P w) l vs → ReadsAll h (l.map (·.key)) (vs.map fun k => keyD k.1) [] ∧ l.map (·.val) = vs.map (·.2)
  | _, _, .nil => ⟨ReadsAll.nil, rfl⟩
  | _, _, .cons (e := e') hk hv hp => by
    obtain ⟨h1, h2⟩ := pairs_read (h := h) hp
    refine ⟨?_, by rw [List.map_cons, List.map_cons, hv, h2]⟩
    rcases keyIs_shape hk with ⟨i, t, e, e'⟩ | ⟨x, t, e, e'⟩
    · rw [List.map_cons, List.map_cons, e, e']; exact ReadsAll.cons (Reads.int i t) h1
    · rw [List.map_cons, List.map_cons, e, e']; exact ReadsAll.cons (Reads.str x t) h1
theorem noL_vals {ks : List (Key × V)} {ds : List D} : noLk ((ks.map fun k => keyD k.1).zip ds) = true → ks.length = ds.length → noLA ds = true := by
  induction ks generalizing ds with
  | nil => intro _ hl; cases ds with
    | nil => intros; rfl
    | cons => cases hl
  | cons k ks ih =>
    intro h hl
    cases ds with
    | nil => cases hl
    | cons d ds =>
      have h' : (noL d && noLk ((ks.map fun k => keyD k.1).zip ds)) = true := h
      simp only [Bool.and_eq_true] at h'
      show (noL d && noLA ds) = true
      rw [h'.1, ih h'.2 (by simpa using hl)]
      rfl
mutual
theorem Rz.reads (I : Inv X pins σ H s) : ∀ {v : V} {d : D} {u : Value}, Rz ⟨X.K, XC⟩ H v d → repK d = true → RelV v u → ∃ as, Reads s.heap u d as ∧ (noL d = true → sysModules ∉ as)
  | _, _, _, .non, _, r => by cases r; exact ⟨_, Reads.none, fun _ => by simp⟩
  | _, _, _, .bl b, _, r => by cases r; exact ⟨_, Reads.bool b, fun _ => by simp⟩
  | _, _, _, .int i, _, r => by obtain ⟨t, rfl⟩ := r; exact ⟨_, Reads.int i t, fun _ => by simp⟩
  | _, _, _, .str x, _, r => by obtain ⟨t, rfl⟩ := r; exact ⟨_, Reads.str x t, fun _ => by simp⟩
  | _, _, _, .lst h hs, k, r => by
    cases r
    obtain ⟨its, rv, ⟨o, n, ho, hc, _, hd⟩, _⟩ := I.list (SqL.of h)
    obtain ⟨as, hr, na⟩ := RzA.reads I hs k rv
    exact ⟨_, Reads.list ho hc hd hr, fun z => by cases z⟩
  | _, _, _, .tup h hs, k, r => by
    cases r
    obtain ⟨its, rv, ⟨o, ho, hc, n, hd⟩, _⟩ := I.tuple (SqT.of h)
    obtain ⟨as, hr, na⟩ := RzA.reads I hs k rv
    exact ⟨_, Reads.tuple ho hc hd hr, na⟩
  | _, _, _, .dk (ks := ks) (ds := ds) h hs, k, r => by
    cases r
    obtain ⟨_, ns, vs, kv, o, es, ep, ho, hx, hdat, _, hp, _⟩ := (show ObjOk X.prog X.w H s.heap _ (.dK ks) from h.rd.ok I.hok)
    have ns' := beq_eq_false_iff_ne.mp ns
    have hl : ks.length = ds.length := by rw [← hs.length, List.length_map]
    obtain ⟨bs, hr, na⟩ := RzA.reads I hs (key_enc k hl) (kv_vals kv)
    have key := pairs_read (h := s.heap) hp
    rw [← kv_keys kv] at key
    have f1 : (((ks.map fun k => keyD k.1).zip ds).map (·.1)) = ks.map fun k => keyD k.1 := List.map_fst_zip (by rw [List.length_map]; omega)
    have f2 : (((ks.map fun k => keyD k.1).zip ds).map (·.2)) = ds := List.map_snd_zip (by rw [List.length_map]; omega)
    refine ⟨_, Reads.dict ho hx.1 hdat (by rw [f1]; exact key.1) (by rw [f2, key.2]; exact hr), fun hn z => ?_⟩
    rcases List.mem_append.mp z with z | z
    · rcases List.mem_cons.mp z with y | y
      · exact ns' y.symm
      · cases y
    · exact na (noL_vals hn hl) z
  | _, _, _, .dt (ks := ks) (ds := ds) h hs, k, r => by
    cases r
    cases ks with
    | nil =>
      cases hs
      obtain ⟨_, ns, xs, pr, o, es, ep, ho, hx, hdat, he, _⟩ := (show ObjOk X.prog X.w H s.heap _ (.dT []) from h.rd.ok I.hok)
      cases pr
      refine ⟨_, Reads.dict (as := []) (bs := []) ho hx.1 hdat (by rw [he]; exact ReadsAll.nil) (by rw [he]; exact ReadsAll.nil), fun _ z => ?_⟩
      rcases List.mem_append.mp z with z | z
      · rcases List.mem_cons.mp z with y | y
        · exact beq_eq_false_iff_ne.mp ns y.symm
        · cases y
      · cases z
    | cons k' ks =>
      cases hs with
      | cons h1 h2 =>
        exfalso
        exact Bool.false_ne_true ((repKv_no rfl).symm.trans k)
  | _, _, _, .fn h, k, r => by
    exfalso
    exact Bool.false_ne_true ((repKv_no rfl).symm.trans k)
  | _, _, _, .kt h h2, k, r => by
    exfalso
    exact Bool.false_ne_true ((repKv_no rfl).symm.trans k)
  | _, _, _, .ins h1 h2 h3 hs, k, r => by
    exfalso
    exact Bool.false_ne_true ((repKv_no rfl).symm.trans k)
theorem RzA.reads (I : Inv X pins σ H s) : ∀ {vs : List V} {ds : List D} {us : List Value}, RzA ⟨X.K, XC⟩ H vs ds → repKA ds = true → Vals vs us → ∃ as, ReadsAll s.heap us ds as ∧ (noLA ds = true → sysModules ∉ as)
  | _, _, _, .nil, _, r => by cases r; exact ⟨_, ReadsAll.nil, by simp⟩
  | _, _, _, .cons h t, k, r => by
    have k' := Bool.and_eq_true_iff.mp (show (repK _ && repKA _) = true from k)
    cases r with
    | cons r1 r2 =>
      obtain ⟨as, q1, n1⟩ := Rz.reads I h k'.1 r1
      obtain ⟨bs, q2, n2⟩ := RzA.reads I t k'.2 r2
      exact ⟨_, ReadsAll.cons q1 q2, fun hn z => (List.mem_append.mp z).elim (n1 (Bool.and_eq_true_iff.mp (show (noL _ && noLA _) = true from hn)).1) (n2 (Bool.and_eq_true_iff.mp (show (noL _ && noLA _) = true from hn)).2)⟩
end
end
def rRepr (G : Gm) : List V → Hp → VK → Prop := fun xs H Q => ∃ v d, xs = [v] ∧ Rz G H v d ∧ fitD d = true ∧ Q (.str (shw d)) H
theorem call_repr {X : Cx} {XC : Str → Option Addr} (hg : X.A.guards = some []) (hu : X.A.units + 70 < cLine) : CallR X (.builtin "repr") (rRepr ⟨X.K, XC⟩) := by
  intro pins s σ H xs us Q I r h
  obtain ⟨v, d, rfl, hd, ft, q⟩ := h
  obtain ⟨u, rfl, ru⟩ := r.one
  unfold fitD at ft
  simp only [Bool.and_eq_true, decide_eq_true_eq] at ft
  obtain ⟨⟨⟨⟨f1, f0⟩, f2⟩, f3⟩, f4⟩ := ft
  have hsm : ∀ as : List Addr, (noL d = true → sysModules ∉ as) → d.hasDict = true → sysModules ∉ as := fun as h hd => h (by rw [Bool.or_eq_true, hd] at f0; simpa using f0)
  obtain ⟨as, rd, na⟩ := Rz.reads I hd f1 ru
  have f5 : d.shown.length ≤ sizeLine := Nat.le_trans f4 (by decide)
  cases rd with
  | none => exact PySem.P.repr_of_none ⟨.str (shw .none), H, I.tok _, ⟨_, by rw [← shw_eq]; rfl⟩, q⟩
  | bool b => exact PySem.P.repr_of_bool ⟨.str (shw (.bool b)), H, I.tok _, ⟨_, by rw [← shw_eq]; rfl⟩, q⟩
  | int i t => exact PySem.P.repr_of_int (by simpa [PyData.showable] using f2) ⟨.str (shw (.int i)), H, I.tok _, ⟨_, by rw [← shw_eq]; rfl⟩, q⟩
  | str x t => exact PySem.P.repr_of_str ⟨.str (shw (.str x)), H, I.tok _, ⟨_, by rw [← shw_eq]; rfl⟩, q⟩ f5
  | list a b c e => exact repr_of_reads' (Reads.list a b c e) f2 (hsm _ na) hg (by omega) (fun b o e => e) (fun h' u tk hk => ⟨.str (shw _), H, I.kept hk, ⟨u, by rw [shw_eq]⟩, q⟩) f5
  | tuple a b c e => exact repr_of_reads' (Reads.tuple a b c e) f2 (hsm _ na) hg (by omega) (fun b o e => e) (fun h' u tk hk => ⟨.str (shw _), H, I.kept hk, ⟨u, by rw [shw_eq]⟩, q⟩) f5
  | dict a b c e f => exact repr_of_reads' (Reads.dict a b c e f) f2 (hsm _ na) hg (by omega) (fun b o e => e) (fun h' u tk hk => ⟨.str (shw _), H, I.kept hk, ⟨u, by rw [shw_eq]⟩, q⟩) f5
section
variable {G : Gm} {U : Hp} {pn : Pn} {E : XK} {e : Ev} {σ : L2.St} {H B H' B' : Hp} {v : V} {d : D}
theorem RzB.up (b : Same B H) (h : RzB G pn B H v d) : Rz G H v d := by
  cases h with
  | non => exact .non
  | bl b => exact .bl b
  | int i => exact .int i
  | str x => exact .str x
  | lst h n hs => exact .lst h (hs.same b)
  | tup h hs => exact .tup (b _ _ h) (hs.same b)
  | kt h hs => exact .kt h (hs.same b)
  | dk h n hs => exact .dk h (hs.same b)
  | dt h n hs => exact .dt h (hs.same b)
  | ins h h2 h3 hs => exact .ins (b _ _ h) (b _ _ h2) h3 (hs.same b)
  | fn h => exact .fn h
theorem b_repr : Cb1 G pn (rRepr G) dRepr := by
  intro U e σ H B v d c Q rl rb hc post
  unfold dRepr at hc
  split at hc
  · next hf =>
    cases hc
    exact ⟨v, d, rfl, rb.up rl.b.bh, hf, post _ H B rl (Same.refl _) Keep.refl (.str _)⟩
  · cases hc
end
end Fw

set_option linter.all false
set_option maxRecDepth 100000
set_option maxHeartbeats 4000000
namespace Fw
open PySem PySem.Spec PyProof.Rows L2
/-! ### try: .. except C as n: .. -/
section
variable {α β γ : Type} {W W1 : Type} {G : Gm} {U : Hp} {pn : Pn} {E : XK} {e : Ev} {σ : L2.St} {H B H' B' H1 B1 : Hp}
/-- the caught exception: its class, its fields -/
structure Exa (G : Gm) (B H : Hp) (cls : Value) (d : Option Addr) (C : Addr) (ns : List Str) (ds : List D) : Prop where
  c : cls = .ref C
  d : ∃ dd fvs, d = some dd ∧ H dd = some (.xd fvs) ∧ fvs.map (·.1) = ns ∧ RzA G B (fvs.map (·.2)) ds
theorem Exa.keep {cls : Value} {d : Option Addr} {C : Addr} {ns : List Str} {ds : List D} (x : Exa G B H cls d C ns ds) {p : PenS} (b : Base U pn p H B) (s : Same B B') (k : Keep pn H H') : Exa G B' H' cls d C ns ds := by
  obtain ⟨c, dd, fvs, h1, h2, h3, h4⟩ := x
  refine ⟨c, dd, fvs, h1, k _ _ h2 fun q hq => ⟨fun z => ?_, fun t ht z => ?_⟩, h3, h4.same s⟩
  · have := (b.pen q hq).2.2.1
    rw [← z, h2] at this
    cases this
  · obtain ⟨ps, hp, _⟩ := (b.tab q hq).2.1 t ht
    rw [← z, h2] at hp
    cases hp
abbrev XTm (W : Type) := Addr → Value → Option Addr → TG_ W
def CXG (G : Gm) (pn : Pn) (E : XK) (i : Nat) (C : Addr) (ns : List Str) (ds : List D) (R : Hp → Hp → W → α → Prop) (t : XTm W) (f : FG α) : Prop :=
  ∀ a cls d U e σ H B r p' Q, σ[i]? = some (some (.ref a)) → Exa G B H cls d C ns ds → Rl G U pn e σ H B → f e = some (r, p') → Post G U pn E R e σ H B p' Q r → t a cls d σ H Q
abbrev CXE (G : Gm) (pn : Pn) (E : XK) (i : Nat) (C : Addr) (ns : List Str) (ds : List D) (t : XTm V) (f : FG D) : Prop := CXG G pn E i C ns ds (fun B _ v d => Rz G B v d) t f
abbrev CXA (G : Gm) (pn : Pn) (E : XK) (i : Nat) (C : Addr) (ns : List Str) (ds : List D) (t : XTm (List V)) (f : FG (List D)) : Prop := CXG G pn E i C ns ds (fun B _ v d => RzA G B v d) t f
variable {i : Nat} {C : Addr} {ns : List Str} {ds : List D}
theorem cx_of {R : Hp → Hp → W → α → Prop} {t : TG_ W} {f : FG α} (h : CG G pn E R t f) : CXG G pn E i C ns ds R (fun _ _ _ => t) f := fun a cls d U e σ H B r p' Q _ _ rl hf post => h U e σ H B r p' Q rl hf post
/-- e.n -/
def exD (n : Str) : List Str → List D → Option D
  | m :: ns, d :: ds => if n = m then some d else exD n ns ds
  | _, _ => none
theorem exD_at {n : Str} {x : D} : ∀ {fvs : List (Str × V)} {ds : List D}, RzA G B (fvs.map (·.2)) ds → exD n (fvs.map (·.1)) ds = some x → ∃ y, fvs.lookup n = some y ∧ Rz G B y x
  | [], _, .nil, h => by cases h
  | (g, v) :: fvs, _, .cons (d := d) (ds := ds) r rs, h => by
    have h' : (if n = g then some d else exD n (fvs.map (·.1)) ds) = some x := h
    by_cases e : n = g
    · rw [if_pos e] at h'
      cases h'
      exact ⟨v, by rw [List.lookup_cons, show (n == g) = true from beq_iff_eq.mpr e], r⟩
    · rw [if_neg e] at h'
      obtain ⟨y, h1, h2⟩ := exD_at rs h'
      exact ⟨y, by rw [List.lookup_cons, show (n == g) = false from Bool.eq_false_iff.mpr fun z => e (beq_iff_eq.mp z)]; exact h1, h2⟩
def exF (n : Str) (ns : List Str) (ds : List D) : FG D := optG (exD n ns ds)
theorem cx_fld {n : Str} : CXE G pn E i C ns ds (fun a cls d => tXf a cls d C n (tVar i)) (exF n ns ds) := by
  intro a cls d U e σ H B r p' Q hi x rl hf post
  obtain ⟨y, hy, rfl, rfl⟩ := optG_eq hf
  obtain ⟨c, dd, fvs, h1, h2, h3, h4⟩ := x
  obtain ⟨v, hv, rz⟩ := exD_at h4 (by rw [h3]; exact hy)
  exact ⟨.ref a, hi, rfl, c, dd, fvs, v, h1, h2, hv, post v H B rl (Same.refl _) Keep.refl rz⟩
theorem cxa_nil : CXA G pn E i C ns ds (fun _ _ _ => tNil) (retG []) := cx_of ca_nil
theorem cxa_cons {ta : XTm V} {tr : XTm (List V)} {f : FG D} {g : FG (List D)} (h1 : CXE G pn E i C ns ds ta f) (h2 : CXA G pn E i C ns ds tr g) : CXA G pn E i C ns ds (fun a cls d => tCons (ta a cls d) (tr a cls d)) (consG f g) := by
  intro a cls d U e σ H B r p' Q hi x rl hf post
  rcases bind_inv hf with ⟨c, n, es, hx, rfl⟩ | ⟨y, q, hx, hg⟩
  · exact h1 a cls d U e σ H B _ _ _ hi x rl hx post
  · refine h1 a cls d U e σ H B _ _ _ hi x rl hx fun v H1 B1 rl1 s1 k1 rz => ?_
    rcases bind_inv hg with ⟨c, n, es, hx2, rfl⟩ | ⟨ys, q2, hx2, hg2⟩
    · exact h2 a cls d U _ σ H1 B1 _ _ _ hi (x.keep rl.b s1 k1) rl1 hx2 (Post.up (H := H) (B := B) (e := e) s1 k1 post)
    · refine h2 a cls d U _ σ H1 B1 _ _ _ hi (x.keep rl.b s1 k1) rl1 hx2 fun vs H2 B2 rl2 s2 k2 rzs => ?_
      cases hg2
      exact post _ H2 B2 rl2 (s1.trans s2) (k1.trans k2) (.cons (rz.same s2) rzs)
theorem cx_tup {ta : XTm (List V)} {f : FG (List D)} (h : CXA G pn E i C ns ds ta f) : CXE G pn E i C ns ds (fun a cls d => tTup (ta a cls d)) (tupG f) := by
  intro a cls d U e σ H B r p' Q hi x rl hf post
  rcases bind_inv hf with ⟨c, n, es, hx, rfl⟩ | ⟨ys, q, hx, hg⟩
  · exact h a cls d U e σ H B _ _ _ hi x rl hx post
  · refine h a cls d U e σ H B _ _ _ hi x rl hx fun vs H1 B1 rl1 s1 k1 ra => ?_
    obtain ⟨c, hc, rfl, rfl⟩ := optG_eq hg
    obtain ⟨hl, rfl⟩ := few_eq hc
    refine ⟨line_of (by rw [ra.length]; exact hl), fun p hp => ?_⟩
    exact post _ _ _ (rl1.new hp) (s1.trans (same_upd (rl1.b.bh.free hp))) (k1.trans (Keep.of (same_upd hp))) (.tup upd_same (ra.same (same_upd (rl1.b.bh.free hp))))
theorem cx_cb1 {r : List V → Hp → VK → Prop} {φ : D → Option D} {t : XTm V} {f : FG D} (hr : Cb1 G pn r φ) (h : CXE G pn E i C ns ds t f) : CXE G pn E i C ns ds (fun a cls d => tCB r (tCons (t a cls d) tNil)) (op1 φ f) := by
  intro a cls d U e σ H B r1 p' Q hi x rl hf post
  rcases bind_inv hf with ⟨c, n, es, hx, rfl⟩ | ⟨y, q, hx, hg⟩
  · exact h a cls d U e σ H B _ _ _ hi x rl hx post
  · refine h a cls d U e σ H B _ _ _ hi x rl hx fun v H1 B1 rl1 s1 k1 rz => ?_
    obtain ⟨c, hc, rfl, rfl⟩ := optG_eq hg
    exact hr U _ σ H1 B1 v y c Q rl1 (rz.b rl1.b) hc fun w H2 B2 rl2 s2 k2 rw2 => post w H2 B2 rl2 (s1.trans s2) (k1.trans k2) rw2
/-! a clause -/
abbrev CK := List Str → List D → FS
def ClS (G : Gm) (pn : Pn) (E : XK) (i : Nat) (C : Addr) (ts : Suit) (k : CK) : Prop := ∀ a cls d ns ds U e σ H B r e' Dn, σ[i]? = some (some (.ref a)) → Exa G B H cls d C ns ds → Rl G U pn e σ H B → k ns ds e = some (r, e') → PostS G U pn E e' B Dn r → ts a cls d Dn σ H
theorem cl_ret {t : XTm V} {f : List Str → List D → FG D} (h : ∀ ns ds, CXE G pn E i C ns ds t (f ns ds)) : ClS G pn E i C (fun a cls d => tRet (t a cls d)) (fun ns ds => retS (f ns ds)) := by
  intro a cls d ns ds U e σ H B r e' Dn hi x rl hf post
  have hf : retS (f ns ds) e = some (r, e') := hf
  unfold retS thenS at hf
  cases hfe : f ns ds e with
  | none => rw [hfe] at hf; cases hf
  | some rp =>
    obtain ⟨r1, q1⟩ := rp
    rw [hfe] at hf
    cases r1 with
    | x c n es => cases hf; exact h ns ds a cls d U e σ H B _ _ _ hi x rl hfe post
    | v y => cases hf; exact h ns ds a cls d U e σ H B _ _ _ hi x rl hfe fun v H1 B1 rl1 s1 k1 rz => post v H1 B1 rl1.b s1 rz
theorem cl_asg {t : XTm V} {f : List Str → List D → FG D} {j : Nat} (h : ∀ ns ds, CXE G pn E i C ns ds t (f ns ds)) : ClS G pn E i C (fun a cls d => tAsg (t a cls d) (gName j)) (fun ns ds => asgS (f ns ds) (nameT j)) := by
  intro a cls d ns ds U e σ H B r e' Dn hi x rl hf post
  have hf : asgS (f ns ds) (nameT j) e = some (r, e') := hf
  unfold asgS thenS at hf
  cases hfe : f ns ds e with
  | none => rw [hfe] at hf; cases hf
  | some rp =>
    obtain ⟨r1, q1⟩ := rp
    rw [hfe] at hf
    cases r1 with
    | x c n es => cases hf; exact h ns ds a cls d U e σ H B _ _ _ hi x rl hfe post
    | v y => cases hf; exact h ns ds a cls d U e σ H B _ _ _ hi x rl hfe fun v H1 B1 rl1 s1 k1 rz => post _ H1 B1 (rl1.setD rz j) s1
/-- no two classes of the text's own errors are one another's -/
def Exm (G : Gm) (R : List Str) : Prop := ∀ c ∈ R, ∀ c' ∈ R, ∀ C C', G.X c = some C → G.X c' = some C' → PySem.W.exmOne G.K (.ref C) (.ref C') = some (decide (c = c'))
inductive Cls_ (G : Gm) (pn : Pn) (E : XK) (i : Nat) (R : List Str) : List (Value × Suit) → List (Str × CK) → Prop
  | nil : Cls_ G pn E i R [] []
  | cons {c : Str} {C : Addr} {ts : Suit} {k : CK} {l : List (Value × Suit)} {cs : List (Str × CK)} (hX : G.X c = some C) (hR : c ∈ R) (h : ClS G pn E i C ts k) (t : Cls_ G pn E i R l cs) : Cls_ G pn E i R ((.ref C, ts) :: l) ((c, k) :: cs)
def pickC (c : Str) : List (Str × CK) → Option CK
  | [] => none
  | k :: r => if c = k.1 then some k.2 else pickC c r
def tryS (n i : Nat) (R : List Str) (body : FS) (cs : List (Str × CK)) : FS := fun e => match body e with
  | some (.x c ns ds, e1) => (match (if c ∈ R then pickC c cs else none) with
    | some k => (match k ns ds ⟨List.replicate n .u, e1.pen⟩ with
      | some (.nx, e2) => some (.nx, ⟨e2.sl.set i .u, e2.pen⟩)
      | some (.rt d, e2) => some (.rt d, e2)
      | _ => none)
    | none => none)
  | r => r
theorem slots_u : ∀ (σ : L2.St), Slots G pn B H σ (List.replicate σ.length .u) []
  | [] => .nil
  | _ :: σ => .u (slots_u σ)
theorem wNamed_of {R : List Str} (M : Exm G R) {l : List (Value × Suit)} {cs : List (Str × CK)} (hl : Cls_ G pn E i R l cs) {c : Str} (hc : c ∈ R) {k : CK} (hk : pickC c cs = some k) {Dn : Ends} {none_ : WX} {C : Addr} (hC : G.X c = some C) {cls : Value} {d : Option Addr} (x : Exa G B H cls d C ns ds)
    {p : PenS} (b : Base U pn p H B) {r : Fl} {e2 : Ev} (hlen : i < σ.length) (hf : k ns ds ⟨List.replicate σ.length .u, p⟩ = some (r, e2)) (post : PostS G U pn E e2 B (unEnds i Dn) r) : wNamed G.K i none_ Dn l cls d σ H := by
  induction hl with
  | nil => cases hk
  | @cons c' C' ts k' l cs hX hR h t ih =>
    have ec := x.c
    subst ec
    refine ⟨_, M c hc c' hR C C' hC hX, fun hb a ha => ?_, fun hb => ?_⟩
    · have z : c = c' := of_decide_eq_true hb
      subst z
      unfold pickC at hk
      rw [if_pos rfl] at hk
      cases hk
      have e1 : C = C' := Option.some.inj (hC.symm.trans hX)
      subst e1
      have sl := slots_u (G := G) (pn := pn) (B := B) (H := H) (σ.set i (some (.ref a)))
      rw [List.length_set] at sl
      exact h a (.ref C) d ns ds U ⟨List.replicate σ.length .u, p⟩ _ H B r e2 _ (by rw [List.getElem?_set_self hlen]) x ⟨b, [], sl, .nil, fun q hq => by cases hq⟩ hf post
    · have z : ¬ c = c' := of_decide_eq_false hb
      unfold pickC at hk
      rw [if_neg z] at hk
      exact ih hk
theorem cs_try {n : Nat} {R : List Str} (M : Exm G R) {tbE : XK → TS} {body : FS} (hi : i < n) (hb : ∀ E1, CS G pn E1 (tbE E1) body) {l : List (Value × Suit)} {cs : List (Str × CK)} (hl : Cls_ G pn E i R l cs) :
    CS G pn E (fun D σ H => tbE (fun cls d H' => ∀ σ', σ'.length = n → wNamed G.K i (fun _ _ _ _ => False) D l cls d σ' H') D σ H) (tryS n i R body cs) := by
  intro U e σ H B r e' Dn rl hf post
  unfold tryS at hf
  cases hbe : body e with
  | none => rw [hbe] at hf; cases hf
  | some re =>
    obtain ⟨r1, e1⟩ := re
    rw [hbe] at hf
    refine hb _ U e σ H B r1 e1 Dn rl hbe ?_
    cases r1 with
    | nx => cases hf; exact post
    | bk => cases hf; exact post
    | ct => cases hf; exact post
    | rt d => cases hf; exact post
    | x c ns ds =>
      intro cls ao H' B' b s xa σ' hσ
      obtain ⟨C, dd, fvs, hC, hcls, hao, hdd, hns, hds⟩ := xa
      dsimp only at hf
      split at hf
      · next k hk =>
        split at hk
        · next hcR =>
          have x : Exa G B' H' cls ao C ns ds := ⟨hcls, dd, fvs, hao, hdd, hns, hds⟩
          split at hf
          · next e2 he2 =>
            cases hf
            rw [← hσ] at he2
            exact wNamed_of M hl hcR hk hC x b (by rw [hσ]; exact hi) he2 fun σ2 H2 B2 rl2 s2 => post _ H2 B2 (rl2.setU i) (s.trans s2)
          · next d e2 he2 =>
            cases hf
            rw [← hσ] at he2
            exact wNamed_of M hl hcR hk hC x b (by rw [hσ]; exact hi) he2 fun v H2 B2 b2 s2 rz => post v H2 B2 b2 (s.trans s2) rz
          · cases hf
        · cases hk
      · cases hf
end
/-! the term's side -/
theorem takes_len {X : Cx} {W : WX} (tk : Takes X W) : Takes X (fun c d σ H => σ.length = X.N.length → W c d σ H) := fun u s' ⟨a, B, sI, pins, σ, H, cls, d, e, I, nb, up, sky, na, os, ag, w⟩ => tk u s' ⟨a, B, sI, pins, σ, H, cls, d, e, I, nb, up, sky, na, os, ag, w I.len⟩
theorem ps_tryL {X : Cx} {n : Str} {i m : Nat} {body : List Stmt} {h : ExceptHandler} {hs : List ExceptHandler} {l : List (Value × Suit)} {pos : Pos} {tbE : XK → TS} (stk : X.stack = X.env :: X.outer) (frm : X.env.frame = some X.env.locals) (nd : X.N.Nodup) (at_ : X.N[i]? = some n) (lo : X.env.kindOf n = some .local) (tk : Takes X fun _ _ _ _ => False)
    (hm : X.N.length = m) (run : ∀ (E1 : XK) (W : WX) (pn : List (Addr × Obj)) (xe : Value → Shared → Prop), Takes (X.tr pn xe) W → (∀ c d σ H, E1 c d H → W c d σ H) → PassesOwn (model X.prog X.w) X.A X.env xe → PSs (X.tr pn xe) body (tbE E1))
    (cl : Clauses X n (h :: hs) l) : PS X (.Try body (h :: hs) [] [] pos) (fun D σ H => tbE (fun cls d H' => ∀ σ', σ'.length = m → wNamed X.K i (fun _ _ _ _ => False) D l cls d σ' H') D σ H) :=
  ps_tryN (tb := fun W => tbE (fun cls d H' => ∀ σ', σ'.length = m → W cls d σ' H')) stk frm nd at_ lo tk
    (fun W pn xe t p => run _ (fun c d σ H => σ.length = m → W c d σ H) pn xe (by have := takes_len t; rw [show (X.tr pn xe).N = X.N from rfl, hm] at this; exact this) (fun c d σ H h z => h σ z) p) cl
end Fw

set_option linter.all false
set_option maxRecDepth 100000
set_option maxHeartbeats 4000000
namespace Fw
open PySem PySem.Spec PyProof.Rows L2
/-! ### a lambda without parameters, made and handed to a def; only the maker's own table is written -/
def Wrote (P : Addr) (H H' : Hp) : Prop := ∀ a o, H a = some o → a ≠ P → H' a = some o
section
variable {X : Cx} {pins : List (Addr × Obj)} {σ : L2.St} {H : Hp} {s : Shared}
theorem made_lam {T : List (Addr × Str)} {c P : Addr} {params : Arguments} {body : Expr} {scope : Scope} {pos : Pos} {E Q : Value → Shared → Prop} (I : Inv X pins σ H s) (TB : LamX.TabB X.base X.mg c P) (code : X.env.code = .ref c) (inT : (P, X.env.qual ++ "<lambda>") ∈ T)
    (one : ∀ p ∈ T, p.1 = P → p.2 = X.env.qual ++ "<lambda>") (tabs : LamX.Tabs T H) (noDef : defaultsOf params X.env = ([], [])) (free : ∀ y ∈ scope.names, y.2 = .free → ∃ c, X.env.cells.lookup y.1 = some c)
    (goal : ∀ (f c' : Addr) (pm ctv : Value) (H1 : Hp) (s' : Shared), Inv X pins σ H1 s' → Wrote P H H1 → LamX.Tabs T H1 → s'.heap.get? f = some (PySem.W.kla_obj "<lambda>" (X.env.qual ++ "<lambda>") params body scope (cloFrom X.env.cells scope.names []) pm c' ctv) → H1 f = none → f ∉ frs X.stack →
      H1 c' = some (LamX.CodeO c' (X.env.qual ++ "<lambda>")) → Q (.ref f) s') : wpAny (model X.prog X.w) X.A (eval (.Lambda params body scope pos) X.env) Q E s := by
  obtain ⟨ps, atP, triples, known⟩ := tabs _ inT
  apply PySem.W.kla_eval noDef
  have built : s.heap.BuiltinsAt X.mg P := TB.bm.keeps I.bk
  have objP : s.heap.get? P = some { cls := .none, data := .fields ps } := I.hok P _ atP
  have noFrame : ∀ f, s.heap.objs.size ≤ f → f ∉ frs X.stack := by
    intro f hf z
    rcases List.mem_cons.mp (I.stkSub _ z) with e | e
    · have small := I.lt
      rw [← e] at small
      exact absurd small (Nat.not_lt_of_le hf)
    · exact I.nofs hf e
  match hc : codeAmong pos ps.toList with
  | some cv =>
    obtain ⟨c', e, hco⟩ := known pos cv hc
    subst e
    refine PySem.W.kla_makeFunctionHit (mg := X.mg) (c := c) (P := P) (ps := ps) (closure_ok free) I.ok.glob (I.mod.glob.keeps I.bk) code (TB.code.keeps I.bk) objP triples hc built fun ctv h' tk ext big => ?_
    have J : Inv X pins σ H { s with heap := h'.push (PySem.W.kla_obj "<lambda>" (X.env.qual ++ "<lambda>") params body scope (cloFrom X.env.cells scope.names []) ((X.mg "__name__").getD .none) c' ctv), toks := tk } := I.kept fun b o e => Heap.get?_push_of_some _ (ext b o e)
    exact goal h'.objs.size c' ((X.mg "__name__").getD .none) ctv H _ J (fun a o h _ => h) tabs (Heap.get?_push_size _ rfl) (I.hok.fresh big) (noFrame _ big) hco
  | none =>
    refine PySem.W.kla_makeFunction (mg := X.mg) (c := c) (P := P) (ps := ps) (closure_ok free) I.ok.glob (I.mod.glob.keeps I.bk) code (TB.code.keeps I.bk) objP triples hc TB.gP built fun c' ctv h' tk ext new less record table => ?_
    obtain ⟨c2, oc, vs, t, e2, ho, hd, hv⟩ := record
    cases e2
    have big : s.heap.objs.size ≤ h'.objs.size := Nat.le_trans new (Nat.le_of_lt less)
    have noC : H c' = none := I.hok.fresh new
    have J := LamX.inv_table (t' := tk) (more := #[rawInt pos.line, rawInt pos.col, .ref c']) (h' := h'.push (PySem.W.kla_obj "<lambda>" (X.env.qual ++ "<lambda>") params body scope (cloFrom X.env.cells scope.names []) ((X.mg "__name__").getD .none) c' ctv)) I atP
      (fun b o hb e => Heap.get?_push_of_some _ (ext b o hb e)) (Heap.get?_push_of_some _ table) new ⟨oc, vs, t, Heap.get?_push_of_some _ ho, hd, hv⟩
    have wrote : Wrote P H (upd (upd H P (.tbl (ps ++ #[rawInt pos.line, rawInt pos.col, .ref c']))) c' (LamX.CodeO c' (X.env.qual ++ "<lambda>"))) := fun b o e n => by
      rw [upd_ne (ne_of_none e noC), upd_ne n]
      exact e
    have keepC : ∀ b o, H b = some o → (∀ qs, o ≠ .tbl qs) → upd (upd H P (.tbl (ps ++ #[rawInt pos.line, rawInt pos.col, .ref c']))) c' (LamX.CodeO c' (X.env.qual ++ "<lambda>")) b = some o := fun b o e n => wrote b o e fun z => n ps (Option.some.inj (e.symm.trans (by rw [z]; exact atP)))
    have eqL : (ps ++ #[rawInt pos.line, rawInt pos.col, .ref c']).toList = ps.toList ++ [rawInt pos.line, rawInt pos.col, .ref c'] := by simp
    refine goal h'.objs.size c' ((X.mg "__name__").getD .none) ctv _ _ J wrote ?_ (Heap.get?_push_size _ rfl) ?_ (noFrame _ big) upd_same
    · intro p hp
      by_cases hb : p.1 = P
      · rw [one p hp hb, hb]
        refine ⟨_, (upd_ne (ne_of_none atP noC)).trans upd_same, by rw [eqL]; exact PySem.TriplesOk_snoc _ _ _ _ triples, fun p' cv hcv => ?_⟩
        rw [eqL] at hcv
        rcases LamX.among_app _ triples hcv with z | z
        · obtain ⟨c0, e1, e2⟩ := known p' cv z
          exact ⟨c0, e1, keepC _ _ e2 LamX.codeO_ne⟩
        · exact ⟨c', z, upd_same⟩
      · obtain ⟨ps', a1, a2, a3⟩ := tabs p hp
        refine ⟨ps', (upd_ne (ne_of_none a1 noC)).trans ((upd_ne hb).trans a1), a2, fun p' cv hcv => ?_⟩
        obtain ⟨c0, e1, e2⟩ := a3 p' cv hcv
        exact ⟨c0, e1, keepC _ _ e2 LamX.codeO_ne⟩
    · rw [upd_ne (Nat.ne_of_gt less), upd_ne (Nat.ne_of_gt (Nat.lt_of_lt_of_le (Heap.lt_size objP) big))]
      exact I.hok.fresh big
/-- x(), in the def that got the lambda; told as LamX.pe_act, but of the very Around that it is called in -/
theorem act_lam {cx : CXT} {Eg E : XK} {Ng : List Str} {qg : Str} {sg : Scope} {g f c' : Addr} {cdg pm ctv : Value} {params : Arguments} {body : Expr} {scope : Scope} {k i : Nat} {a : Str} {pn : List (Addr × Obj)} {xe : Value → Shared → Prop} {W : WX} {tb : TE} {p1 p2 : Pos}
    (I : Inv X pins σ H s) (L : LamX.LamS X.env.scope scope) (isF : s.heap.get? f = some (PySem.W.kla_obj "<lambda>" (X.env.qual ++ "<lambda>") params body scope (cloFrom X.env.cells scope.names []) pm c' ctv)) (noF : H f = none) (noFr : f ∉ frs X.stack)
    (none_ : bindArgs (PySem.W.kla_fn "<lambda>" (X.env.qual ++ "<lambda>") params body scope (cloFrom X.env.cells scope.names []) pm (.ref c') ctv) ⟨[], []⟩ = pure [])
    (tk : Takes ((cxOf cx X.prog X.w X.K X.mg X.base Ng qg sg g cdg X.A X.stack s H Eg).tr pn xe) W) (wish : ∀ cls d σ' H', E cls d H' → W cls d σ' H') (room : RoomG (k + 1) (X.A.deeper (envOfC qg sg s.heap.objs.size g cdg)))
    (read : ∀ (A : Around) (outer : List Env) (s : Shared) (H : Hp), RoomG k (A.deeper (LamX.lamEnv X scope s.heap.objs.size f c')) → PE (LamX.lamCx X A outer s H E scope f c') body tb)
    (at_ : Ng[i]? = some a) (vis : Vis sg a) (d1 : (a == ("__debug__" : Str)) = false := by decide) (d2 : (a == ("__classdict__" : Str)) = false := by decide) :
    PE ((cxOf cx X.prog X.w X.K X.mg X.base Ng qg sg g cdg X.A X.stack s H Eg).tr pn xe) (.Call (.Name a p1) [] [] p2) (fun σZ HZ Q => σZ[i]? = some (some (.ref f)) ∧ HZ c' = some (LamX.CodeO c' (X.env.qual ++ "<lambda>")) ∧ tb σ HZ Q) := by
  constructor
  rintro pinsZ sZ σZ HZ Q IZ ⟨here, isC, pre⟩
  refine wpAny_Call_Name_kw (thn ((pe_var (pos := p1) (i := i) at_ vis d1 d2).run pinsZ sZ σZ HZ (fun v H1 => v = .ref f ∧ H1 = HZ) IZ ⟨.ref f, here, rfl, rfl⟩) ?_)
  rintro u s1 ⟨v, H1, J, rv, ev, eH⟩
  subst ev
  rw [eH] at J
  cases (show u = Value.ref f from rv)
  have un : Un (frs X.stack) [] H HZ s.heap s1.heap := J.base
  have isF1 := un.keep f _ isF noF noFr (fun z => nomatch (show f ∈ ([] : List Addr) from z))
  refine PySem.W.callWith_F0 ⟨_, _, _, _, isF1⟩ ?_
  obtain ⟨⟨oc, vs, t, oc1, oc2, oc3⟩, _, _⟩ := J.hok c' _ isC
  have runs : codeAny (model X.prog X.w) (X.A.deeper (envOfC qg sg s.heap.objs.size g cdg)) (.call (.ref f) ⟨[], []⟩) (CR (L2.CX X.prog X.w) (envOfC qg sg s.heap.objs.size g cdg :: X.stack) X.prog X.w HZ s1 Q E) s1 := by
    refine PySem.W.kla_callFunE room.r.depth isF1 rfl L.co L.gen rfl ⟨c', oc, vs, t, rfl, oc1, oc2, oc3⟩ ?_
    rw [none_]
    refine wpAny_pure (wpAny_newFunctionEnv (fun y hy => (L.own y hy).2) (fun y hy => absurd hy (by simp)) (fun h₁ hns hsb => ⟨J.nolimit.fresh _ hsb, ?_⟩) L.kind)
    show codeAny _ _ (.expr body (LamX.lamEnv X scope s1.heap.objs.size f c')) _ _
    have kept : ∀ b o, s1.heap.get? b = some o → h₁.get? b = some o := fun b o e => hsb.extBut b o (Nat.ne_of_lt (Heap.lt_size e)) (Heap.get?_push_of_some _ e)
    have J1 : Inv (LamX.lamCx X (X.A.deeper (envOfC qg sg s.heap.objs.size g cdg)) (envOfC qg sg s.heap.objs.size g cdg :: X.stack) s1 HZ E scope f c') [] σ HZ { s1 with heap := h₁, toks := s1.toks + ([] : List (Str × Value)).length } := LamX.lam_start2 I L J.env0 room.r.hd un hns kept
    refine PySem.W.kla_codeExpr (wpAny_mono ((read _ _ s1 HZ (room.deeper _)).run [] _ _ HZ Q J1 pre) ?_ fun _ _ e => e)
    rintro v s' ⟨w, H', J2, rw', q⟩
    exact ⟨w, H', J2.os, J2.bare, J2.base, J2.hok, rw', q⟩
  refine wpAny_call (codeAny_mono runs ?_)
  intro r s' h
  match r, h with
  | .error e, h => exact passes_call tk wish pinsZ σZ HZ s1 e s' J h
  | .ok (.ret u), h => exact J.after h
  | .ok .next, h => exact h.elim
  | .ok .brk, h => exact h.elim
  | .ok .cont, h => exact h.elim
def tLamP (P : Addr) (T : List (Addr × Str)) (TT : (XK → Hp → VK → Prop) → Hp → VK → Prop) (t : XK → TE) : TE := fun σ H Q => LamX.Tabs T H ∧ ∀ H1, Wrote P H H1 → LamX.Tabs T H1 → TT (fun E H' Q' => t E σ H' Q') H1 Q
theorem pe_lamP {T : List (Addr × Str)} {TT : (XK → Hp → VK → Prop) → Hp → VK → Prop} {x a : Str} {g c P : Addr} {k : Nat} {pg : Arguments} {bg : List Stmt} {sg : Scope} {dV kV doc pm cdv ct oc : Value} {an od : Option Addr} {osl : Array (Option Value)} {Ng : List Str} {params : Arguments} {body : Expr} {scope : Scope} {t : XK → TE} {p lpos pos : Pos}
    (gl : Gl X x) (at_ : X.mg x = some (.ref g)) (kp : PySem.W.keepIn X.K (.ref g) = true) (look : X.K.lookup g = some ⟨oc, od, .func (PySem.W.fnOf x x pg bg sg dV kV doc pm an cdv ct), osl⟩) (cg : PySem.W.codeIn X.K cdv x = true) (bi : L2.Binds X.K (PySem.W.fnOf x x pg bg sg dV kV doc pm an cdv ct) [a] []) (Sg : FnScope Ng [a] sg)
    (first : Ng[0]? = some a) (va : Vis sg a) (gives : LamX.GivesTo X Ng x sg g cdv bg a (X.env.qual ++ "<lambda>") TT) (TB : LamX.TabB X.base X.mg c P) (code : X.env.code = .ref c) (inT : (P, X.env.qual ++ "<lambda>") ∈ T) (one : ∀ p ∈ T, p.1 = P → p.2 = X.env.qual ++ "<lambda>") (room : RoomG (k + 2) X.A) (L : LamX.LamS X.env.scope scope)
    (noDef : defaultsOf params X.env = ([], [])) (none_ : ∀ (q : Str) (cl : List (Str × Addr)) (pm cv ctv : Value), bindArgs (PySem.W.kla_fn "<lambda>" q params body scope cl pm cv ctv) ⟨[], []⟩ = pure [])
    (read : ∀ (A : Around) (outer : List Env) (s : Shared) (H : Hp) (E : XK) (f c' : Addr), RoomG k (A.deeper (LamX.lamEnv X scope s.heap.objs.size f c')) → PE (LamX.lamCx X A outer s H E scope f c') body (t E))
    (d1 : (x == ("__debug__" : Str)) = false := by decide) (d2 : (a == ("__debug__" : Str)) = false := by decide) (d3 : (a == ("__classdict__" : Str)) = false := by decide) : PE X (.Call (.Name x p) [.Lambda params body scope lpos] [] pos) (tLamP P T TT t) := by
  constructor
  rintro pins s σ H Q I ⟨tabs, pre⟩
  refine wpAny_Call_Name_kw (ld_glob I gl at_ ?_ d1)
  refine PySem.W.callWith_K (h₀ := X.base) I.ok.mod.kin kp ?_ (by rfl) (by rfl)
  show wpAny _ _ (spliced ((false, eval (.Lambda params body scope lpos) X.env) :: backTo pos (starEach [] X.env))) _ _ s
  refine Calls.spliced_cons (made_lam I TB code inT one tabs noDef (L.has I.ok) ?_)
  intro f c' pm' ctv H1 s' I1 wrote tabs1 isF noF noFr isC
  refine Calls.spliced_nil ⟨I1.kIn, ?_⟩
  have runs : codeAny (model X.prog X.w) X.A (.call (.ref g) ⟨[.ref f], []⟩) (CR C8.CX0 X.stack X.prog X.w H1 s' Q C8.E0) s' := by
    refine LamX.run_ofS (N := Ng) (ps := [a]) (us := [.ref f]) (vs := [.ref f]) look cg Sg room.r I1.env0 (bi s' [.ref f] I1.kIn rfl) (.cons rfl .nil) rfl fun room' => ?_
    have act := gives f c' s' H1 Q (fun E H' Q' => t E σ H' Q') (fun W pn xe E p1 p2 tk hW => act_lam (i := 0) I1 L isF noF noFr (none_ _ _ _ _ _) tk hW ⟨room', room.g⟩ (fun A outer s H r2 => read A outer s H E f c' r2) first va d2 d3) isC (pre H1 wrote tabs1)
    obtain ⟨t', ht, hq⟩ := act
    exact ⟨t', ht.nox, hq⟩
  refine wpAny_call (codeAny_mono runs ?_)
  intro r s2 h
  match r, h with
  | .ok (.ret u), h => exact I1.after h
  | .error _, h => exact h.elim
  | .ok .next, h => exact h.elim
  | .ok .brk, h => exact h.elim
  | .ok .cont, h => exact h.elim
end
end Fw

set_option linter.all false
set_option maxRecDepth 100000
set_option maxHeartbeats 4000000
namespace Fw
open PySem PySem.Spec PyProof.Rows L2
/-! ### f(lambda: ..), f a def that calls what it got and tells what came of it -/
def fzS : Slot → Slot
  | .d x => .d x
  | _ => .u
def fz (sl : List Slot) : List Slot := sl.map fzS
section
variable {G : Gm} {U : Hp} {pn pn' : Pn} {E : XK} {e : Ev} {σ : L2.St} {H B H' B' H1 B1 : Hp}
theorem slots_fz (s : Same B B') : ∀ {σ : L2.St} {ρ : List Slot} {os : List Addr}, Slots G pn B H σ ρ os → Slots G pn' B' H' σ (fz ρ) []
  | _, _, _, .nil => .nil
  | _, _, _, .u t => .u (slots_fz s t)
  | _, _, _, .d r t => .d (r.same s) (slots_fz s t)
  | _, _, _, .o _ t => .u (slots_fz s t)
  | _, _, _, .p _ t => .u (slots_fz s t)
  | _, _, _, .fo _ t => .u (slots_fz s t)
  | _, _, _, .me t => .u (slots_fz s t)
/-- what the lambda's body tells of the names as they stand -/
def lamD (f : FG D) (sl : List Slot) : Option (Rs D) := (f ⟨fz sl, pen0⟩).map (·.1)
def PostT (G : Gm) (U : Hp) (B : Hp) (Q : VK) (E : XK) : Rs D → Prop
  | .v d => ∀ v H' B' p', Base U none p' H' B' → Same B B' → Rz G B' v d → Q v H'
  | .x c ns ds => ∀ cls ao H' B' p', Base U none p' H' B' → Same B B' → XAt G B' H' cls ao c ns ds → E cls ao H'
def Tl (G : Gm) (K1 : Hp) (tl : XK → Hp → VK → Prop) (g : Option (Rs D)) : Prop := ∀ r, g = some r → ∀ (E : XK) (U H B : Hp) (p : PenS) (Q : VK), Base U none p H B → Same K1 B → PostT G U B Q E r → tl E H Q
theorem base0 {p p' : PenS} (b : Base U none p H B) : Base U none p' H B := ⟨b.bh, b.uh, b.bu, (fun q hq => by cases hq), (fun q hq => by cases hq)⟩
theorem tl_of {t : XK → TE} {f : FG D} (h : ∀ E, CE G none E (t E) f) (rl : Rl G U pn e σ H B) : Tl G B (fun E H' Q' => t E σ H' Q') (lamD f e.sl) := by
  intro r hg E U2 H2 B2 p Q b s post
  obtain ⟨⟨r', p'⟩, hf, hr⟩ := Option.map_eq_some_iff.mp hg
  cases hr
  obtain ⟨os, ss, _, _⟩ := rl.s
  refine h E U2 ⟨fz e.sl, pen0⟩ σ H2 B2 _ p' Q ⟨base0 b, [], slots_fz s ss, .nil, fun q hq => by cases hq⟩ hf ?_
  cases r' with
  | v d => exact fun v H' B' rl' s' _ rz => post v H' B' _ rl'.b s' rz
  | x c ns ds => exact fun cls ao H' B' b' s' x => post cls ao H' B' _ b' s' x
def actG (g : Option (Rs D)) : FG D := fun e => match e.sl[0]? with
  | some (Slot.f) => g.map fun r => (r, e.pen)
  | _ => none
def tAct (f c' : Addr) (q : Str) (tl : Hp → VK → Prop) : TE := fun σ H Q => σ[0]? = some (some (.ref f)) ∧ H c' = some (LamX.CodeO c' q) ∧ tl H Q
theorem ce_act {qi : PnI} {c' : Addr} {q : Str} {tl : XK → Hp → VK → Prop} {g : Option (Rs D)} (hZ : (c', LamX.CodeO c' q) ∈ qi.Z) (T : Tl G qi.K tl g) : CE G (some qi) E (tAct qi.F c' q (tl E)) (actG g) := by
  intro U e σ H B r p' Q rl hf post
  unfold actG at hf
  split at hf
  · next h0 =>
    obtain ⟨r', hr, hp⟩ := Option.map_eq_some_iff.mp hf
    cases hp
    obtain ⟨os, ss, _, _⟩ := rl.s
    obtain ⟨q', hs, hq⟩ := ss.getF h0
    cases hq
    obtain ⟨_, _, h3, h4⟩ := rl.b.tab qi rfl
    refine ⟨hs, (h3 _ hZ).1, T _ hr E (outU none B H) H B pen0 Q rl.call0 h4 ?_⟩
    cases r with
    | v d =>
      intro v H' B' p2 b s rz
      obtain ⟨rl', k⟩ := rl.after0 b s
      exact post v H' B' rl' s k rz
    | x c ns ds =>
      intro cls ao H' B' p2 b s x
      obtain ⟨rl', k⟩ := rl.after0 b s
      exact post cls ao H' B' rl'.b s x
  · cases hf
/-- the def's reading: F of what the lambda tells -/
def whyRun (N : Nat) (F : Option (Rs D) → FS) (g : Option (Rs D)) (p : PenS) : Option (D × PenS) := match F g ⟨.f :: List.replicate (N - 1) .u, p⟩ with
  | some (.rt d, e') => some (d, e'.pen)
  | some (.nx, e') => some (.none, e'.pen)
  | _ => none
def TTw (G : Gm) (N : Nat) (F : Option (Rs D) → FS) : (XK → Hp → VK → Prop) → Hp → VK → Prop := fun tl H Q => ∃ (q0 : PnI) (U B : Hp) (g : Option (Rs D)) (p p' : PenS) (d : D), Base U (some q0) p H B ∧ Tl G B tl g ∧ whyRun N F g p = some (d, p') ∧
  ∀ v H' B', Base U (some q0) p' H' B' → Same B B' → Rz G B' v d → Q v H'
theorem base_more {q0 : PnI} {f : Addr} {Z : List (Addr × HO)} {p : PenS} (b : Base U (some q0) p H B) (hz : ZAt H Z) : Base U (some { q0 with F := f, Z := Z ++ q0.Z, K := B }) p H B := by
  refine ⟨b.bh, b.uh, b.bu, fun q hq => ?_, fun q hq => ?_⟩
  · cases hq; exact b.pen q0 rfl
  · cases hq
    obtain ⟨h1, h2, h3, h4⟩ := b.tab q0 rfl
    exact ⟨h1, h2, fun z m => (List.mem_append.mp m).elim (hz z) (h3 z), Same.refl _⟩
theorem base_less {q0 : PnI} {f : Addr} {Z : List (Addr × HO)} {K1 : Hp} {p : PenS} (b : Base U (some { q0 with F := f, Z := Z ++ q0.Z, K := K1 }) p H B) (s : Same q0.K B) : Base U (some q0) p H B := by
  refine ⟨b.bh, b.uh, b.bu, fun q hq => ?_, fun q hq => ?_⟩
  · cases hq
    have h := b.pen _ rfl
    exact h
  · cases hq
    obtain ⟨h1, h2, h3, h4⟩ := b.tab _ rfl
    exact ⟨h1, h2, fun z m => h3 z (List.mem_append_right _ m), s⟩
/-- a def that calls what it got: its body's reading -/
theorem why_gives {X : Cx} {Ng : List Str} {x a q : Str} {sg : Scope} {g : Addr} {cdg : Value} {bg : List Stmt} {F : Option (Rs D) → FS} {N : Nat} (hN : Ng.length = N) (hN1 : 1 ≤ N)
    (body : ∀ (f c' : Addr) (s : Shared) (H : Hp) (tl : XK → Hp → VK → Prop),
      (∀ (W : WX) (pn : List (Addr × Obj)) (xe : Value → Shared → Prop) (E : XK) (p1 p2 : Pos), Takes ((cxOf C8.CX0 X.prog X.w X.K X.mg X.base Ng x sg g cdg X.A X.stack s H C8.E0).tr pn xe) W → (∀ cls d σ' H', E cls d H' → W cls d σ' H') → PE ((cxOf C8.CX0 X.prog X.w X.K X.mg X.base Ng x sg g cdg X.A X.stack s H C8.E0).tr pn xe) (.Call (.Name a p1) [] [] p2) (tAct f c' q (tl E))) →
      ∃ t, PSs (cxOf C8.CX0 X.prog X.w X.K X.mg X.base Ng x sg g cdg X.A X.stack s H C8.E0).nox bg t ∧ ∀ (qi : PnI) (g' : Option (Rs D)), qi.F = f → (c', LamX.CodeO c' q) ∈ qi.Z → Tl G qi.K tl g' → CS G (some qi) E0 t (F g')) :
    LamX.GivesTo X Ng x sg g cdg bg a q (TTw G N F) := by
  intro f c' s H Q tl act isC pre
  obtain ⟨q0, U, B, g', p, p', d, b, T, hr, post⟩ := pre
  obtain ⟨t, h1, h2⟩ := body f c' s H tl act
  refine ⟨t, h1, ?_⟩
  have hz : ZAt H [(c', LamX.CodeO c' q)] := fun z m => by
    cases List.mem_singleton.mp m
    exact ⟨isC, by unfold LamX.CodeO; trivial⟩
  have b1 := base_more (f := f) b hz
  have hK := (b.tab q0 rfl).2.2.2
  unfold whyRun at hr
  have rl : Rl G U (some { q0 with F := f, Z := [(c', LamX.CodeO c' q)] ++ q0.Z, K := B }) ⟨.f :: List.replicate (N - 1) .u, p⟩ (L2.start Ng [.ref f]) H B := by
    refine ⟨b1, [], ?_, .nil, fun q hq => by cases hq⟩
    unfold L2.start
    rw [hN]
    exact .fo (q := { q0 with F := f, Z := [(c', LamX.CodeO c' q)] ++ q0.Z, K := B }) rfl (Slots.us _)
  have run := h2 { q0 with F := f, Z := [(c', LamX.CodeO c' q)] ++ q0.Z, K := B } g' rfl (List.mem_append_left _ (.head _)) T
  split at hr
  · next d' e' he =>
    cases hr
    exact run U _ _ H B _ _ _ rl he fun v H' B' b' s' rz => post v H' B' (base_less b' (hK.trans s')) s' rz
  · next e' he =>
    cases hr
    exact run U _ _ H B _ _ _ rl he fun σ' H' B' rl' s' => post .non H' B' (base_less rl'.b (hK.trans s')) s' .non
  · cases hr
def whyG (N : Nat) (F : Option (Rs D) → FS) (f : FG D) : FG D := fun e => (whyRun N F (lamD f e.sl) e.pen).map fun r => (.v r.1, r.2)
theorem base_wrote {q0 : PnI} {p : PenS} {P : Addr} {nm : Str} (b : Base U (some q0) p H B) (hP : (P, nm) ∈ q0.T) (w : Wrote P H H1) (t : LamX.Tabs q0.T H1) : Base U (some q0) p H1 B := by
  obtain ⟨h1, h2, h3, h4⟩ := b.tab q0 rfl
  obtain ⟨n1, n2⟩ := h1 _ hP
  refine ⟨fun a o h => w _ _ (b.bh _ _ h) (ne_of_none h n1), fun a o h => w _ _ (b.uh _ _ h) (ne_of_none h n2), b.bu, fun q hq => ?_, fun q hq => ?_⟩
  · cases hq
    obtain ⟨p1, p2, p3, p4⟩ := b.pen q0 rfl
    obtain ⟨ps, hp, _⟩ := h2 _ hP
    exact ⟨p1, p2, w _ _ p3 (fun z => by rw [z, hp] at p3; cases p3), p4⟩
  · cases hq
    refine ⟨h1, t, fun z hz => ?_, h4⟩
    obtain ⟨z1, z2⟩ := h3 z hz
    obtain ⟨ps, hp, _⟩ := h2 _ hP
    exact ⟨w _ _ z1 (fun y => by rw [y, hp] at z1; rw [← Option.some.inj z1] at z2; exact z2), z2⟩
theorem Rl.wrote {q0 : PnI} {P : Addr} {nm : Str} (rl : Rl G U (some q0) e σ H B) (hP : (P, nm) ∈ q0.T) (w : Wrote P H H1) (t : LamX.Tabs q0.T H1) : Rl G U (some q0) e σ H1 B := by
  obtain ⟨b, os, ss, n, f⟩ := rl
  refine ⟨base_wrote b hP w t, os, ss.grow (Same.refl _) (fun q hq => ?_), n, f⟩
  obtain ⟨o, ho⟩ := ss.there hq
  rw [ho]
  exact w _ _ ho fun z => ((f q hq).2.2 q0 rfl).2 _ hP z
theorem Keep.wrote {q0 : PnI} {P : Addr} {nm : Str} (hP : (P, nm) ∈ q0.T) (w : Wrote P H H1) : Keep (some q0) H H1 := fun a o h n => w a o h fun z => (n q0 rfl).2 _ hP z
theorem ce_lam {q0 : PnI} {P : Addr} {nm : Str} {T : List (Addr × Str)} {N : Nat} {F : Option (Rs D) → FS} {t : XK → TE} {f : FG D} (hT : q0.T = T) (hP : (P, nm) ∈ T) (h : ∀ E, CE G none E (t E) f) : CE G (some q0) E (tLamP P T (TTw G N F) t) (whyG N F f) := by
  subst hT
  intro U e σ H B r p' Q rl hf post
  unfold whyG at hf
  obtain ⟨⟨d, p2⟩, hw, hr⟩ := Option.map_eq_some_iff.mp hf
  cases hr
  refine ⟨(rl.b.tab q0 rfl).2.1, fun H1 w t1 => ?_⟩
  have rl1 := rl.wrote hP w t1
  refine ⟨q0, outU (some q0) B H1, B, lamD f e.sl, e.pen, _, d, rl1.call1, tl_of h rl1, hw, fun v H' B' b s rz => ?_⟩
  obtain ⟨rl', k⟩ := rl1.after1 b s
  exact post v H' B' rl' s ((Keep.wrote hP w).trans k) rz
end
end Fw

set_option linter.all false
set_option maxRecDepth 100000
set_option maxHeartbeats 4000000
namespace Fw
open PySem PySem.Spec PyProof.Rows L2
/-! ### what is not told -/
theorem pss_no {X : Cx} {b : List Stmt} : PSs X b (fun _ _ _ => False) := ⟨fun _ _ _ _ _ _ h => h.elim⟩
def noS : FS := fun _ => none
theorem cs_no {G : Gm} {pn : Pn} {E : XK} {t : TS} : CS G pn E t noS := fun _ _ _ _ _ _ _ _ _ h _ => by cases h
/-! ### a def as a value, and a call of it -/
section
variable {G : Gm} {U : Hp} {pn : Pn} {E : XK} {e : Ev} {σ : L2.St} {H B H' B' H1 B1 : Hp}
theorem ce_fnv {c : Str} {a : Addr} (h : G.X c = some a) : CE G pn E (tC (.ref a)) (retG (fnD c)) := ce_const fun _ => .fn h
def tCallS (i : Nat) (L : List (Addr × Sp)) (E : XK) (t : TA) : TE := fun σ H Q => ∃ a sp, (a, sp) ∈ L ∧ σ[i]? = some (some (.ref a)) ∧ t σ H fun vs H1 => sp vs H1 Q E
structure Cand (X : Cx) (cx : CXT) (p : Addr × Sp) : Prop where
  ex : ∃ (fd : FuncData) (ps : List Str) (lv : Nat), FnG X.prog X.w X.K X.mg X.base cx lv p.1 fd ps p.2 ∧ PySem.W.keepIn X.K (.ref p.1) = true ∧ Binds X.K fd ps [] ∧ RoomG lv X.A
theorem pe_callS {X : Cx} {cx : CXT} {L : List (Addr × Sp)} {i : Nat} {x : Str} {p pos : Pos} {e : Expr} {es : List Expr} {t : TA} {E : XK} (hL : ∀ q ∈ L, Cand X cx q) (at_ : X.N[i]? = some x) (vis : Vis X.env.scope x) (out : Passes cx X E) (as : PA X (e :: es) t)
    (d1 : (x == ("__debug__" : Str)) = false := by decide) (d2 : (x == ("__classdict__" : Str)) = false := by decide) (h1 : starEach (e :: es) X.env = (false, eval e X.env) :: starEach es X.env := by rfl) (h2 : (backTo pos (starEach es X.env)).any (·.1) = false := by rfl) : PE X (.Call (.Name x p) (e :: es) [] pos) (tCallS i L E t) := by
  constructor
  rintro pins s σ H Q I ⟨a, sp, m, here, pre⟩
  obtain ⟨fd, ps, lv, F, kp, bi, room⟩ := hL _ m
  refine wpAny_Call_Name_kw (thn ((pe_var (pos := p) (i := i) at_ vis d1 d2).run pins s σ H (fun v H1 => v = .ref a ∧ H1 = H) I ⟨.ref a, here, rfl, rfl⟩) ?_)
  rintro u s1 ⟨v, H1, J, rv, ev, eH⟩
  subst ev
  rw [eH] at J
  cases (show u = Value.ref a from rv)
  exact PySem.W.callWith_K (h₀ := X.base) J.ok.mod.kin kp (thn (as.run pos pins s1 σ H _ J pre) fun us s2 z => match z with
    | ⟨ws, H2, J2, r, q⟩ => ⟨J2.kIn, runG F room bi .nil out J2 r (by rw [List.append_nil]; exact q)⟩) h1 h2
def fnOf (d : D) : Option Str := match d with
  | .dict [(.bool true, .str c)] => some c
  | _ => none
def pickF (c : Str) : List (Str × FF) → Option FF
  | [] => none
  | k :: r => if c = k.1 then some k.2 else pickF c r
def callS (n i : Nat) (cs : List (Str × FF)) (f : FG (List D)) : FG D := bindG (slotD i) fun d => match (fnOf d).bind fun c => pickF c cs with
  | some F => callX n F f
  | none => fun _ => none
theorem fnOf_eq {d : D} {c : Str} (h : fnOf d = some c) : d = fnD c := by
  unfold fnOf at h
  split at h
  · cases h; rfl
  · cases h
theorem Rz.fn_inv {v : V} {c : Str} (h : Rz G B v (fnD c)) : ∃ a, v = .ref a ∧ G.X c = some a := by
  unfold fnD at h
  generalize hd : PyData.dict [(PyData.bool true, PyData.str c)] = d at h
  cases h with
  | fn h =>
    cases hd
    exact ⟨_, rfl, h⟩
  | dk h hs =>
    exfalso
    rename_i ks ds
    cases ks with
    | nil => cases hd
    | cons k ks => cases ds with
      | nil => cases hd
      | cons d ds => obtain ⟨k, u⟩ := k; cases k <;> cases hd
  | dt h hs =>
    exfalso
    rename_i ks ds
    cases ks with
    | nil => cases hd
    | cons k ks => cases ds with
      | nil => cases hd
      | cons d ds => cases hd
  | ins h h2 h3 hs => cases hd
  | _ => cases hd
inductive CsOk (G : Gm) (n : Nat) : List (Addr × Sp) → List (Str × FF) → Prop
  | nil : CsOk G n [] []
  | cons {c : Str} {a : Addr} {F : FF} {L : List (Addr × Sp)} {cs : List (Str × FF)} (h : G.X c = some a) (t : CsOk G n L cs) : CsOk G n ((a, spX G false n F) :: L) ((c, F) :: cs)
theorem CsOk.pick {n : Nat} {L : List (Addr × Sp)} {cs : List (Str × FF)} (h : CsOk G n L cs) {c : Str} {a : Addr} {F : FF} (hc : G.X c = some a) (hp : pickF c cs = some F) : (a, spX G false n F) ∈ L := by
  induction h with
  | nil => cases hp
  | @cons c' a' F' L cs hX t ih =>
    unfold pickF at hp
    by_cases z : c = c'
    · rw [if_pos z] at hp
      cases hp
      subst z
      cases hc.symm.trans hX
      exact .head _
    · rw [if_neg z] at hp
      exact .tail _ (ih hp)
theorem ce_callS {n i : Nat} {L : List (Addr × Sp)} {cs : List (Str × FF)} {f : FG (List D)} {t : TA} (hL : CsOk G n L cs) (h : CA G pn E t f) : CE G pn E (tCallS i L E t) (callS n i cs f) := by
  intro U e σ H B r p' Q rl hf post
  rcases bind_inv hf with ⟨c, ns, ds, hx, rfl⟩ | ⟨d, q, hx, hg⟩
  · unfold slotD at hx
    split at hx <;> cases hx
  · unfold slotD at hx
    split at hx
    · next y hy =>
      cases hx
      obtain ⟨v, hv, rz⟩ := rl.get hy
      cases hF : (fnOf d).bind fun c => pickF c cs with
      | none =>
        exfalso
        simp only [hF] at hg
        cases hg
      | some F =>
        simp only [hF] at hg
        obtain ⟨c, hc1, hc2⟩ := Option.bind_eq_some_iff.mp hF
        cases fnOf_eq hc1
        obtain ⟨a, rfl, ha⟩ := rz.fn_inv
        refine ⟨a, _, hL.pick ha hc2, hv, ?_⟩
        have z := ce_callX (n := n) (F := F) h U ⟨e.sl, e.pen⟩ σ H B r p' Q rl hg post
        unfold tCall at z
        simpa only [List.append_nil] using z
    · cases hx
end
end Fw

set_option linter.all false
set_option maxRecDepth 100000
set_option maxHeartbeats 4000000
namespace Fw
open PySem PySem.Spec PyProof.Rows L2
theorem fnG_of0 {Pr : Program} {wo : World} {K : PySem.W.Frag} {mg : Str → Option Value} {base : Heap} {cx : CXT} {n : Nat} {f : Addr} {fd : FuncData} {ps N : List Str} {sp : Sp} {x qual : Str} {st : Stmt} (F : Fun K x qual st f fd) (S : FnScope N ps (defScope st)) (len : ∀ ws H Q E, sp ws H Q E → ws.length = ps.length)
    (bd : ∀ (cdv : Value) (A : Around) (fr : List Env) (s : Shared) (H : Hp) (ws : List V) (Q : VK) (E : XK), RoomG n (A.deeper (envOfC qual (defScope st) s.heap.objs.size f cdv)) → sp ws H Q E →
      ∃ t, PSs (cxOf cx Pr wo K mg base N qual (defScope st) f cdv A fr s H E).nox (defBody st) t ∧ t { nx := fun _ H' => Q .non H', rt := Q } (L2.start N ws) H) : FnG Pr wo K mg base cx (n + 1) f fd ps sp :=
  fnG_of F S len fun cdv A fr s H ws Q E room pre => by
    obtain ⟨t, h, q⟩ := bd cdv A fr s H ws Q E room pre
    exact ⟨t, h.nox, q⟩
/-! ### a law that hands lambdas to a def: its end -/
/-- the def that calls what it got, as it stands in the text -/
structure WhyAt (K : PySem.W.Frag) (mg : Str → Option Value) (x a : Str) (st : Stmt) (g : Addr) : Prop where
  m : mg x = some (.ref g)
  k : PySem.W.keepIn K (.ref g) = true
  ex : ∃ (oc : Value) (od : Option Addr) (kV doc pm : Value) (an : Option Addr) (cdv ct : Value) (osl : Array (Option Value)), K.lookup g = some ⟨oc, od, .func (PySem.W.fnOf x x (defArgs st) (defBody st) (defScope st) .none kV doc pm an cdv ct), osl⟩ ∧ PySem.W.codeIn K cdv x = true ∧ Binds K (PySem.W.fnOf x x (defArgs st) (defBody st) (defScope st) .none kV doc pm an cdv ct) [a] []
def LawG (P : Program) (w : World) (K : PySem.W.Frag) (mg : Str → Option Value) (base : Heap) (f : Addr) (fd : FuncData) (x : Str) (sp : Sp) : Prop :=
  ∀ (s : Shared) (H : Hp) (u : Value) (v : V) (Q : VK), Env0 P w K mg base callerA [] s H → BindsTo s fd ⟨[u], []⟩ [(x, u)] → RelV v u → sp [v] H Q (fun _ _ _ => False) → codeAny (model P w) callerA (.call (.ref f) ⟨[u], []⟩) (CR CX0 [] P w H s Q fun _ _ _ => False) s
theorem lawG_of {P : Program} {w : World} {K : PySem.W.Frag} {mg : Str → Option Value} {base : Heap} {x name qual : Str} {f : Addr} {N : List Str} {k : Nat} {sp : Sp} {oc kV doc pm cdv ct : Value} {od an : Option Addr} {osl : Array (Option Value)} {params : Arguments} {body : List Stmt} {scope : Scope}
    (look : K.lookup f = some ⟨oc, od, .func (PySem.W.fnOf name qual params body scope .none kV doc pm an cdv ct), osl⟩) (code : PySem.W.codeIn K cdv qual = true) (S : FnScope N [x] scope) (room : RoomG (k + 1) callerA)
    (bd : ∀ (s : Shared) (H : Hp) (v : V) (Q : VK), RoomG k (callerA.deeper (envOfC qual scope s.heap.objs.size f cdv)) → sp [v] H Q (fun _ _ _ => False) →
      ∃ t, PSs (cxOf CX0 P w K mg base N qual scope f cdv callerA [] s H fun _ _ _ => False).nox body t ∧ t { nx := fun _ H' => Q .non H', rt := Q } (L2.start N [v]) H) : LawG P w K mg base f (PySem.W.fnOf name qual params body scope .none kV doc pm an cdv ct) x sp := by
  intro s H u v Q e0 bi rv pre
  have inK : K.In s.heap := e0.mod.kin.keeps fun b o e => And.left (e0.bs b o e)
  have kinds : ∀ z ∈ [x].zip [u], scope.names.lookup z.1 = some .local ∨ (scope.names.lookup z.1 = some .cell ∧ ((cellsFrom (s.heap.objs.size + 1) scope.names []).lookup z.1).isSome = true) := by
    rintro ⟨n, m⟩ hz
    exact (S.par n (List.of_mem_zip hz).1).imp id fun c => ⟨c, PySem.W.cellsFrom_some _ _ _ (Or.inl c)⟩
  refine codeAny_call_function room.r.depth (inK _ _ look) rfl S.co S.gen rfl (PySem.W.codeRec_of inK code) (bi _ _ _ _ (wpAny_newFunctionEnv_cells S.kind kinds ?_))
  rintro env rfl s1 born
  refine ⟨(e0.mod.nolimit.keeps fun b o e => And.left (e0.bs b o e)).keeps born.toInCall.keep, codeAny_func ?_⟩
  obtain ⟨t, run, post⟩ := bd s H v Q (room.deeper _) pre
  have I := (inv_start (CX := CX0) (E := fun _ _ _ => False) S room.r.hd e0 (vs := [v]) rfl (.cons rv .nil) born).wish (fun _ _ => False)
  have out : ∀ (z : V) (y : Value) (σ : L2.St) (H' : Hp) (s' : Shared), Inv (cxOf CX0 P w K mg base N qual scope f cdv callerA [] s H fun _ _ _ => False).nox [] σ H' s' → RelV z y → Q z H' → L2.CE [] P w H s Q y s' := fun z y σ H' s' J r q => ⟨z, H', J.os, J.bare, J.base, J.hok, r, q⟩
  refine wpAny_mono (run.run [] s1 (L2.start N [v]) H _ I post) (fun fl s' e => ?_) fun _ _ e => False.elim e
  match fl, e with
  | .ret y, ⟨z, σ, H', J, r, q⟩ => exact out z y σ H' s' J r q
  | .next, ⟨σ, H', J, q⟩ => exact out .non .none σ H' s' J rfl q
  | .brk, ⟨_, _, _, q⟩ => exact q.elim
  | .cont, ⟨_, _, _, q⟩ => exact q.elim
/-! the start: the script and the tables are known, nothing else -/
def st0 (K : PySem.W.Frag) (ts : List Addr) (a : Addr) (vs : List Value) (ns : List Int) : Hp := fun b => if b ∈ ts then some (.tbl #[]) else if b = a ∧ K.lookup a = none then some (.frz { cls := .type "list", data := .seq vs.toArray } (.lst (ns.map V.int))) else none
theorem law_atT {P : Program} {w : World} {K : PySem.W.Frag} {mg mb : Str → Option Value} {fa a : Addr} {fd : FuncData} {x : Str} {sp : Sp} {s : Shared} {vs : List Value} {ns : List Int} {cs : List (Addr × Addr)} (inK : K.In s.heap) (main : s.heap.Ns mainGlobals mg) (blt : s.heap.Ns builtinsNs mb) (boot : ∀ x : Str, x ≠ "__name__" → mb x = bootBuiltins x) (lim : s.heap.NoLimit) (gens : s.gens = #[])
    (isT : ∀ p ∈ cs, s.heap.get? p.2 = some { cls := .none, data := .fields #[] }) (notK : ∀ p ∈ cs, K.lookup p.2 = none) (codes : ∀ p ∈ cs, PySem.W.CodeHd s.heap p.1 p.2) (bmain : ∃ (bm : Addr) (ob : Obj), mg "__builtins__" = some (.ref bm) ∧ bm ≠ builtinsNs ∧ s.heap.get? bm = some ob ∧ ob.cls = .type "module" ∧ ob.dict = some builtinsNs ∧ ob.data = .plain)
    (obj : s.heap.get? a = some { cls := .type "list", data := .seq vs.toArray }) (allI : IntsAre vs ns) (small : ns.length ≤ sizeLine) (F : ∀ base : Heap, K.In base → base.Ns mainGlobals mg → (∀ p ∈ cs, LamX.TabB base mg p.1 p.2) → LawG P w K mg base fa fd x sp) (bi : ∀ (s : Shared) (u : Value), BindsTo s fd ⟨[u], []⟩ [(x, u)])
    (pre : ∀ H : Hp, (∀ p ∈ cs, H p.2 = some (.tbl #[])) → SqL K H a (ns.map V.int) → sp [.ref a] H (fun v _ => v = .bl true) fun _ _ _ => False) : codeAny (model P w) callerA (.call (.ref fa) ⟨[.ref a], []⟩) (fun r s' => r = .ok (.ret (.bool true)) ∧ OldK s.heap s'.heap ∧ s'.os = s.os ∧ AllBare s'.gens) s := by
  have vals := vals_ints allI
  have onT : ∀ b ∈ cs.map (·.2), s.heap.get? b = some { cls := .none, data := .fields #[] } := fun b hb => by
    obtain ⟨p, hp, rfl⟩ := List.mem_map.mp hb
    exact isT p hp
  have inT : ∀ p ∈ cs, p.2 ∈ cs.map (·.2) := fun p hp => List.mem_map.mpr ⟨p, hp, rfl⟩
  have aT : a ∉ cs.map (·.2) := fun z => by
    have e := obj.symm.trans (onT a z)
    cases (show Data.seq vs.toArray _ = Data.fields #[] from congrArg Obj.data (Option.some.inj e))
  have is : ∀ {b : Addr} {u : HO}, st0 K (cs.map (·.2)) a vs ns b = some u → (b ∈ cs.map (·.2) ∧ u = .tbl #[]) ∨ (b = a ∧ K.lookup a = none ∧ u = .frz { cls := .type "list", data := .seq vs.toArray } (.lst (ns.map V.int))) := by
    intro b u e
    unfold st0 at e
    split at e
    · next h => cases e; exact .inl ⟨h, rfl⟩
    · split at e
      · next h => cases e; exact .inr ⟨h.1, h.2, rfl⟩
      · cases e
  have hid : ∀ {b : Addr} {o : Obj}, s.heap.get? b = some o → (∀ ws n, o.data ≠ .seq ws n) → o.data ≠ .fields #[] → (hidT s.heap (st0 K (cs.map (·.2)) a vs ns)).get? b = some o := fun {b o} e h1 h2 => hidT_get e (by
    cases q : st0 K (cs.map (·.2)) a vs ns b with
    | none => rfl
    | some u =>
      rcases is q with ⟨h, _⟩ | ⟨rfl, _, _⟩
      · rw [onT b h] at e; cases e; exact absurd rfl h2
      · rw [obj] at e; cases e; exact absurd rfl (h1 _ _))
  have spaces : ∀ {b : Addr} {m : Str → Option Value}, s.heap.Ns b m → (hidT s.heap (st0 K (cs.map (·.2)) a vs ns)).Ns b m := by
    rintro b m ⟨o, es, ep, e, d, r⟩
    exact ⟨o, es, ep, hid e (fun ws n z => by rw [d] at z; cases z) (fun z => by rw [d] at z; cases z), d, r⟩
  have kept : K.In (hidT s.heap (st0 K (cs.map (·.2)) a vs ns)) := fun b o e => hidT_get (inK b o e) (by
    cases q : st0 K (cs.map (·.2)) a vs ns b with
    | none => rfl
    | some u =>
      rcases is q with ⟨h, _⟩ | ⟨rfl, n, _⟩
      · obtain ⟨p, hp, ep⟩ := List.mem_map.mp h
        rw [← ep, notK p hp] at e; cases e
      · rw [n] at e; cases e)
  have heapOk : HOk P w (st0 K (cs.map (·.2)) a vs ns) s.heap := by
    intro b u e
    rcases is e with ⟨h, rfl⟩ | ⟨rfl, _, rfl⟩
    · exact onT b h
    · exact ⟨obj, by rw [List.length_map]; exact small, vs, _, vals, obj⟩
  have seen : SqL K (st0 K (cs.map (·.2)) a vs ns) a (ns.map V.int) := by
    cases k : K.lookup a with
    | none => exact Or.inl (Or.inr ⟨_, (if_neg aT).trans (if_pos ⟨rfl, k⟩)⟩)
    | some o =>
      have same := (inK a o k).symm.trans obj
      cases same
      exact Or.inr ⟨_, vs.toArray, _, k, rfl, rfl, rfl, by rw [List.size_toArray, allI.length]; exact small, by simpa using vals⟩
  have tabs : ∀ p ∈ cs, LamX.TabB (hidT s.heap (st0 K (cs.map (·.2)) a vs ns)) mg p.1 p.2 := fun p hp => by
    have tp := isT p hp
    refine ⟨?_, ?_, fun z => ?_⟩
    · obtain ⟨o, us, file, tf, flags, tg, inF, text, tt, e1, r1, r2, r3, r4, r5, r6, r7, r8, ne⟩ := codes p hp
      refine ⟨o, us, file, tf, flags, tg, inF, text, tt, hid e1 (fun ws n z => by rw [r2] at z; cases z) (fun z => ?_), r1, r2, r3, r4, r5, r6, r7, r8, ne⟩
      rw [r2] at z
      cases z
      simp at r3
    · obtain ⟨bm, ob, b1, b2, b3, b4, b5, b6⟩ := bmain
      refine ⟨bm, ob, b1, b2, fun q => ?_, fun q => ?_, hid b3 (fun ws n z => by rw [b6] at z; cases z) (fun z => by rw [b6] at z; cases z), b4, b5, b6⟩
      · obtain ⟨o, es, ep, e, d, _⟩ := main
        rw [q, e] at b3
        cases b3
        rw [d] at b6
        cases b6
      · rw [q, tp] at b3
        cases b3
        cases b6
    · obtain ⟨o, es, ep, e, d, _⟩ := main
      rw [z, tp] at e
      cases e
      cases d
  have env : Env0 P w K mg (hidT s.heap (st0 K (cs.map (·.2)) a vs ns)) callerA [] s (st0 K (cs.map (·.2)) a vs ns) :=
    { frames := rfl, mod := ⟨kept, spaces main, ⟨mb, spaces blt, boot⟩, lim.elim fun mc h => ⟨mc, spaces h.1, h.2⟩⟩, bs := fun b o e => of_hidT e, bsz := Nat.le_of_eq (hidT_size _ _), funs := trivial, frf := fun b h => (nomatch (show b ∈ ([] : List Addr) from h)), hok := heapOk, bare := .of_eq gens }
  refine codeAny_mono (F _ kept (spaces main) tabs s _ (.ref a) (.ref a) _ env (bi s (.ref a)) rfl (pre _ (fun p hp => if_pos (inT p hp)) seen)) ?_
  intro r s' h
  match r, h with
  | .error _, h => exact False.elim h
  | .ok .next, h => exact False.elim h
  | .ok .brk, h => exact False.elim h
  | .ok .cont, h => exact False.elim h
  | .ok (.ret y), ⟨z, H', os, bare, un, ok', rel, q⟩ =>
    subst q
    cases rel
    have stays : ∀ b o, b ∉ cs.map (·.2) → s.heap.get? b = some o → s'.heap.get? b = some o := fun b o nb e => by
      cases c : st0 K (cs.map (·.2)) a vs ns b with
      | none => exact un.keep b o e c (fun m => nomatch (show b ∈ ([] : List Addr) from m)) (fun m => nomatch m)
      | some u =>
        rcases is c with ⟨h, _⟩ | ⟨rfl, _, rfl⟩
        · exact absurd h nb
        · have old := (heapOk b _ c).1
          have new := (ok' b _ (un.frzs b _ _ c)).1
          exact new.trans (old.symm.trans e)
    have more : ∀ p ∈ cs, ∃ m : Array Value, s'.heap.get? p.2 = some { cls := .none, data := .fields m } := fun p hp => by
      obtain ⟨m, z⟩ := un.tbls p.2 #[] (if_pos (inT p hp))
      exact ⟨_, ok' p.2 _ z⟩
    refine ⟨rfl, ⟨fun b o e => ?_, fun b o e => ?_⟩, os, bare⟩
    · by_cases hb : b ∈ cs.map (·.2)
      · obtain ⟨p, hp, ep⟩ := List.mem_map.mp hb
        obtain ⟨m, hm⟩ := more p hp
        rw [← ep] at e ⊢
        rw [isT p hp] at e
        cases e
        exact .inr (.inl ⟨((codes p hp).tab (isT p hp)).isCodeTable, rfl, #[], m, rfl, by rw [Array.empty_append]; exact hm⟩)
      · exact .inl (stays b o hb e)
    · by_cases hb : b ∈ cs.map (·.2)
      · obtain ⟨p, hp, ep⟩ := List.mem_map.mp hb
        obtain ⟨m, hm⟩ := more p hp
        rw [← ep]
        exact ⟨_, hm⟩
      · exact ⟨o, stays b o hb e⟩
/-- the facts about the def «law» at the head's heap -/
def LawAt (l : PySem.W.OpenLaw) (w : World) (K : PySem.W.Frag) (n : Nat) (x : Str) (mg : Str → Option Value) (fa : Addr) (h : Heap) : Prop :=
  ∃ (fd : FuncData) (cs : List (Addr × Addr)) (sp : Sp), (∀ p ∈ cs, h.get? p.2 = some { cls := .none, data := .fields #[] }) ∧ (∀ p ∈ cs, K.lookup p.2 = none) ∧ (∀ p ∈ cs, PySem.W.CodeHd h p.1 p.2) ∧ (∀ (s : Shared) (u : Value), BindsTo s fd ⟨[u], []⟩ [(x, u)]) ∧
    (∀ (H : Hp) (a : Addr) (ns : List Int), ns.length ≤ n → (∀ p ∈ cs, H p.2 = some (.tbl #[])) → SqL K H a (ns.map V.int) → sp [.ref a] H (fun v _ => v = .bl true) fun _ _ _ => False) ∧
    ∀ base : Heap, K.In base → base.Ns mainGlobals mg → (∀ p ∈ cs, LamX.TabB base mg p.1 p.2) → LawG l.prog w K mg base fa fd x sp
/-- the law's own code object and its table, in the head's heap -/
def OwnT (fa : Addr) (h : Heap) : Prop := ∃ (c P : Addr) (o : Obj) (fd : FuncData), h.get? fa = some o ∧ o.data = .func fd ∧ fd.code = .ref c ∧ h.get? P = some { cls := .none, data := .fields #[] } ∧ PySem.W.CodeHd h c P
theorem OwnT.at {K : PySem.W.Frag} {fa c P : Addr} {h : Heap} (own : OwnT fa h) (inK : K.In h) {oc kV doc pm ct : Value} {od an : Option Addr} {osl : Array (Option Value)} {name qual : Str} {params : Arguments} {body : List Stmt} {scope : Scope} (look : K.lookup fa = some ⟨oc, od, .func (PySem.W.fnOf name qual params body scope .none kV doc pm an (.ref c) ct), osl⟩)
    {e : Value} {dd : Option Addr} {vs : Array Value} {sl : Array (Option Value)} (lc : K.lookup c = some ⟨e, dd, .fields vs, sl⟩) (at_ : vs[11]? = some (.ref P)) : h.get? P = some { cls := .none, data := .fields #[] } ∧ PySem.W.CodeHd h c P := by
  obtain ⟨c2, P2, o, fd, h1, h2, h3, h4, h5⟩ := own
  cases (inK _ _ look).symm.trans h1
  cases h2
  cases (show Value.ref c = Value.ref c2 from h3)
  obtain ⟨o2, us, file, tf, flags, tg, inF, text, tt, e1, r1, r2, r3, r⟩ := id h5
  cases (inK _ _ lc).symm.trans e1
  cases (show Data.fields vs = Data.fields us from r2)
  cases at_.symm.trans r3
  exact ⟨h4, h5⟩
theorem walk_T {l : PySem.W.OpenLaw} {n : Nat} {q : Program} {loose : List Str} {XP : (Str → Option Value) → Heap → Prop} {YP : World → Heap → Prop} {d : DefRec} {x : Str} (most : l.most = some n) (small : n ≤ sizeLine) (noDef : d.params.defaults = []) (rec_ : ((recsOf q).any fun e => e.name == d.name) = true)
    (F : ∀ (w : World) (mg : Str → Option Value) (fa : Addr) (h : Heap), YP w h → h.Ns mainGlobals mg → mg d.name = some (.ref fa) → ∃ K : PySem.W.Frag, K.In h ∧ (OwnT fa h → LawAt l w K n x mg fa h)) :
    PySem.W.WalkO q loose XP YP l.row.toRowW d [] (fun f vs => PySem.call f vs) := by
  refine Att.attach_callB most noDef fun w s₀ s₁ mg mb fa o pm cd doc a vs ns G Y ho hd hcd hmg obj isI len bits gens => ?_
  obtain ⟨K, inK, go⟩ := F w mg fa _ Y G.T.g hmg
  have own : OwnT fa s₁.heap := by
    obtain ⟨dL, hm, hn⟩ := List.any_eq_true.mp rec_
    have hn2 : dL.name = d.name := beq_iff_eq.mp hn
    obtain ⟨a', o', fd', c', P', h1, h2, h3, h4, h5, h6⟩ := G.T.tab dL hm
    rw [hn2, hmg] at h1
    cases h1
    exact ⟨c', P', o', fd', h2, h3, h4, h6.2, PySem.W.CodeHd.of h5 h6⟩
  obtain ⟨fd, cs, sp, hT, nT, C, hb, hsp, hF⟩ := go own
  exact law_atT inK G.T.g G.T.b G.T.builtins G.T.nolimit gens hT nT C G.T.bmain obj isI (Nat.le_trans len small) hF hb fun H hH hS => hsp H a ns len hH hS
end Fw

set_option linter.all false
set_option maxRecDepth 100000
set_option maxHeartbeats 4000000
namespace Fw
open PySem PySem.Spec PyProof.Rows L2
/-! ### lists that are handed in and changed later: g = [.., ..]; x = f(g[0], ..); g[0][0], .. = .. -/
section
variable {G : Gm} {U : Hp} {pn : Pn} {E : XK} {e : Ev} {σ : L2.St} {H B H' B' H1 B1 : Hp}
theorem Base.subU {U1 : Hp} {p : PenS} (b : Base U pn p H B) (s : Same U1 U) : Base U1 pn p H B := by
  have no : ∀ c, U c = none → U1 c = none := fun c h => by
    cases h1 : U1 c with
    | none => rfl
    | some x => rw [s c x h1] at h; cases h
  refine ⟨b.bh, s.trans b.uh, fun c x h => (b.bu c x h).imp (no c) id, fun q hq => ?_, fun q hq => ?_⟩
  · obtain ⟨h1, h2, h3, h4⟩ := b.pen q hq
    exact ⟨h1, no _ h2, h3, h4⟩
  · obtain ⟨h1, h2⟩ := b.tab q hq
    exact ⟨fun t ht => ⟨(h1 t ht).1, no _ (h1 t ht).2⟩, h2⟩
theorem Rl.subU {U1 : Hp} (r : Rl G U pn e σ H B) (s : Same U1 U) : Rl G U1 pn e σ H B := by
  obtain ⟨b, os, ss, n, f⟩ := r
  refine ⟨b.subU s, os, ss, n, fun q hq => ⟨(f q hq).1, ?_, (f q hq).2.2⟩⟩
  cases h1 : U1 q with
  | none => rfl
  | some x => have := (f q hq).2.1; rw [s q x h1] at this; cases this
structure Nw (G : Gm) (B U U' : Hp) (ps : List Addr) (ds : List D) : Prop where
  len : ps.length = ds.length
  at_ : ∀ (k : Nat) (p : Addr) (d : D), ps[k]? = some p → ds[k]? = some d → U p = none ∧ ∃ xs es, d = .list es ∧ U' p = some (.lst xs) ∧ RzA G B xs es
def CN (G : Gm) (pn : Pn) (E : XK) (ta : TA) (fa : FG (List D)) : Prop := ∀ U e σ H B r p' Q, Rl G U pn e σ H B → fa e = some (r, p') →
  (match r with
    | .v ds => ∀ ps H' B' U', Rl G U' pn ⟨e.sl, p'⟩ σ H' B' → Same B B' → Keep pn H H' → Same U U' → Nw G B' U U' ps ds → Q (ps.map V.ref) H'
    | .x c ns ds => ∀ cls ao H' B', Base U pn p' H' B' → Same B B' → XAt G B' H' cls ao c ns ds → E cls ao H') → ta σ H Q
theorem cn_nil : CN G pn E tNil (retG []) := by
  intro U e σ H B r p' Q rl hf post
  cases hf
  exact post [] H B U rl (Same.refl _) Keep.refl (Same.refl _) ⟨rfl, fun k p d h => by simp at h⟩
def isLst : D → Bool
  | .list _ => true
  | _ => false
def lstOnly (f : FG D) : FG D := bindG f fun d => if isLst d = true then retG d else fun _ => none
theorem cn_cons {t : TE} {u : TA} {f : FG D} {g : FG (List D)} (h1 : CF G pn E t f) (h2 : CN G pn E u g) : CN G pn E (tCons t u) (consG (lstOnly f) g) := by
  intro U e σ H B r p' Q rl hf post
  rcases bind_inv hf with ⟨c, ns, ds, hx, rfl⟩ | ⟨a, q, hx, hg⟩
  · unfold lstOnly at hx
    rcases bind_inv hx with ⟨c', ns', ds', hx', hr⟩ | ⟨a', q', hx', hg'⟩
    · cases hr
      exact h1 U e σ H B _ _ _ rl hx' post
    · split at hg' <;> cases hg'
  · unfold lstOnly at hx
    rcases bind_inv hx with ⟨c', ns', ds', hx', hr⟩ | ⟨a', q', hx', hg'⟩
    · cases hr
    split at hg'
    · next hl =>
      cases hg'
      refine h1 U e σ H B _ _ _ rl hx' fun p H1 B1 fr s1 k1 => ?_
      obtain ⟨o, ho, hno⟩ := fr.o.atC
      obtain ⟨os, ss, nn, ff, np⟩ := fr.s
      obtain ⟨n1, n2, n3⟩ := fr.n
      obtain ⟨es, rfl⟩ : ∃ es, a = .list es := by cases a <;> first | exact ⟨_, rfl⟩ | cases hl
      obtain ⟨xs, hxs, rxs⟩ : ∃ xs, H1 p = some (.lst xs) ∧ RzA G B1 xs es := by
        have z := fr.o
        cases z with
        | lst h hs => exact ⟨_, h, hs⟩
      rw [hxs] at ho
      cases ho
      have rlU : Rl G (upd U p (.lst xs)) pn ⟨e.sl, q'⟩ σ H1 B1 := by
        refine ⟨⟨fr.b.bh, fun a x hx => ?_, fun a x hx => ?_, fun z hz => ?_, fun z hz => ?_⟩, os, ss, nn, fun z hz => ?_⟩
        · by_cases y : a = p
          · rw [y, upd_same] at hx; rw [y, hxs]; exact hx
          · rw [upd_ne y] at hx; exact fr.b.uh a x hx
        · rw [upd_ne (ne_of_none hx n1)]; exact fr.b.bu a x hx
        · obtain ⟨a1, a2, a3, a4⟩ := fr.b.pen z hz
          exact ⟨a1, (upd_ne (fun y => (n3 z hz).1 y.symm)).trans a2, a3, a4⟩
        · obtain ⟨a1, a2, a3⟩ := fr.b.tab z hz
          exact ⟨fun t ht => ⟨(a1 t ht).1, (upd_ne (fun y => (n3 z hz).2 t ht y.symm)).trans (a1 t ht).2⟩, a2, a3⟩
        · obtain ⟨a1, a2, a3⟩ := ff z hz
          exact ⟨a1, (upd_ne (fun y => np (by rw [← y]; exact hz))).trans a2, a3⟩
      have sU : Same U (upd U p (.lst xs)) := same_upd n2
      rcases bind_inv hg with ⟨c, ns, ds, hx2, rfl⟩ | ⟨as, q2, hx2, hg2⟩
      · exact h2 _ ⟨e.sl, q'⟩ σ H1 B1 _ _ _ rlU hx2 fun cls ao H' B' b s x => post cls ao H' B' (b.subU sU) (s1.trans s) x
      · cases hg2
        refine h2 _ ⟨e.sl, q'⟩ σ H1 B1 _ _ _ rlU hx2 fun ps H2 B2 U2 rl2 s2 k2 sU2 nw => ?_
        refine post (p :: ps) H2 B2 U2 rl2 (s1.trans s2) (k1.trans k2) (sU.trans sU2) ⟨congrArg (· + 1) nw.len, fun k p' d hp hd => ?_⟩
        cases k with
        | zero =>
          cases hp
          cases hd
          exact ⟨n2, xs, es, rfl, sU2 _ _ upd_same, rxs.same s2⟩
        | succ k =>
          obtain ⟨m1, m2⟩ := nw.at_ k p' d (by simpa using hp) (by simpa using hd)
          refine ⟨?_, m2⟩
          cases h : U p' with
          | none => rfl
          | some x => rw [sU _ _ h] at m1; cases m1
    · cases hg'
/-- data without lists does not look at lists -/
def cutB (ps : List Addr) (B : Hp) : Hp := fun a => if a ∈ ps then none else B a
theorem cutB_no {ps : List Addr} {a : Addr} (h : a ∉ ps) : cutB ps B a = B a := if_neg h
theorem cutB_sub {ps : List Addr} : Same (cutB ps B) B := fun a o h => by
  unfold cutB at h
  split at h
  · cases h
  · exact h
theorem noL_zip {ks ds : List D} : noLk (ks.zip ds) = true → ks.length = ds.length → noLA ds = true := by
  induction ks generalizing ds with
  | nil => intro _ hl; cases ds with
    | nil => intros; rfl
    | cons => cases hl
  | cons k ks ih =>
    intro h hl
    cases ds with
    | nil => cases hl
    | cons d ds =>
      have h' : (noL d && noLk (ks.zip ds)) = true := h
      simp only [Bool.and_eq_true] at h'
      show (noL d && noLA ds) = true
      rw [h'.1, ih h'.2 (by simpa using hl)]
      rfl
mutual
theorem Rz.drp {ps : List Addr} (hp : ∀ p ∈ ps, ∃ xs, B p = some (.lst xs)) : ∀ {v : V} {d : D}, Rz G B v d → noL d = true → Rz G (cutB ps B) v d
  | _, _, .non, _ => .non
  | _, _, .bl b, _ => .bl b
  | _, _, .int i, _ => .int i
  | _, _, .str x, _ => .str x
  | _, _, .lst h hs, n => by cases n
  | _, _, .tup h hs, n => by
    exact .tup ((cutB_no fun m => by obtain ⟨xs, e⟩ := hp _ m; rw [h] at e; cases e).trans h) (RzA.drp hp hs n)
  | _, _, .kt (ds := ds) h hs, n => .kt h (RzA.drp hp hs (by
      have n' : (noL (.tuple ds) && true) = true := n
      rw [Bool.and_true] at n'
      exact n'))
  | _, _, .dk (ks := ks) (ds := ds) h hs, n => .dk (h.eq (cutB_no fun m => by obtain ⟨xs, e⟩ := hp _ m; rcases h with h | ⟨⟨o, h⟩, _⟩ <;> (rw [h] at e; cases e))) (RzA.drp hp hs (noL_vals n (by rw [← hs.length, List.length_map])))
  | _, _, .dt (ks := ks) (ds := ds) h hs, n => .dt (h.eq (cutB_no fun m => by obtain ⟨xs, e⟩ := hp _ m; rcases h with h | ⟨⟨o, h⟩, _⟩ <;> (rw [h] at e; cases e))) (RzA.drp hp hs (noL_zip (ks := ks.map fun k => keyT k.1) (show noLk ((ks.map fun k => keyT k.1).zip ds) = true from n) (by rw [← hs.length, List.length_map, List.length_map])))
  | _, _, .ins (c := c0) (fs := fs) (ds := ds) h h2 h3 hs, n => .ins ((cutB_no fun m => by obtain ⟨xs, e⟩ := hp _ m; rw [h] at e; cases e).trans h) ((cutB_no fun m => by obtain ⟨xs, e⟩ := hp _ m; rw [h2] at e; cases e).trans h2) h3
      (RzA.drp hp hs (noL_zip (ks := (fs.map (·.1)).map PyData.str) (Bool.and_eq_true_iff.mp (show (noL (.str c0) && noLk (((fs.map (·.1)).map PyData.str).zip ds)) = true from n)).2 (by rw [← hs.length, List.length_map, List.length_map, List.length_map])))
  | _, _, .fn h, _ => .fn h
theorem RzA.drp {ps : List Addr} (hp : ∀ p ∈ ps, ∃ xs, B p = some (.lst xs)) : ∀ {vs : List V} {ds : List D}, RzA G B vs ds → noLA ds = true → RzA G (cutB ps B) vs ds
  | _, _, .nil, _ => .nil
  | _, _, .cons h t, n => by
    have n' := Bool.and_eq_true_iff.mp (show (noL _ && noLA _) = true from n)
    exact .cons (Rz.drp hp h n'.1) (RzA.drp hp t n'.2)
end
theorem ownA_two {x : Option V} {y y' : Slot} : ∀ (σ : L2.St) (ρ : List Slot) (i : Nat), isO (some y) = false → isO (some y') = false → ownA (σ.set i x) (ρ.set i y) = ownA (σ.set i x) (ρ.set i y')
  | [], _, _, _, _ => by rw [List.set_nil]; rfl
  | _ :: _, [], i, _, _ => by rw [List.set_nil, List.set_nil]
  | _ :: σ, _ :: ρ, 0, h, h' => (ownA1_no (x := x) (y := y) (r := ownA σ ρ) h).trans (ownA1_no (x := x) (y := y') (r := ownA σ ρ) h').symm
  | z :: σ, w :: ρ, i + 1, h, h' => congrArg (ownA1 z w) (ownA_two σ ρ i h h')
def okJ (ds : List D) (js : List (Nat × Nat)) : Bool := js.all fun x => match ds[x.1]? with
  | some (.list es) => decide (x.2 < es.length) && decide (es.length ≠ ds.length)
  | _ => false
theorem okJ_at {ds : List D} {js : List (Nat × Nat)} (h : okJ ds js = true) {x : Nat × Nat} (m : x ∈ js) : ∃ es, ds[x.1]? = some (.list es) ∧ x.2 < es.length ∧ es.length ≠ ds.length := by
  have z := List.all_eq_true.mp h x m
  split at z
  · next es he =>
    rw [Bool.and_eq_true, decide_eq_true_eq, decide_eq_true_eq] at z
    exact ⟨es, he, z.1, z.2⟩
  · cases z
def tgs (K : PySem.W.Frag) (i : Nat) : List (Nat × Nat) → TGs
  | [] => gNil
  | x :: r => gCons (gSub (tOp (uIx K) (tVar i) (tC (.int (x.1 : Int)))) (tC (.int (x.2 : Int))) rSetL) (tgs K i r)
def givenS (i j : Nat) (fa : FG (List D)) (fb : FG D) (js : List (Nat × Nat)) (fc : FG D) : FS := fun e => match fa e with
  | some (.v ds, p1) => if (i < e.sl.length ∧ j < e.sl.length ∧ i ≠ j) ∧ ds.length ≤ 1000 then (match fb ⟨e.sl.set i (.d (.list ds)), p1⟩ with
    | some (.v d, p2) => if noL d = true then (match fc ⟨(e.sl.set i .u).set j (.d d), p2⟩ with
      | some (.v (.tuple vs), p3) => if vs.length = js.length ∧ okJ ds js = true then some (.nx, ⟨(e.sl.set i .u).set j (.d d), p3⟩) else none
      | _ => none) else none
    | _ => none) else none
  | _ => none
/-- where the lists stand, while they are written -/
structure Tr (H : Hp) (p : Addr) (refs : List Addr) : Prop where
  p : H p = some (.lst (refs.map V.ref))
theorem at_ref {refs : List Addr} {k : Nat} {a : Addr} (h : refs[k]? = some a) : atI (refs.map V.ref) (k : Int) = some (.ref a) := by
  have l := (List.getElem?_eq_some_iff.mp h).1
  unfold atI ixN
  rw [List.length_map, if_pos (by omega), if_pos (by omega)]
  show (refs.map V.ref)[(k : Int).toNat]? = _
  rw [Int.toNat_natCast, List.getElem?_map, h]
  rfl
theorem ixN_nat {n m : Nat} (h : m < n) : ixN n (m : Int) = some m := by
  unfold ixN
  rw [if_pos (by omega), if_pos (by omega), Int.toNat_natCast]
theorem swap_at {p : Addr} {o o' : HO} (hno : NoC o) (h : U p = some o) (r : Rl G U pn e σ H B) : Rl G (upd U p o') pn e σ (upd H p o') B := by
  have z : U = upd U p o := by
    funext a
    by_cases y : a = p
    · rw [y, upd_same, h]
    · rw [upd_ne y]
  rw [z] at r
  exact (r.swapU (o' := o') hno).1
theorem stores {i : Nat} {p : Addr} {refs : List Addr} : ∀ (js : List (Nat × Nat)) (vs : List V) (U1 : Hp) (H1 : Hp) (Q : L2.St → Hp → Prop), vs.length = js.length → Rl G U1 pn e σ H1 B1 → Same U U1 → σ[i]? = some (some (.ref p)) → U p = none → U1 p = some (.lst (refs.map V.ref)) →
    (∀ x ∈ js, ∃ a ys, refs[x.1]? = some a ∧ a ≠ p ∧ U a = none ∧ U1 a = some (.lst ys) ∧ x.2 < ys.length) → (∀ U2 H2, Rl G U2 pn e σ H2 B1 → Same U U2 → Q σ H2) → tgs G.K i js vs σ H1 Q
  | [], [], U1, H1, Q, _, rl, sU, _, _, _, _, q => ⟨rfl, q U1 H1 rl sU⟩
  | x :: js, v :: vs, U1, H1, Q, hl, rl, sU, hs, hp, hp1, hx, q => by
    obtain ⟨a, ys, h1, h2, h3, h4, h5⟩ := hx x (.head _)
    refine ⟨v, vs, rfl, .ref p, hs, .inl ⟨p, _, _, _, rfl, rfl, SqL.of (rl.b.uh _ _ hp1), at_ref h1, a, ys, _, x.2, rfl, rfl, rl.b.uh _ _ h4, ixN_nat h5, ?_⟩⟩
    refine stores js vs (upd U1 a (.lst (ys.set x.2 v))) _ Q (by simpa using hl) (swap_at noC_lst h4 rl) (fun c o hc => ?_) hs hp (by rw [upd_ne h2.symm]; exact hp1) (fun y hy => ?_) q
    · have : c ≠ a := fun z => by rw [z, h3] at hc; cases hc
      rw [upd_ne this]
      exact sU _ _ hc
    · obtain ⟨b, zs, g1, g2, g3, g4, g5⟩ := hx y (.tail _ hy)
      by_cases hb : b = a
      · subst hb
        cases g4.symm.trans h4
        exact ⟨b, _, g1, g2, g3, upd_same, by rw [List.length_set]; exact g5⟩
      · exact ⟨b, zs, g1, g2, g3, (upd_ne hb).trans g4, g5⟩
  | [], _ :: _, _, _, _, hl, _, _, _, _, _, _, _ => by cases hl
  | _ :: _, [], _, _, _, hl, _, _, _, _, _, _, _ => by cases hl
theorem cs_given {i j : Nat} {ta : TA} {fa : FG (List D)} {tb tc : TE} {fb fc : FG D} {js : List (Nat × Nat)} (ha : CN G pn E ta fa) (hb : CE G pn E tb fb) (hc : CE G pn E tc fc) :
    CS G pn E (tSeq (tAsg (tLst ta) (gName i)) (tSeq (tAsg tb (gName j)) (tAsg tc (gTup G.K js.length (tgs G.K i js))))) (givenS i j fa fb js fc) := by
  intro U e σ H B r e' Dn rl hf post
  unfold givenS at hf
  split at hf
  · next ds p1 hfa =>
    split at hf
    · next hij =>
      obtain ⟨⟨hi, hj, hne⟩, hlen⟩ := hij
      split at hf
      · next d p2 hfb =>
        split at hf
        · next hnl =>
          split at hf
          · next vs p3 hfc =>
            split at hf
            · next hvs =>
              cases hf
              obtain ⟨hvl, hok⟩ := hvs
              refine ha U e σ H B _ _ _ rl hfa fun ps H4 B4 U4 rl4 s4 k4 sU4 nw => ⟨?_, fun p hp => ?_⟩
              · rw [List.length_map, nw.len]
                exact line_of (by omega)
              -- the lists as data, for the call
              have hls : ∀ {σ : L2.St} {ρ : List Slot} {os : List Addr} {H B : Hp}, Slots G pn B H σ ρ os → σ.length = ρ.length := fun s => s.len
              have isP : ∀ q ∈ ps, U q = none ∧ ∃ xs es, U4 q = some (.lst xs) ∧ RzA G B4 xs es := fun q hq => by
                obtain ⟨k, hk⟩ := List.getElem?_of_mem hq
                have hk' := (List.getElem?_eq_some_iff.mp hk).1
                obtain ⟨h1, xs, es, _, h2, h3⟩ := nw.at_ k q _ hk (List.getElem?_eq_getElem (by rw [← nw.len]; exact hk'))
                exact ⟨h1, xs, es, h2, h3⟩
              have bN : ∀ q ∈ ps, B4 q = none := fun q hq => by
                obtain ⟨_, xs, es, h2, _⟩ := isP q hq
                cases hB : B4 q with
                | none => rfl
                | some o => rw [rl4.b.nub h2 (fun xs z => nomatch z)] at hB; cases hB
              have pB : B4 p = none := rl4.b.bh.free hp
              have pU4 : U4 p = none := rl4.b.uh.free hp
              have pU : U p = none := by
                cases hU : U p with
                | none => rfl
                | some o => have := sU4 _ _ hU; rw [pU4] at this; cases this
              have pps : p ∉ ps := fun m => by
                obtain ⟨_, xs, es, h2, _⟩ := isP p m
                rw [pU4] at h2; cases h2
              have rl5 : Rl G (upd U4 p (.lst (ps.map V.ref))) pn ⟨e.sl, p1⟩ σ (upd H4 p (.lst (ps.map V.ref))) B4 := rl4.addU hp
              obtain ⟨B5, hB5⟩ : ∃ B5 : Hp, B5 = fun a => if a = p then some (.lst (ps.map V.ref)) else if a ∈ ps then U4 a else B4 a := ⟨_, rfl⟩
              have b5 : ∀ {a o}, B4 a = some o → B5 a = some o := fun {a o} h => by
                rw [hB5]
                show (if a = p then _ else if a ∈ ps then U4 a else B4 a) = _
                rw [if_neg (ne_of_none h pB), if_neg (show ¬ a ∈ ps from fun m => by rw [bN a m] at h; cases h)]
                exact h
              have b5s : Same B4 B5 := fun a o h => b5 h
              have b5p : B5 p = some (.lst (ps.map V.ref)) := by rw [hB5]; exact if_pos rfl
              have b5q : ∀ q ∈ ps, B5 q = U4 q := fun q m => by
                rw [hB5]
                show (if q = p then _ else if q ∈ ps then U4 q else B4 q) = _
                rw [if_neg (show ¬ q = p from fun z => pps (z ▸ m)), if_pos m]
              have b5n : ∀ a, a ≠ p → a ∉ ps → B5 a = B4 a := fun a h1 h2 => by
                rw [hB5]
                show (if a = p then _ else if a ∈ ps then U4 a else B4 a) = _
                rw [if_neg h1, if_neg h2]
              have base5 : Base U pn p1 (upd H4 p (.lst (ps.map V.ref))) B5 := by
                have bb := rl5.b
                have np := bb.npU (a := p) upd_same
                have npq : ∀ q ∈ ps, NP pn q := fun q m => by
                  obtain ⟨_, xs, es, h2, _⟩ := isP q m
                  exact rl4.b.npU h2
                refine ⟨fun a o h => ?_, fun a o h => bb.uh a o ((upd_ne (ne_of_none (sU4 _ _ h) pU4)).trans (sU4 _ _ h)), fun a o h => ?_, fun q hq => ?_, fun q hq => ?_⟩
                · by_cases z : a = p
                  · rw [z, b5p] at h; rw [z, upd_same]; exact h
                  · rw [upd_ne z]
                    by_cases m : a ∈ ps
                    · rw [b5q a m] at h; exact rl4.b.uh a o h
                    · rw [b5n a z m] at h; exact rl4.b.bh a o h
                · by_cases z : a = p
                  · rw [z]; exact .inl pU
                  · by_cases m : a ∈ ps
                    · exact .inl (isP a m).1
                    · rw [b5n a z m] at h
                      cases hU : U a with
                      | none => exact .inl rfl
                      | some x =>
                        rcases rl4.b.bu _ _ h with y | y
                        · have := sU4 _ _ hU; rw [y] at this; cases this
                        · exact .inr y
                · obtain ⟨h1, h2, h3, h4⟩ := bb.pen q hq
                  refine ⟨?_, ?_, h3, b5 h4⟩
                  · rw [b5n _ (fun z => (np q hq).1 z.symm) (fun m => (npq _ m q hq).1 rfl)]; exact h1
                  · cases hU : U q.1 with
                    | none => rfl
                    | some x => have := rl4.b.pen q hq; rw [sU4 _ _ hU] at this; cases this.2.1
                · obtain ⟨h1, h2, h3, h4⟩ := bb.tab q hq
                  refine ⟨fun t ht => ⟨?_, ?_⟩, h2, h3, h4.trans b5s⟩
                  · rw [b5n _ (fun z => (np q hq).2 t ht z.symm) (fun m => (npq _ m q hq).2 t ht rfl)]; exact (h1 t ht).1
                  · cases hU : U t.1 with
                    | none => rfl
                    | some x => have := ((rl4.b.tab q hq).1 t ht).2; rw [sU4 _ _ hU] at this; cases this
              obtain ⟨os, ss, nn, ff⟩ := rl5.s
              have onp : ∀ q ∈ os, q ≠ p ∧ q ∉ ps := fun q hq => by
                have hU := (ff q hq).2.1
                refine ⟨fun z => (by rw [z, upd_same] at hU; cases hU), fun m => ?_⟩
                obtain ⟨_, xs, es, h2, _⟩ := isP q m
                rw [upd_ne (fun z => by rw [z, upd_same] at hU; cases hU)] at hU
                rw [h2] at hU; cases hU
              have rz5 : Rz G B5 (.ref p) (.list ds) := by
                refine .lst b5p ?_
                have go : ∀ (qs : List Addr) (es : List D), qs.length = es.length → (∀ (k : Nat) (q : Addr) (d : D), qs[k]? = some q → es[k]? = some d → q ∈ ps ∧ ∃ xs fs, d = PyData.list fs ∧ U4 q = some (.lst xs) ∧ RzA G B4 xs fs) → RzA G B5 (qs.map V.ref) es := by
                  intro qs
                  induction qs with
                  | nil => intro es hl _; cases es with
                    | nil => exact .nil
                    | cons => cases hl
                  | cons q qs ih =>
                    intro es hl h
                    cases es with
                    | nil => cases hl
                    | cons d es =>
                      obtain ⟨m, xs, fs, rfl, h2, h3⟩ := h 0 q d rfl rfl
                      exact .cons (.lst ((b5q q m).trans h2) (h3.same b5s)) (ih es (by simpa using hl) fun k q' d' a b => h (k + 1) q' d' (by simpa using a) (by simpa using b))
                exact go ps ds nw.len fun k q d a b => ⟨List.mem_of_getElem? a, (nw.at_ k q d a b).2⟩
              have ss5 : Slots G pn B5 (upd H4 p (.lst (ps.map V.ref))) σ e.sl os := ss.grow b5s fun _ _ => rfl
              have rlB : Rl G U pn ⟨e.sl.set i (.d (.list ds)), p1⟩ (σ.set i (some (.ref p))) (upd H4 p (.lst (ps.map V.ref))) B5 := by
                have r0 : Rl G U pn ⟨e.sl, p1⟩ σ (upd H4 p (.lst (ps.map V.ref))) B5 := by
                  refine ⟨base5, os, ss5, nn, fun q hq => ⟨(b5n q (onp q hq).1 (onp q hq).2).trans (ff q hq).1, ?_, (ff q hq).2.2⟩⟩
                  cases hU : U q with
                  | none => rfl
                  | some x =>
                    have h1 := (ff q hq).2.1
                    rw [upd_ne (onp q hq).1] at h1
                    have := sU4 _ _ hU
                    rw [h1] at this
                    cases this
                exact r0.setD rz5 i
              refine hb U _ _ _ B5 _ _ _ rlB hfb fun v H6 B6 rl6 s6 k6 rz6 => ?_
              -- the lists are lists again
              have np := rl5.b.npU (a := p) upd_same
              have npq : ∀ q ∈ ps, NP pn q := fun q m => by
                obtain ⟨_, xs, es, h2, _⟩ := isP q m
                exact rl4.b.npU h2
              have at6 : ∀ q ∈ p :: ps, ∃ xs, B6 q = some (.lst xs) := fun q m => by
                rcases List.mem_cons.mp m with rfl | m
                · exact ⟨_, s6 _ _ b5p⟩
                · obtain ⟨_, xs, es, h2, _⟩ := isP q m
                  exact ⟨xs, s6 _ _ ((b5q q m).trans h2)⟩
              have c6 : Same B4 (cutB (p :: ps) B6) := fun a o h => by
                rw [cutB_no fun m => by
                  rcases List.mem_cons.mp m with rfl | m
                  · rw [pB] at h; cases h
                  · rw [bN a m] at h; cases h]
                exact s6 _ _ (b5 h)
              obtain ⟨U6, hU6⟩ : ∃ U6 : Hp, U6 = fun a => if a ∈ p :: ps then B6 a else U a := ⟨_, rfl⟩
              have u6i : ∀ a, a ∈ p :: ps → U6 a = B6 a := fun a m => by rw [hU6]; exact if_pos m
              have u6o : ∀ a, a ∉ p :: ps → U6 a = U a := fun a m => by rw [hU6]; exact if_neg m
              have uN : ∀ a ∈ p :: ps, U a = none := fun a m => by
                rcases List.mem_cons.mp m with rfl | m
                · exact pU
                · exact (isP a m).1
              have base6 : Base U6 pn p2 H6 (cutB (p :: ps) B6) := by
                have bb := rl6.b
                have npa : ∀ a ∈ p :: ps, NP pn a := fun a m => by
                  rcases List.mem_cons.mp m with rfl | m
                  · exact np
                  · exact npq a m
                refine ⟨cutB_sub.trans bb.bh, fun a o h => ?_, fun a o h => ?_, fun q hq => ?_, fun q hq => ?_⟩
                · by_cases m : a ∈ p :: ps
                  · rw [u6i a m] at h; exact bb.bh a o h
                  · rw [u6o a m] at h; exact bb.uh a o h
                · by_cases m : a ∈ p :: ps
                  · unfold cutB at h; rw [if_pos m] at h; cases h
                  · rw [u6o a m]; exact bb.bu a o (cutB_sub a o h)
                · obtain ⟨h1, h2, h3, h4⟩ := bb.pen q hq
                  have n1 : q.1 ∉ p :: ps := fun m => (npa _ m q hq).1 rfl
                  refine ⟨(cutB_no n1).trans h1, (u6o _ n1).trans h2, h3, c6 _ _ (rl4.b.pen q hq).2.2.2 |>.trans ?_⟩
                  have e1 := rl4.b.pen q hq
                  have e2 := s6 _ _ (b5 e1.2.2.2)
                  exact e2.symm.trans h4
                · obtain ⟨h1, h2, h3, h4⟩ := bb.tab q hq
                  refine ⟨fun t ht => ?_, h2, h3, (rl4.b.tab q hq).2.2.2.trans c6⟩
                  have n1 : t.1 ∉ p :: ps := fun m => (npa _ m q hq).2 t ht rfl
                  exact ⟨(cutB_no n1).trans (h1 t ht).1, (u6o _ n1).trans (h1 t ht).2⟩
              have keep6 : ∀ q ∈ os, H6 q = upd H4 p (.lst (ps.map V.ref)) q := fun q hq => by
                obtain ⟨o, ho⟩ := ss.there hq
                rw [ho]
                exact k6 _ _ ho (ff q hq).2.2
              obtain ⟨os2, ss2, sb2⟩ := Slots.setU (w := some (.ref p)) i ss
              obtain ⟨os', ss', nn', ff'⟩ := rl6.s
              have eo : os' = os2 := by
                rw [ss'.own, ss2.own]
                exact ownA_two σ e.sl i rfl rfl
              have r6 : Rl G U6 pn ⟨e.sl.set i .u, p2⟩ (σ.set i (some (.ref p))) H6 (cutB (p :: ps) B6) := ⟨base6, os2, ss2.grow c6 fun q hq => keep6 q (sb2.subset hq), sb2.nodup nn, fun q hq => by
                have hq0 := sb2.subset hq
                have nm : q ∉ p :: ps := fun m => (List.mem_cons.mp m).elim (onp q hq0).1 (onp q hq0).2
                obtain ⟨f1, f2, f3⟩ := ff' q (by rw [eo]; exact hq)
                exact ⟨(cutB_no nm).trans f1, (u6o q nm).trans f2, f3⟩⟩
              have rdz : Rz G (cutB (p :: ps) B6) v d := rz6.drp at6 hnl
              have r7 : Rl G U6 pn ⟨(e.sl.set i .u).set j (.d d), p2⟩ ((σ.set i (some (.ref p))).set j (some v)) H6 (cutB (p :: ps) B6) := r6.setD rdz j
              refine hc U6 _ _ H6 _ _ _ _ r7 hfc fun y H8 B8 rl8 s8 k8 rz8 => ?_
              obtain ⟨a, xs, rfl, hx, hr⟩ := rz8.tup_inv
              have hsl : i < σ.length := by rw [ss.len]; exact hi
              refine ⟨a, xs, rfl, same_t rl8.b.bh hx, by rw [hr.length, hvl], ?_⟩
              refine stores (U := U) (p := p) (refs := ps) js xs U6 H8 _ (by rw [hr.length, hvl]) rl8 (fun a o h => ?_) ?_ pU ?_ (fun x m => ?_) fun U9 H9 rl9 s9 => ?_
              · rw [u6o a fun m => by rw [uN a m] at h; cases h]; exact h
              · rw [List.getElem?_set_ne (Ne.symm hne), List.getElem?_set_self hsl]
              · rw [u6i p (.head _)]; exact s6 _ _ b5p
              · obtain ⟨es, h1, h2, h3⟩ := okJ_at hok m
                have hk : x.1 < ps.length := by rw [nw.len]; exact (List.getElem?_eq_some_iff.mp h1).1
                obtain ⟨g1, zs, fs, g2, g3, g4⟩ := nw.at_ x.1 ps[x.1] _ (List.getElem?_eq_getElem hk) h1
                cases g2
                have m2 : ps[x.1] ∈ ps := List.getElem_mem hk
                refine ⟨ps[x.1], zs, List.getElem?_eq_getElem hk, fun z => pps (z ▸ m2), g1, ?_, by rw [g4.length]; exact h2⟩
                rw [u6i _ (.tail _ m2)]
                exact s6 _ _ ((b5q _ m2).trans g3)
              · exact post _ H9 B8 (rl9.subU s9) (s4.trans (c6.trans s8))
            · cases hf
          · cases hf
        · cases hf
      · cases hf
    · cases hf
  · cases hf
theorem cs_seq3 {a b c u : TS} {f g : FS} (h1 : CS G pn E (tSeq a (tSeq b c)) f) (h2 : CS G pn E u g) : CS G pn E (tSeq a (tSeq b (tSeq c u))) (seqS f g) := by
  have h := cs_seq (t := tSeq a (tSeq b c)) h1 h2
  exact h
end
theorem cand_nil {X : Cx} {cx : CXT} : ∀ q ∈ ([] : List (Addr × Sp)), Cand X cx q := fun q h => by cases h
theorem cand_cons {X : Cx} {cx : CXT} {p : Addr × Sp} {L : List (Addr × Sp)} (h : Cand X cx p) (t : ∀ q ∈ L, Cand X cx q) : ∀ q ∈ p :: L, Cand X cx q := fun q m => (List.mem_cons.mp m).elim (fun z => z ▸ h) (t q)
theorem name_in {P : Addr} {q ql nm : Str} (h : q = ql) (hn : nm = ql ++ ("<lambda>" : Str)) : (P, q ++ ("<lambda>" : Str)) ∈ [(P, nm)] := by
  subst h; subst hn
  exact .head _
theorem name_one {P : Addr} {q ql nm : Str} (h : q = ql) (hn : nm = ql ++ ("<lambda>" : Str)) : ∀ p ∈ [(P, nm)], p.1 = P → p.2 = q ++ ("<lambda>" : Str) := fun p hp _ => by
  subst h; subst hn
  cases List.mem_singleton.mp hp
  rfl
theorem units80 {n : Nat} {A : Around} (r : Room n A) : A.units + 80 < cLine := by have := r.un; omega
theorem units70 {n : Nat} {A : Around} (r : Room n A) : A.units + 70 < cLine := by have := r.un; omega
end Fw

set_option linter.all false
set_option maxRecDepth 100000
set_option maxHeartbeats 8000000
namespace Fw
open PySem PySem.Spec PyProof.Rows L2
/-! ### how pieces are put together, at a place -/
section
variable {sl : List Slot} {p p1 p2 : PenS}
theorem cons_at {f : FG D} {g : FG (List D)} {a : D} {as : List D} (hf : f ⟨sl, p⟩ = some (.v a, p1)) (hg : g ⟨sl, p1⟩ = some (.v as, p2)) : consG f g ⟨sl, p⟩ = some (.v (a :: as), p2) := by
  unfold consG Fw.bindG; rw [hf]; dsimp only; rw [hg]; rfl
theorem op2_at {f g : FG D} {φ : D → D → Option D} {a b c : D} (hf : f ⟨sl, p⟩ = some (.v a, p1)) (hg : g ⟨sl, p1⟩ = some (.v b, p2)) (h : φ a b = some c) : op2 φ f g ⟨sl, p⟩ = some (.v c, p2) := by
  unfold op2 Fw.bindG; rw [hf]; dsimp only; rw [hg]; dsimp only; unfold optG; rw [h]; rfl
theorem lst_at {f : FG (List D)} {ds : List D} (hf : f ⟨sl, p⟩ = some (.v ds, p1)) (h : ds.length ≤ 1000000) : lstG f ⟨sl, p⟩ = some (.v (.list ds), p1) := by
  unfold lstG Fw.bindG; rw [hf]; dsimp only; unfold optG few; rw [if_pos h]; rfl
theorem tup_at {f : FG (List D)} {ds : List D} (hf : f ⟨sl, p⟩ = some (.v ds, p1)) (h : ds.length ≤ 1000000) : tupG f ⟨sl, p⟩ = some (.v (.tuple ds), p1) := by
  unfold tupG Fw.bindG; rw [hf]; dsimp only; unfold optG few; rw [if_pos h]; rfl
theorem callP_at {n i : Nat} {F : FF} {f : FG (List D)} {ds : List D} {x : D} (hf : f ⟨sl, p⟩ = some (.v ds, p1)) (hn : ds.length = n) (hp : Fw.isP ⟨sl, p⟩ i = true) (hF : F ds p1 = some (.v x, p2)) :
    callP n i F f ⟨sl, p⟩ = some (.v x, p2) := by
  unfold callP; rw [if_pos hp]; unfold Fw.bindG; rw [hf]; dsimp only; rw [if_pos hn, hF]
theorem asg_at {f : FG D} {x : D} (i : Nat) (hf : f ⟨sl, p⟩ = some (.v x, p1)) : asgS f (nameT i) ⟨sl, p⟩ = some (.nx, ⟨sl.set i (.d x), p1⟩) := by
  unfold asgS thenS; rw [hf]; rfl
theorem ret_at {f : FG D} {x : D} (hf : f ⟨sl, p⟩ = some (.v x, p1)) : retS f ⟨sl, p⟩ = some (.rt x, ⟨sl, p1⟩) := by
  unfold retS thenS; rw [hf]
end
theorem seq_at {f g : FS} {e e1 : Ev} {r : Option (Fl × Ev)} (h : f e = some (.nx, e1)) (h2 : g e1 = r) : seqS f g e = r := by
  unfold seqS; rw [h]; exact h2
theorem forL_nx {ft : FT} {body : FS} {d : D} {ds : List D} {e e1 : Ev} {sl : List Slot} {r : Option (Fl × Ev)} (h : ft d e.sl = some sl) (h1 : body ⟨sl, e.pen⟩ = some (.nx, e1)) (h2 : forL ft body ds e1 = r) : forL ft body (d :: ds) e = r := by
  show (match ft d e.sl with
    | none => none
    | some sl => match body ⟨sl, e.pen⟩ with
      | none => none
      | some (.nx, e') => forL ft body ds e'
      | some (.ct, e') => forL ft body ds e'
      | some (.bk, e') => some (.nx, e')
      | some (.rt d, e') => some (.rt d, e')
      | some (.x c ns xs, e') => some (.x c ns xs, e')) = r
  rw [h]
  dsimp only
  rw [h1]
  exact h2
theorem all_cons {P : D → Prop} {a : D} {l : List D} (h : P a) (h2 : ∀ x ∈ l, P x) : ∀ x ∈ a :: l, P x := fun x hx => by
  cases hx with
  | head => exact h
  | tail _ hx => exact h2 x hx
theorem all_nil {P : D → Prop} : ∀ x ∈ ([] : List D), P x := fun x hx => by cases hx
end Fw

set_option linter.all false
set_option maxRecDepth 100000
set_option maxHeartbeats 4000000
namespace Fw
open PySem PySem.Spec PyProof.Rows L2
/-! ### defs with defaults -/
section
variable {Pr : Program} {wo : World} {K : PySem.W.Frag} {mg : Str → Option Value} {base : Heap} {cx : CXT} {n m : Nat} {f : Addr} {fd : FuncData} {ps N : List Str} {sp : Sp}
theorem fnG_ofD {x qual : Str} {st : Stmt} {dvs : List V} {kws : List (Str × V)} (F : FunD K x qual (defArgs st) (defBody st) (defScope st) dvs kws f fd) (S : FnScope N ps (defScope st)) (len : ∀ ws H Q E, sp ws H Q E → ws.length = ps.length)
    (bd : ∀ (cdv : Value) (A : Around) (fr : List Env) (s : Shared) (H : Hp) (ws : List V) (Q : VK) (E : XK), RoomG n (A.deeper (envOfC qual (defScope st) s.heap.objs.size f cdv)) → sp ws H Q E →
      ∃ t, PSs (cxOf cx Pr wo K mg base N qual (defScope st) f cdv A fr s H E) (defBody st) t ∧ t { nx := fun _ H' => Q .non H', rt := Q } (L2.start N ws) H) : FnG Pr wo K mg base cx (n + 1) f fd ps sp := by
  obtain ⟨_, _, _, _, _, _, _, cdv, _, _, rfl, look, code, _, _⟩ := F.ex
  constructor
  · exact len
  intro A fr s H as us ws Q E room e0 bi rv pre
  have same := len _ _ _ _ pre
  have inK : K.In s.heap := e0.mod.kin.keeps fun b o e => And.left (e0.bs b o e)
  have kinds : ∀ z ∈ ps.zip us, (defScope st).names.lookup z.1 = some .local ∨ ((defScope st).names.lookup z.1 = some .cell ∧ ((cellsFrom (s.heap.objs.size + 1) (defScope st).names []).lookup z.1).isSome = true) := by
    rintro ⟨y, v⟩ hz
    exact (S.par y (List.of_mem_zip hz).1).imp id fun c => ⟨c, PySem.W.cellsFrom_some _ _ _ (Or.inl c)⟩
  refine codeAny_call_function room.r.depth (inK _ _ look) rfl S.co S.gen rfl (PySem.W.codeRec_of inK code) (bi _ _ _ _ (wpAny_newFunctionEnv_cells S.kind kinds ?_))
  rintro env rfl s1 born
  refine ⟨(e0.mod.nolimit.keeps fun b o e => And.left (e0.bs b o e)).keeps born.toInCall.keep, codeAny_func ?_⟩
  obtain ⟨t, runs, post⟩ := bd cdv A fr s H ws Q E (room.deeper _) pre
  have I := inv_start (CX := cx) (E := E) S room.r.hd e0 same rv born
  have out : ∀ (z : V) (y : Value) (σ : L2.St) (H' : Hp) (s' : Shared), Inv (cxOf cx Pr wo K mg base N qual (defScope st) f cdv A fr s H E) [] σ H' s' → RelV z y → Q z H' → L2.CE fr Pr wo H s Q y s' := fun z y σ H' s' J r q => ⟨z, H', J.os, J.bare, J.base, J.hok, r, q⟩
  refine wpAny_mono (runs.run [] s1 (L2.start N ws) H _ I post) (fun fl s' e => ?_) fun _ _ e => e
  match fl, e with
  | .ret y, ⟨z, σ, H', J, r, q⟩ => exact out z y σ H' s' J r q
  | .next, ⟨σ, H', J, q⟩ => exact out .non .none σ H' s' J rfl q
  | .brk, ⟨_, _, _, q⟩ => exact q.elim
  | .cont, ⟨_, _, _, q⟩ => exact q.elim
end
section
variable {G : Gm} {P : Program} {w : World} {K : PySem.W.Frag} {mg : Str → Option Value} {base : Heap}
theorem fn_nD {x qual : Str} {st : Stmt} {f : Addr} {fd : FuncData} {N ps : List Str} {k n : Nat} {pen : Bool} {F : FS} {dvs : List V} {kws : List (Str × V)} (Fn : FunD K x qual (defArgs st) (defBody st) (defScope st) dvs kws f fd) (S : FnScope N ps (defScope st)) (hl : ps.length = (if pen = true then 1 else 0) + n)
    (hbody : ∀ (cdv : Value) (A : Around) (outer : List Env) (s : Shared) (H : Hp) (E : XK), RoomG k (A.deeper (envOfC qual (defScope st) s.heap.objs.size f cdv)) →
      ∃ t, PSs (cxOf CX0 P w K mg base N qual (defScope st) f cdv A outer s H E).nox (defBody st) t ∧ ∀ pn, CS G pn E0 t F) : FnG P w K mg base CX0 (k + 1) f fd ps (spN G pen n (defF pen N.length F)) := by
  refine fnG_ofD Fn S (fun vs H Q E h => by rw [spN_len h, hl]) (fun cdv A outer s H vs Q E hr h => ?_)
  obtain ⟨t, h1, h2⟩ := hbody cdv A outer s H E hr
  exact ⟨t, h1.nox, run_n h2 h⟩
theorem Binds.none_of {fd : FuncData} {ps : List Str} (h : ∃ ds, Vals [] ds ∧ Binds K fd ps ds) : Binds K fd ps [] := by
  obtain ⟨ds, h1, h2⟩ := h
  cases h1
  exact h2
end
/-- the errors that a text catches, told apart -/
theorem Exm.of {G : Gm} (L : List (Str × Addr)) (hx : ∀ p ∈ L, G.X p.1 = some p.2) (h : ∀ p ∈ L, ∀ q ∈ L, PySem.W.exmOne G.K (.ref p.2) (.ref q.2) = some (decide (p.1 = q.1))) : Exm G (L.map (·.1)) := by
  intro c hc c' hc' C C' e e'
  obtain ⟨p, hp, rfl⟩ := List.mem_map.mp hc
  obtain ⟨q, hq, rfl⟩ := List.mem_map.mp hc'
  rw [hx p hp] at e
  rw [hx q hq] at e'
  cases e
  cases e'
  exact h p hp q hq
end Fw
namespace Sb
open PySem PySem.Spec PyProof.Rows L2
/-! ### the error classes of the text -/
abbrev veT : List Value := [.type "ValueError", .type "Exception", .type "BaseException", .type "object"]
structure Err (K : PySem.W.Frag) (mg : Str → Option Value) (bm : List Value) (nm : Str) (C : Addr) : Prop where
  g : mg nm = some (.ref C)
  lk : ∃ q N bs sn sub ab col dd k0 k1 k2 k3 k5, K.lookup C = some (excClassObj nm q C N bs bm true sn sub ab col dd k0 k1 k2 k3 k5 "ValueError.__new__")
  sa : PySem.W.findIn K (.ref C) "__setattr__" = some (some (.builtin "object.__setattr__"))
  ga : PySem.W.findIn K (.ref C) "__getattribute__" = some (some (.builtin "BaseException.__getattribute__"))
  gg : PySem.W.findIn K (.ref C) "__getattr__" = some none
  ha : PySem.W.findIn K (.ref C) "__class__" = some (some (.builtin "object.__class__"))
  kC : PySem.W.keepIn K (.ref C) = true
  hn : PySem.W.specialIn K (.builtin "object.__class__") "__get__" = some (some (.builtin "getset_descriptor.__get__"))
  ht : PySem.W.takesIn K (.builtin "object.__class__") = some true
section
variable {K : PySem.W.Frag} {mg : Str → Option Value} {bm bm2 : List Value} {nm nm2 : Str} {C D : Addr}
theorem Err.cls (T : Err K mg bm nm C) : ∃ cd, PySem.W.clsIn K C = some cd ∧ cd.mro = .ref C :: bm ∧ cd.hasDict = true ∧ cd.name = nm := by
  obtain ⟨q, N, bs, sn, sub, ab, col, dd, k0, k1, k2, k3, k5, h⟩ := T.lk
  refine ⟨{ name := nm, bases := bs, mro := .ref C :: bm, ns := N, qualname := q, hasDict := true, slotNames := sn, subclasses := sub, abstract := ab, collection := col, hasDel := false }, ?_, rfl, rfl, rfl⟩
  unfold PySem.W.clsIn
  rw [h] <;> rfl
theorem Err.mro (T : Err K mg bm nm C) (x : Value) : PySem.W.mroIn K C x = some ((Value.ref C :: bm).contains x) := by
  obtain ⟨cd, h, hm, _⟩ := T.cls
  unfold PySem.W.mroIn
  rw [h]
  show (if cd.mro.isEmpty then none else some (cd.mro.contains x)) = _
  rw [hm]
  rfl
theorem Err.isc (T : Err K mg bm nm C) : PySem.W.isClsIn K C = true := by
  obtain ⟨cd, h, _⟩ := T.cls
  unfold PySem.W.isClsIn
  rw [h]
  rfl
theorem Err.hd (T : Err K mg bm nm C) : PySem.W.hasDictIn K C = true := by
  obtain ⟨cd, h, _, hd, _⟩ := T.cls
  unfold PySem.W.hasDictIn
  rw [h]
  exact hd
theorem Err.ty (T : Err K mg bm nm C) : PySem.W.typeIn K (.ref C) = some (.type "type") := by
  obtain ⟨q, N, bs, sn, sub, ab, col, dd, k0, k1, k2, k3, k5, h⟩ := T.lk
  show (K.lookup C).map (·.cls) = _
  rw [h]
  rfl
theorem Err.su (T : Err K mg bm nm C) (h : bm.contains (.type "BaseException") = true) : PySem.W.subIn K (.ref C) (.type "BaseException") = some true := by
  show PySem.W.mroIn K C _ = _
  rw [T.mro, List.contains_cons, h, Bool.or_true]
theorem Err.oex (T : Err K mg bm nm C) (h : bm.contains (.type "BaseException") = true) (hr : PySem.HandSPX.refsVE bm = true) : OexC K C := by
  obtain ⟨q, N, bs, sn, sub, ab, col, dd, k0, k1, k2, k3, k5, h1⟩ := id T.lk
  exact ⟨⟨nm, q, N, bs, bm, sn, sub, ab, col, dd, k0, k1, k2, k3, k5, h1, hr⟩, T.sa, T.su h, T.ty, T.kC⟩
end
theorem hasB {S : Addr} : (Value.ref S :: veT).contains (.type "BaseException") = true := by rw [List.contains_cons, show veT.contains (.type "BaseException") = true from by decide +kernel, Bool.or_true]
theorem refsS {S : Addr} : PySem.HandSPX.refsVE (.ref S :: veT) = true := by
  show PySem.HandSPX.refsVE veT = true
  decide +kernel
theorem Err.xf {K : PySem.W.Frag} {mg : Str → Option Value} {bm : List Value} {nm : Str} {C : Addr} (T : Err K mg bm nm C) (h : bm.contains (.type "BaseException") = true) : XfC K C := ⟨T.ga, T.gg, T.su h, T.hd⟩
end Sb

set_option linter.all false
set_option maxRecDepth 100000
set_option maxHeartbeats 4000000
namespace Fw
open PySem PySem.Spec PyProof.Rows L2
/-! ### len(set(..)) of numbers: how many unlike ones -/
def ddI : List Int → List Int
  | [] => []
  | x :: xs => if x ∈ xs then ddI xs else x :: ddI xs
theorem ddI_mem {y : Int} : ∀ {xs : List Int}, y ∈ ddI xs ↔ y ∈ xs
  | [] => Iff.rfl
  | x :: xs => by
    unfold ddI
    split
    · next h =>
      rw [ddI_mem (xs := xs), List.mem_cons]
      exact ⟨.inr, fun z => z.elim (fun e => e ▸ h) id⟩
    · rw [List.mem_cons, List.mem_cons, ddI_mem (xs := xs)]
theorem ddI_nodup : ∀ {xs : List Int}, (ddI xs).Nodup
  | [] => List.nodup_nil
  | x :: xs => by
    unfold ddI
    split
    · exact ddI_nodup
    · next h => exact List.nodup_cons.mpr ⟨fun z => h (ddI_mem.mp z), ddI_nodup⟩
theorem ddI_only {ks ns : List Int} (h : ks.Nodup) (m : ∀ k, k ∈ ks ↔ k ∈ ns) : ks.length = (ddI ns).length :=
  ((List.perm_ext_iff_of_nodup h ddI_nodup).mpr fun a => (m a).trans ddI_mem.symm).length_eq
theorem met_nodup (f : Nat → Int) : ∀ n, (firstMet f n).Nodup
  | 0 => by rw [firstMet_zero]; exact List.nodup_nil
  | n + 1 => by
    rw [firstMet_succ]
    unfold step_dedup
    split
    · exact met_nodup f n
    · next h =>
      refine List.nodup_append.mpr ⟨met_nodup f n, List.nodup_cons.mpr ⟨fun z => (nomatch z), List.nodup_nil⟩, fun a ha b hb e => ?_⟩
      rw [List.mem_singleton.mp hb] at e
      exact h (List.any_eq_true.mpr ⟨a, ha, by rw [e]; exact beq_self_eq_true _⟩)
theorem any_mem {k : Int} {l : List Int} : l.any (· == k) = true ↔ k ∈ l := by
  rw [List.any_eq_true]
  exact ⟨fun ⟨x, h1, h2⟩ => eq_of_beq h2 ▸ h1, fun h => ⟨k, h, beq_self_eq_true _⟩⟩
theorem range_get (ns : List Int) : (List.range ns.length).map (fun i => ns.getD i 0) = ns := by
  apply List.ext_getElem
  · rw [List.length_map, List.length_range]
  · intro i h1 h2
    rw [List.getElem_map, List.getElem_range, List.getD_eq_getElem?_getD, List.getElem?_eq_getElem h2] <;> rfl
theorem met_mem {ns : List Int} {k : Int} : k ∈ firstMet (fun i => ns.getD i 0) ns.length ↔ k ∈ ns := by
  rw [← any_mem, firstMet_any, range_get, any_mem]
def uLenS (K : PySem.W.Frag) : List V → Hp → VK → Prop := fun xs H Q => ∃ (l : Addr) (ns : List Int), xs = [.ref l] ∧ (SqL K H l (ns.map V.int) ∨ SqT K H l (ns.map V.int)) ∧ ns.length ≤ 4000 ∧ Q (.int ((ddI ns).length : Nat)) H
theorem pe_lenS {X : Cx} {a : Expr} {ta : TE} {p p2 q pos : Pos} (hg : Gl X "len") (hm : X.mg "len" = none) (hg2 : Gl X "set") (hm2 : X.mg "set" = none) (ha : PE X a ta) (hc : X.calm = true := by rfl)
    (na : starEach [a] X.env = (false, eval a X.env) :: starEach [] X.env := by rfl) : PE X (.Call (.Name "len" p) [.Call (.Name "set" p2) [a] [] q] [] pos) (tCB (uLenS X.K) (tCons ta tNil)) := by
  constructor
  intro pins s σ H Q I h
  refine Call_ (ld_blt I hg hm boot_len ?_)
  refine PyProof.Rows.callWith_builtin1 (PyProof.Rows.args_cons ?_ rfl) rfl rfl
  refine Call_ (ld_blt I hg2 hm2 boot_set ?_)
  refine PyProof.Rows.callWith_type1 (PyProof.Rows.args_cons (thn (ha.run pins s σ H _ I h) fun v s1 => ?_) na) na rfl
  rintro ⟨x, H1, J, rx, l, ns, e, sq, most, post⟩
  cases e
  cases rx
  refine PyProof.Rows.args_nil ?_
  rcases sq with sq | sq
  · obtain ⟨its, rv, here, _⟩ := J.list sq
    have size : its.toArray.size = ns.length := by rw [List.size_toArray, ← rv.length, List.length_map]
    refine call_set_list (J.ok.hd hc) here.isList (by simpa using RZ.intsAre_vals rv) (by rw [size]; unfold scanBound; omega) fun h' tk made kept => ?_
    refine PyProof.Rows.args_nil ?_
    rw [size] at made
    obtain ⟨o, es, ep, t, get, ex, dat, _, _, _, fits, num⟩ := made
    have J2 : Inv X pins σ H1 { s1 with heap := h', toks := tk } := J.kept fun b o e => kept b o (Heap.lt_size e) e
    have len : (firstMet (fun i => ns.getD i 0) ns.length).length = (ddI ns).length := ddI_only (met_nodup _ _) fun k => met_mem
    have le : (firstMet (fun i => ns.getD i 0) ns.length).length ≤ ns.length := firstMet_length_le _ _
    exact call_len_set get ex dat fits (by rw [num] <;> omega) ⟨.int (ddI ns).length, H1, J2.tok _, ⟨_, by rw [num, len]⟩, post⟩
  · obtain ⟨its, rv, here, _⟩ := J.tuple sq
    have here2 := here
    refine call_set_tupI ns (J.ok.hd hc) here (by simpa using RZ.intsAre_vals rv) (by unfold scanBound; omega) fun h' tk c made le kept => ?_
    refine PyProof.Rows.args_nil ?_
    obtain ⟨o, es, ep, t, get, ex, dat, _, nodup, mem, bound, fits, num, _⟩ := made
    have J2 : Inv X pins σ H1 { s1 with heap := h', toks := tk } := J.kept fun b o e => kept b o e
    have len : es.size = (ddI ns).length := by
      rw [← ddI_only nodup fun k => (mem k).symm.trans ⟨of_decide_eq_true, decide_eq_true⟩, List.length_map, Array.length_toList]
    exact call_len_set get ex dat fits (by omega) ⟨.int (ddI ns).length, H1, J2.tok _, ⟨_, by rw [len]⟩, post⟩
def dLenS : D → Option D
  | .list ds => (intsD ds).bind fun ns => if ns.length ≤ 4000 then some (.int (ddI ns).length) else none
  | .tuple ds => (intsD ds).bind fun ns => if ns.length ≤ 4000 then some (.int (ddI ns).length) else none
  | _ => none
section
variable {G : Gm} {U : Hp} {pn : Pn} {E : XK} {e : Ev} {σ : L2.St} {H B H' B' H1 B1 : Hp}
theorem b_lenS : Cb1 G pn (uLenS G.K) dLenS := by
  intro U e σ H B x a c Q rl ra h q
  unfold dLenS at h
  split at h
  · obtain ⟨ns, hn, h2⟩ := Option.bind_eq_some_iff.mp h
    split at h2
    · next most =>
      cases h2
      obtain ⟨a1, xs, rfl, h1, n1, r1⟩ := ra.lst_inv
      obtain rfl := r1.ints_inv hn
      exact ⟨a1, ns, rfl, .inl (SqL.of h1), most, q _ H B rl (Same.refl _) Keep.refl (.int _)⟩
    · cases h2
  · obtain ⟨ns, hn, h2⟩ := Option.bind_eq_some_iff.mp h
    split at h2
    · next most =>
      cases h2
      obtain ⟨a1, xs, rfl, h1, r1⟩ := ra.tup_inv
      obtain rfl := r1.ints_inv hn
      exact ⟨a1, ns, rfl, .inr (same_t rl.b.bh h1), most, q _ H B rl (Same.refl _) Keep.refl (.int _)⟩
    · cases h2
  · cases h
end
/-! ### where self stands, in a comprehension -/
theorem wipe_sw {a : Addr} {sl : List Slot} : ∀ {vs : List Nat}, wipeS (sl.map (swS a)) vs = (wipeS sl vs).map (swS a)
  | [] => rfl
  | v :: vs => by
    show (wipeS (sl.map (swS a)) vs).set v .u = ((wipeS sl vs).set v .u).map (swS a)
    rw [wipe_sw, List.map_set]
    rfl
theorem isO_sw {a : Addr} {sl : List Slot} {v : Nat} : isO (sl.map (swS a))[v]? = isO sl[v]? := by
  rw [List.getElem?_map]
  cases sl[v]? with
  | none => rfl
  | some s => cases s <;> rfl
theorem mg_lcL {a : Addr} {sl : List Slot} {ft : FT} {test : FG Bool} {elt : FG D} (ht : Mt ft) (h1 : Mg test) (h2 : Mg elt) : ∀ (ds : List D) (p : PenS), lcL (sl.map (swS a)) ft test elt ds p = lcL sl ft test elt ds p
  | [], _ => rfl
  | d :: ds, p => by
    unfold lcL
    rw [ht a d sl]
    cases ft d sl with
    | none => rfl
    | some s2 =>
      rw [Option.map_some]
      dsimp only
      rw [show test ⟨s2.map (swS a), p⟩ = test ⟨s2, p⟩ from h1 a ⟨s2, p⟩]
      have e2 : ∀ p1, elt ⟨s2.map (swS a), p1⟩ = elt ⟨s2, p1⟩ := fun p1 => h2 a ⟨s2, p1⟩
      simp only [e2, mg_lcL ht h1 h2 ds]
theorem mg_lc {vs : List Nat} {fi : FG (List D)} {ft : FT} {test : FG Bool} {elt : FG D} (h : Mg fi) (ht : Mt ft) (h1 : Mg test) (h2 : Mg elt) : Mg (lcG vs fi ft test elt) := mg_bind h fun ds a e => by
  have e1 : (vs.any fun v => isO (sw a e).sl[v]?) = vs.any fun v => isO e.sl[v]? := by
    congr 1
    funext v
    exact isO_sw
  rw [e1]
  show (if _ then none else match lcL (wipeS (e.sl.map (swS a)) vs) ft test elt ds e.pen with | none => none | some (xs, p) => _) = _
  rw [wipe_sw, mg_lcL ht h1 h2]
  all_goals rfl
end Fw

set_option linter.all false
set_option maxRecDepth 100000
set_option maxHeartbeats 4000000
namespace Fw
open PySem PySem.Spec PyProof.Rows L2
/-! ### lists, and lists of lists, that are handed in and changed later -/
section
variable {G : Gm} {U : Hp} {pn : Pn} {E : XK} {e : Ev} {σ : L2.St} {H B H' B' H1 B1 : Hp}
inductive Jx where
  | flat (k l : Nat) | deep (k l n : Nat)
  deriving DecidableEq
def hdL : D → Bool
  | .list (.list _ :: _) => true
  | _ => false
def LF (G : Gm) (B U' : Hp) (p : Addr) (d : D) : Prop := ∃ xs es, d = .list es ∧ U' p = some (.lst xs) ∧ RzA G B xs es
def LN (G : Gm) (B U' : Hp) (qs : List Addr) (p : Addr) (d : D) : Prop := (hdL d = false ∧ LF G B U' p d) ∨ (hdL d = true ∧ ∃ (rs : List Addr) (es : List D), d = .list es ∧ U' p = some (.lst (rs.map V.ref)) ∧ rs.length = es.length ∧
  ∀ (k : Nat) (q : Addr) (d' : D), rs[k]? = some q → es[k]? = some d' → q ∈ qs ∧ LF G B U' q d')
structure Nw2 (G : Gm) (B U U' : Hp) (ps qs : List Addr) (ds : List D) : Prop where
  len : ps.length = ds.length
  fr : ∀ q ∈ ps ++ qs, U q = none ∧ ∃ xs, U' q = some (.lst xs)
  at_ : ∀ (k : Nat) (p : Addr) (d : D), ps[k]? = some p → ds[k]? = some d → LN G B U' qs p d
  nd : ps.Nodup
  dj : ∀ q ∈ qs, q ∉ ps
def CN2 (G : Gm) (pn : Pn) (E : XK) (ta : TA) (fa : FG (List D)) : Prop := ∀ U e σ H B r p' Q, Rl G U pn e σ H B → fa e = some (r, p') →
  (match r with
    | .v ds => ∀ ps qs H' B' U', Rl G U' pn ⟨e.sl, p'⟩ σ H' B' → Same B B' → Keep pn H H' → Same U U' → Nw2 G B' U U' ps qs ds → Q (ps.map V.ref) H'
    | .x c ns ds => ∀ cls ao H' B', Base U pn p' H' B' → Same B B' → XAt G B' H' cls ao c ns ds → E cls ao H') → ta σ H Q
theorem cn2_nil : CN2 G pn E tNil (retG []) := by
  intro U e σ H B r p' Q rl hf post
  cases hf
  exact post [] [] H B U rl (Same.refl _) Keep.refl (Same.refl _) ⟨rfl, (fun q h => by cases h), (fun k p d h => by simp at h), List.nodup_nil, fun q h => by cases h⟩
theorem LF.up {B2 U2 : Hp} {p : Addr} {d : D} (h : LF G B U p d) (s : Same B B2) (s2 : Same U U2) : LF G B2 U2 p d := by
  obtain ⟨xs, es, h1, h2, h3⟩ := h
  exact ⟨xs, es, h1, s2 _ _ h2, h3.same s⟩
theorem LN.more {qs rs : List Addr} {p : Addr} {d : D} (h : LN G B U qs p d) (s : ∀ q ∈ qs, q ∈ rs) : LN G B U rs p d := by
  rcases h with h | ⟨h0, a, es, h1, h2, h3, h4⟩
  · exact .inl h
  · exact .inr ⟨h0, a, es, h1, h2, h3, fun k q d' x y => ⟨s q (h4 k q d' x y).1, (h4 k q d' x y).2⟩⟩
theorem not_some {a : Addr} {U1 : Hp} (s : Same U U1) (h : U1 a = none) : U a = none := by
  cases z : U a with
  | none => rfl
  | some x => rw [s _ _ z] at h; cases h
def lstFlat (f : FG D) : FG D := bindG f fun d => if isLst d = true ∧ hdL d = false then retG d else fun _ => none
def nestG (f : FG (List D)) : FG D := bindG f fun ds => if 0 < ds.length ∧ ds.length ≤ 1000 then retG (.list ds) else fun _ => none
theorem cn2_flat {t : TE} {u : TA} {f : FG D} {g : FG (List D)} (h1 : CF G pn E t f) (h2 : CN2 G pn E u g) : CN2 G pn E (tCons t u) (consG (lstFlat f) g) := by
  intro U e σ H B r p' Q rl hf post
  rcases bind_inv hf with ⟨c, ns, ds, hx, rfl⟩ | ⟨a, q, hx, hg⟩
  · unfold lstFlat at hx
    rcases bind_inv hx with ⟨c', ns', ds', hx', hr⟩ | ⟨a', q', hx', hg'⟩
    · cases hr
      exact h1 U e σ H B _ _ _ rl hx' post
    · split at hg' <;> cases hg'
  · unfold lstFlat at hx
    rcases bind_inv hx with ⟨c', ns', ds', hx', hr⟩ | ⟨a', q', hx', hg'⟩
    · cases hr
    split at hg'
    · next hl =>
      cases hg'
      refine h1 U e σ H B _ _ _ rl hx' fun p H1 B1 fr s1 k1 => ?_
      obtain ⟨o, ho, hno⟩ := fr.o.atC
      obtain ⟨os, ss, nn, ff, np⟩ := fr.s
      obtain ⟨n1, n2, n3⟩ := fr.n
      obtain ⟨es, rfl⟩ : ∃ es, a = .list es := by cases a <;> first | exact ⟨_, rfl⟩ | cases hl.1
      obtain ⟨xs, hxs, rxs⟩ : ∃ xs, H1 p = some (.lst xs) ∧ RzA G B1 xs es := by
        have z := fr.o
        cases z with
        | lst h hs => exact ⟨_, h, hs⟩
      rw [hxs] at ho
      cases ho
      have rlU : Rl G (upd U p (.lst xs)) pn ⟨e.sl, q'⟩ σ H1 B1 := by
        refine ⟨⟨fr.b.bh, fun a x hx => ?_, fun a x hx => ?_, fun z hz => ?_, fun z hz => ?_⟩, os, ss, nn, fun z hz => ?_⟩
        · by_cases y : a = p
          · rw [y, upd_same] at hx; rw [y, hxs]; exact hx
          · rw [upd_ne y] at hx; exact fr.b.uh a x hx
        · rw [upd_ne (ne_of_none hx n1)]; exact fr.b.bu a x hx
        · obtain ⟨a1, a2, a3, a4⟩ := fr.b.pen z hz
          exact ⟨a1, (upd_ne (fun y => (n3 z hz).1 y.symm)).trans a2, a3, a4⟩
        · obtain ⟨a1, a2, a3⟩ := fr.b.tab z hz
          exact ⟨fun t ht => ⟨(a1 t ht).1, (upd_ne (fun y => (n3 z hz).2 t ht y.symm)).trans (a1 t ht).2⟩, a2, a3⟩
        · obtain ⟨a1, a2, a3⟩ := ff z hz
          exact ⟨a1, (upd_ne (fun y => np (by rw [← y]; exact hz))).trans a2, a3⟩
      have sU : Same U (upd U p (.lst xs)) := same_upd n2
      rcases bind_inv hg with ⟨c, ns, ds, hx2, rfl⟩ | ⟨as, q2, hx2, hg2⟩
      · exact h2 _ ⟨e.sl, q'⟩ σ H1 B1 _ _ _ rlU hx2 fun cls ao H' B' b s x => post cls ao H' B' (b.subU sU) (s1.trans s) x
      · cases hg2
        refine h2 _ ⟨e.sl, q'⟩ σ H1 B1 _ _ _ rlU hx2 fun ps qs H2 B2 U2 rl2 s2 k2 sU2 nw => ?_
        have ne : ∀ q ∈ ps ++ qs, q ≠ p := fun q m z => by
          have := (nw.fr q m).1
          rw [z, upd_same] at this; cases this
        refine post (p :: ps) qs H2 B2 U2 rl2 (s1.trans s2) (k1.trans k2) (sU.trans sU2) ⟨congrArg (· + 1) nw.len, fun q m => ?_, fun k p' d hp hd => ?_, List.nodup_cons.mpr ⟨fun m => ne p (List.mem_append_left _ m) rfl, nw.nd⟩, fun q m z => ?_⟩
        · rcases List.mem_cons.mp m with rfl | m
          · exact ⟨n2, xs, sU2 _ _ upd_same⟩
          · exact ⟨not_some sU (nw.fr q m).1, (nw.fr q m).2⟩
        · cases k with
          | zero =>
            cases hp
            cases hd
            exact .inl ⟨hl.2, xs, es, rfl, sU2 _ _ upd_same, rxs.same s2⟩
          | succ k => exact nw.at_ k p' d (by simpa using hp) (by simpa using hd)
        · rcases List.mem_cons.mp z with rfl | z
          · exact ne q (List.mem_append_right _ m) rfl
          · exact nw.dj q m z
    · cases hg'
theorem cn2_nest {tb u : TA} {fb g : FG (List D)} (h1 : CN G pn E tb fb) (hflat : ∀ e ds p, fb e = some (.v ds, p) → ∀ d ∈ ds, isLst d = true) (h2 : CN2 G pn E u g) : CN2 G pn E (tCons (tLst tb) u) (consG (nestG fb) g) := by
  intro U e σ H B r p' Q rl hf post
  rcases bind_inv hf with ⟨c, ns, ds, hx, rfl⟩ | ⟨a, q, hx, hg⟩
  · unfold nestG at hx
    rcases bind_inv hx with ⟨c', ns', ds', hx', hr⟩ | ⟨a', q', hx', hg'⟩
    · cases hr
      exact h1 U e σ H B _ _ _ rl hx' post
    · split at hg' <;> cases hg'
  · unfold nestG at hx
    rcases bind_inv hx with ⟨c', ns', ds', hx', hr⟩ | ⟨es, q', hx', hg'⟩
    · cases hr
    split at hg'
    · next hl =>
      cases hg'
      refine h1 U e σ H B _ _ _ rl hx' fun rs H1 B1 U1 rl1 s1 k1 sU1 nw => ⟨?_, fun p hp => ?_⟩
      · rw [List.length_map, nw.len]
        exact line_of (by omega)
      have pU1 : U1 p = none := rl1.b.uh.free hp
      have rl2 : Rl G (upd U1 p (.lst (rs.map V.ref))) pn ⟨e.sl, q'⟩ σ (upd H1 p (.lst (rs.map V.ref))) B1 := rl1.addU hp
      have sU2 : Same U1 (upd U1 p (.lst (rs.map V.ref))) := same_upd pU1
      have hin : ∀ r ∈ rs, U r = none ∧ ∃ xs, U1 r = some (.lst xs) := fun r m => by
        obtain ⟨k, hk⟩ := List.getElem?_of_mem m
        have hk' := (List.getElem?_eq_some_iff.mp hk).1
        obtain ⟨z1, xs, fs, _, z2, _⟩ := nw.at_ k r _ hk (List.getElem?_eq_getElem (by rw [← nw.len]; exact hk'))
        exact ⟨z1, xs, z2⟩
      have hh : hdL (.list es) = true := by
        cases es with
        | nil => cases hl.1
        | cons d es =>
          have := hflat _ _ _ hx' d (.head _)
          cases d <;> first | rfl | cases this
      rcases bind_inv hg with ⟨c, ns, ds, hx2, rfl⟩ | ⟨as, q2, hx2, hg2⟩
      · exact h2 _ ⟨e.sl, q'⟩ σ _ B1 _ _ _ rl2 hx2 fun cls ao H' B' b s x => post cls ao H' B' (b.subU (sU1.trans sU2)) (s1.trans s) x
      · cases hg2
        refine h2 _ ⟨e.sl, q'⟩ σ _ B1 _ _ _ rl2 hx2 fun ps qs H2 B2 U2 rl3 s2 k2 sU3 nw2 => ?_
        have ne : ∀ q ∈ ps ++ qs, q ≠ p := fun q m z => by
          have := (nw2.fr q m).1
          rw [z, upd_same] at this; cases this
        have rp : ∀ r ∈ rs, r ≠ p := fun r m z => by
          obtain ⟨_, xs, h⟩ := hin r m
          rw [z, pU1] at h; cases h
        have rn : ∀ r ∈ rs, r ∉ ps := fun r m z => by
          obtain ⟨_, xs, h⟩ := hin r m
          have := (nw2.fr r (List.mem_append_left _ z)).1
          rw [upd_ne (rp r m), h] at this; cases this
        have up : ∀ r xs, r ∈ rs → U1 r = some (.lst xs) → U2 r = some (.lst xs) := fun r xs m h => sU3 _ _ ((upd_ne (rp r m)).trans h)
        refine post (p :: ps) (rs ++ qs) H2 B2 U2 rl3 (s1.trans s2) (k1.trans ((Keep.of (same_upd hp)).trans k2)) (sU1.trans (sU2.trans sU3)) ⟨congrArg (· + 1) nw2.len, fun q m => ?_, fun k p' d hp' hd => ?_, List.nodup_cons.mpr ⟨fun m => ne p (List.mem_append_left _ m) rfl, nw2.nd⟩, fun q m z => ?_⟩
        · rcases List.mem_cons.mp m with rfl | m
          · exact ⟨not_some sU1 pU1, _, sU3 _ _ upd_same⟩
          · rcases List.mem_append.mp m with m | m
            · exact ⟨not_some (sU1.trans sU2) (nw2.fr q (List.mem_append_left _ m)).1, (nw2.fr q (List.mem_append_left _ m)).2⟩
            · rcases List.mem_append.mp m with m | m
              · obtain ⟨z1, xs, z2⟩ := hin q m
                exact ⟨z1, xs, up q xs m z2⟩
              · exact ⟨not_some (sU1.trans sU2) (nw2.fr q (List.mem_append_right _ m)).1, (nw2.fr q (List.mem_append_right _ m)).2⟩
        · cases k with
          | zero =>
            cases hp'
            cases hd
            refine .inr ⟨hh, rs, es, rfl, sU3 _ _ upd_same, nw.len, fun k q d' x y => ?_⟩
            have m : q ∈ rs := List.mem_of_getElem? x
            obtain ⟨_, xs, fs, z1, z2, z3⟩ := nw.at_ k q d' x y
            exact ⟨List.mem_append_left _ m, xs, fs, z1, up q xs m z2, z3.same s2⟩
          | succ k => exact (nw2.at_ k p' d (by simpa using hp') (by simpa using hd)).more fun q m => List.mem_append_right _ m
        · rcases List.mem_append.mp m with m | m
          · rcases List.mem_cons.mp z with rfl | z
            · exact rp q m rfl
            · exact rn q m z
          · rcases List.mem_cons.mp z with rfl | z
            · exact ne q (List.mem_append_right _ m) rfl
            · exact nw2.dj q m z
    · cases hg'
theorem allL_nil : ∀ (e : Ev) (ds : List D) (p : PenS), (retG [] : FG (List D)) e = some (.v ds, p) → ∀ d ∈ ds, isLst d = true := fun e ds p h d m => by
  cases h
  cases m
theorem allL_cons {f : FG D} {g : FG (List D)} (h : ∀ (e : Ev) (ds : List D) (p : PenS), g e = some (.v ds, p) → ∀ d ∈ ds, isLst d = true) : ∀ (e : Ev) (ds : List D) (p : PenS), consG (lstOnly f) g e = some (.v ds, p) → ∀ d ∈ ds, isLst d = true := fun e ds p hf d m => by
  rcases bind_inv hf with ⟨c, ns, xs, hx, hr⟩ | ⟨a, q, hx, hg⟩
  · cases hr
  · rcases bind_inv hg with ⟨c, ns, xs, hx2, hr⟩ | ⟨as, q2, hx2, hg2⟩
    · cases hr
    · cases hg2
      rcases List.mem_cons.mp m with rfl | m
      · unfold lstOnly at hx
        rcases bind_inv hx with ⟨c', ns', ds', hx', hr⟩ | ⟨a', q', hx', hg'⟩
        · cases hr
        · split at hg'
          · next hl => cases hg'; exact hl
          · cases hg'
      · exact h _ _ _ hx2 d m
theorem refsA {rs : List Addr} : ∀ {es : List D}, rs.length = es.length → (∀ (k : Nat) (q : Addr) (d : D), rs[k]? = some q → es[k]? = some d → Rz G B (.ref q) d) → RzA G B (rs.map V.ref) es := by
  induction rs with
  | nil => intro es hl _; cases es with
    | nil => exact .nil
    | cons => cases hl
  | cons q qs ih =>
    intro es hl h
    cases es with
    | nil => cases hl
    | cons d es => exact .cons (h 0 q d rfl rfl) (ih (by simpa using hl) fun k q' d' a b => h (k + 1) q' d' (by simpa using a) (by simpa using b))
def flatJ (js : List Jx) : List Nat := js.filterMap fun x => match x with
  | .flat k _ => some k
  | .deep _ _ _ => none
theorem flatJ_mem {js : List Jx} {k l : Nat} (h : Jx.flat k l ∈ js) : k ∈ flatJ js := List.mem_filterMap.mpr ⟨_, h, rfl⟩
def Jok (ds : List D) (fl : List Nat) : Jx → Prop
  | .flat k l => ∃ es, ds[k]? = some (.list es) ∧ l < es.length
  | .deep k l n => k ∉ fl ∧ ∃ es fs, ds[k]? = some (.list es) ∧ hdL (.list es) = true ∧ es[l]? = some (.list fs) ∧ n < fs.length
def jokB (ds : List D) (fl : List Nat) : Jx → Bool
  | .flat k l => match ds[k]? with
    | some (.list es) => decide (l < es.length)
    | _ => false
  | .deep k l n => decide (k ∉ fl) && (match ds[k]? with
    | some (.list es) => hdL (.list es) && (match es[l]? with
      | some (.list fs) => decide (n < fs.length)
      | _ => false)
    | _ => false)
def okJ2 (ds : List D) (js : List Jx) : Bool := js.all (jokB ds (flatJ js))
theorem okJ2_at {ds : List D} {js : List Jx} (h : okJ2 ds js = true) {x : Jx} (m : x ∈ js) : Jok ds (flatJ js) x := by
  have z := List.all_eq_true.mp h x m
  cases x with
  | flat k l =>
    dsimp only [jokB] at z
    split at z
    · next es he => exact ⟨es, he, of_decide_eq_true z⟩
    · cases z
  | deep k l n =>
    dsimp only [jokB] at z
    rw [Bool.and_eq_true] at z
    obtain ⟨z1, z⟩ := z
    split at z
    · next es he =>
      rw [Bool.and_eq_true] at z
      obtain ⟨z2, z⟩ := z
      split at z
      · next fs hf => exact ⟨of_decide_eq_true z1, es, fs, he, z2, hf, of_decide_eq_true z⟩
      · cases z
    · cases z
def tgs2 (K : PySem.W.Frag) (i : Nat) : List Jx → TGs
  | [] => gNil
  | .flat k l :: r => gCons (gSub (tOp (uIx K) (tVar i) (tC (.int (k : Int)))) (tC (.int (l : Int))) rSetL) (tgs2 K i r)
  | .deep k l n :: r => gCons (gSub (tOp (uIx K) (tOp (uIx K) (tVar i) (tC (.int (k : Int)))) (tC (.int (l : Int)))) (tC (.int (n : Int))) rSetL) (tgs2 K i r)
def givenS2 (i j : Nat) (fa : FG (List D)) (fb : FG D) (js : List Jx) (fc : FG D) : FS := fun e => match fa e with
  | some (.v ds, p1) => if (i < e.sl.length ∧ j < e.sl.length ∧ i ≠ j) ∧ ds.length ≤ 1000 then (match fb ⟨e.sl.set i (.d (.list ds)), p1⟩ with
    | some (.v d, p2) => if noL d = true then (match fc ⟨(e.sl.set i .u).set j (.d d), p2⟩ with
      | some (.v (.tuple vs), p3) => if vs.length = js.length ∧ okJ2 ds js = true then some (.nx, ⟨(e.sl.set i .u).set j (.d d), p3⟩) else none
      | _ => none) else none
    | _ => none) else none
  | _ => none
def WkJ (U U1 : Hp) (ps qs : List Addr) (fl : List Nat) : Jx → Prop
  | .flat k l => k ∈ fl ∧ ∃ a, ps[k]? = some a ∧ ∃ ys, U1 a = some (.lst ys) ∧ l < ys.length
  | .deep k l n => k ∉ fl ∧ ∃ a, ps[k]? = some a ∧ ∃ (rs : List Addr) (b : Addr), rs[l]? = some b ∧ b ∈ qs ∧ U1 a = some (.lst (rs.map V.ref)) ∧ ∃ ys, U1 b = some (.lst ys) ∧ n < ys.length
theorem wk_flat {U1 : Hp} {ps qs : List Addr} {fl : List Nat} {k : Nat} {a : Addr} {ys zs : List V} (nd : ps.Nodup) (dj : ∀ q ∈ qs, q ∉ ps) (hk : k ∈ fl) (ha : ps[k]? = some a) (h : U1 a = some (.lst ys)) (hz : zs.length = ys.length) {y : Jx} (w : WkJ U U1 ps qs fl y) : WkJ U (upd U1 a (.lst zs)) ps qs fl y := by
  have am : a ∈ ps := List.mem_of_getElem? ha
  cases y with
  | flat k' l' =>
    obtain ⟨w1, a', w2, ys', w3, w4⟩ := w
    refine ⟨w1, a', w2, ?_⟩
    by_cases z : a' = a
    · subst z
      cases w3.symm.trans h
      exact ⟨zs, upd_same, by omega⟩
    · exact ⟨ys', (upd_ne z).trans w3, w4⟩
  | deep k' l' n' =>
    obtain ⟨w1, a', w2, rs, b, w3, w4, w5, ys', w6, w7⟩ := w
    have n1 : a' ≠ a := fun z => by
      subst z
      have g1 := (List.getElem?_eq_some_iff.mp ha).1
      have : k = k' := (List.getElem?_inj g1 nd).mp (ha.trans w2.symm)
      subst this
      exact w1 hk
    have n2 : b ≠ a := fun z => dj b w4 (z ▸ am)
    exact ⟨w1, a', w2, rs, b, w3, w4, (upd_ne n1).trans w5, ys', (upd_ne n2).trans w6, w7⟩
theorem wk_deep {U1 : Hp} {ps qs : List Addr} {fl : List Nat} {b : Addr} {ys zs : List V} (dj : ∀ q ∈ qs, q ∉ ps) (hb : b ∈ qs) (h : U1 b = some (.lst ys)) (hz : zs.length = ys.length) {y : Jx} (w : WkJ U U1 ps qs fl y) : WkJ U (upd U1 b (.lst zs)) ps qs fl y := by
  have out : ∀ {k a}, ps[k]? = some a → a ≠ b := fun h z => dj b hb (z ▸ List.mem_of_getElem? h)
  cases y with
  | flat k' l' =>
    obtain ⟨w1, a', w2, ys', w3, w4⟩ := w
    exact ⟨w1, a', w2, ys', (upd_ne (out w2)).trans w3, w4⟩
  | deep k' l' n' =>
    obtain ⟨w1, a', w2, rs, b', w3, w4, w5, ys', w6, w7⟩ := w
    refine ⟨w1, a', w2, rs, b', w3, w4, (upd_ne (out w2)).trans w5, ?_⟩
    by_cases z : b' = b
    · subst z
      cases w6.symm.trans h
      exact ⟨zs, upd_same, by omega⟩
    · exact ⟨ys', (upd_ne z).trans w6, w7⟩
theorem stores2 {i : Nat} {p : Addr} {refs qs : List Addr} {fl : List Nat} (nd : refs.Nodup) (dj : ∀ q ∈ qs, q ∉ refs) (pr : p ∉ refs) (pq : p ∉ qs) (fr1 : ∀ q ∈ refs, U q = none) (fr2 : ∀ q ∈ qs, U q = none) : ∀ (js : List Jx) (vs : List V) (U1 : Hp) (H1 : Hp) (Q : L2.St → Hp → Prop), vs.length = js.length → Rl G U1 pn e σ H1 B1 → Same U U1 → σ[i]? = some (some (.ref p)) → U p = none → U1 p = some (.lst (refs.map V.ref)) →
    (∀ x ∈ js, WkJ U U1 refs qs fl x) → (∀ U2 H2, Rl G U2 pn e σ H2 B1 → Same U U2 → Q σ H2) → tgs2 G.K i js vs σ H1 Q
  | [], [], U1, H1, Q, _, rl, sU, _, _, _, _, q => ⟨rfl, q U1 H1 rl sU⟩
  | .flat k l :: js, v :: vs, U1, H1, Q, hl, rl, sU, hs, hp, hp1, hx, q => by
    obtain ⟨hk, a, h1, ys, h4, h5⟩ := hx (.flat k l) (.head _)
    have am : a ∈ refs := List.mem_of_getElem? h1
    refine ⟨v, vs, rfl, .ref p, hs, .inl ⟨p, _, _, _, rfl, rfl, SqL.of (rl.b.uh _ _ hp1), at_ref h1, a, ys, _, l, rfl, rfl, rl.b.uh _ _ h4, ixN_nat h5, ?_⟩⟩
    refine stores2 nd dj pr pq fr1 fr2 js vs (upd U1 a (.lst (ys.set l v))) _ Q (by simpa using hl) (swap_at noC_lst h4 rl) (fun c o hc => ?_) hs hp (by rw [upd_ne fun z => pr (by rw [z]; exact am)]; exact hp1) (fun y hy => wk_flat (U := U) nd dj hk h1 h4 List.length_set (hx y (.tail _ hy))) q
    have : c ≠ a := fun z => by rw [z, fr1 a am] at hc; cases hc
    rw [upd_ne this]
    exact sU _ _ hc
  | .deep k l n :: js, v :: vs, U1, H1, Q, hl, rl, sU, hs, hp, hp1, hx, q => by
    obtain ⟨hk, a, h1, rs, b, h2, hb, h3, ys, h4, h5⟩ := hx (.deep k l n) (.head _)
    refine ⟨v, vs, rfl, .ref p, hs, .inl ⟨p, _, _, _, rfl, rfl, SqL.of (rl.b.uh _ _ hp1), at_ref h1, .inl ⟨a, _, _, _, rfl, rfl, SqL.of (rl.b.uh _ _ h3), at_ref h2, b, ys, _, n, rfl, rfl, rl.b.uh _ _ h4, ixN_nat h5, ?_⟩⟩⟩
    refine stores2 nd dj pr pq fr1 fr2 js vs (upd U1 b (.lst (ys.set n v))) _ Q (by simpa using hl) (swap_at noC_lst h4 rl) (fun c o hc => ?_) hs hp (by rw [upd_ne fun z => pq (by rw [z]; exact hb)]; exact hp1) (fun y hy => wk_deep (U := U) dj hb h4 List.length_set (hx y (.tail _ hy))) q
    have : c ≠ b := fun z => by rw [z, fr2 b hb] at hc; cases hc
    rw [upd_ne this]
    exact sU _ _ hc
  | [], _ :: _, _, _, _, hl, _, _, _, _, _, _, _ => by cases hl
  | .flat _ _ :: _, [], _, _, _, hl, _, _, _, _, _, _, _ => by cases hl
  | .deep _ _ _ :: _, [], _, _, _, hl, _, _, _, _, _, _, _ => by cases hl
theorem cs_given2 {i j : Nat} {ta : TA} {fa : FG (List D)} {tb tc : TE} {fb fc : FG D} {js : List Jx} (ha : CN2 G pn E ta fa) (hb : CE G pn E tb fb) (hc : CE G pn E tc fc) :
    CS G pn E (tSeq (tAsg (tLst ta) (gName i)) (tSeq (tAsg tb (gName j)) (tAsg tc (gTup G.K js.length (tgs2 G.K i js))))) (givenS2 i j fa fb js fc) := by
  intro U e σ H B r e' Dn rl hf post
  unfold givenS2 at hf
  split at hf
  · next ds p1 hfa =>
    split at hf
    · next hij =>
      obtain ⟨⟨hi, hj, hne⟩, hlen⟩ := hij
      split at hf
      · next d p2 hfb =>
        split at hf
        · next hnl =>
          split at hf
          · next vs p3 hfc =>
            split at hf
            · next hvs =>
              cases hf
              obtain ⟨hvl, hok⟩ := hvs
              refine ha U e σ H B _ _ _ rl hfa fun ps qs H4 B4 U4 rl4 s4 k4 sU4 nw => ⟨?_, fun p hp => ?_⟩
              · rw [List.length_map, nw.len]
                exact line_of (by omega)
              obtain ⟨az, haz⟩ : ∃ az : List Addr, az = ps ++ qs := ⟨_, rfl⟩
              have inP : ∀ q ∈ ps, q ∈ az := fun q m => haz ▸ List.mem_append_left _ m
              have inQ : ∀ q ∈ qs, q ∈ az := fun q m => haz ▸ List.mem_append_right _ m
              have isP : ∀ q ∈ az, U q = none ∧ ∃ xs, U4 q = some (.lst xs) := fun q hq => nw.fr q (haz ▸ hq)
              have bN : ∀ q ∈ az, B4 q = none := fun q hq => by
                obtain ⟨_, xs, h2⟩ := isP q hq
                cases hB : B4 q with
                | none => rfl
                | some o => rw [rl4.b.nub h2 (fun xs z => nomatch z)] at hB; cases hB
              have pB : B4 p = none := rl4.b.bh.free hp
              have pU4 : U4 p = none := rl4.b.uh.free hp
              have pU : U p = none := by
                cases hU : U p with
                | none => rfl
                | some o => have := sU4 _ _ hU; rw [pU4] at this; cases this
              have pps : p ∉ az := fun m => by
                obtain ⟨_, xs, h2⟩ := isP p m
                rw [pU4] at h2; cases h2
              have rl5 : Rl G (upd U4 p (.lst (ps.map V.ref))) pn ⟨e.sl, p1⟩ σ (upd H4 p (.lst (ps.map V.ref))) B4 := rl4.addU hp
              obtain ⟨B5, hB5⟩ : ∃ B5 : Hp, B5 = fun a => if a = p then some (.lst (ps.map V.ref)) else if a ∈ az then U4 a else B4 a := ⟨_, rfl⟩
              have b5 : ∀ {a o}, B4 a = some o → B5 a = some o := fun {a o} h => by
                rw [hB5]
                show (if a = p then _ else if a ∈ az then U4 a else B4 a) = _
                rw [if_neg (ne_of_none h pB), if_neg (show ¬ a ∈ az from fun m => by rw [bN a m] at h; cases h)]
                exact h
              have b5s : Same B4 B5 := fun a o h => b5 h
              have b5p : B5 p = some (.lst (ps.map V.ref)) := by rw [hB5]; exact if_pos rfl
              have b5q : ∀ q ∈ az, B5 q = U4 q := fun q m => by
                rw [hB5]
                show (if q = p then _ else if q ∈ az then U4 q else B4 q) = _
                rw [if_neg (show ¬ q = p from fun z => pps (z ▸ m)), if_pos m]
              have b5n : ∀ a, a ≠ p → a ∉ az → B5 a = B4 a := fun a h1 h2 => by
                rw [hB5]
                show (if a = p then _ else if a ∈ az then U4 a else B4 a) = _
                rw [if_neg h1, if_neg h2]
              have base5 : Base U pn p1 (upd H4 p (.lst (ps.map V.ref))) B5 := by
                have bb := rl5.b
                have np := bb.npU (a := p) upd_same
                have npq : ∀ q ∈ az, NP pn q := fun q m => by
                  obtain ⟨_, xs, h2⟩ := isP q m
                  exact rl4.b.npU h2
                refine ⟨fun a o h => ?_, fun a o h => bb.uh a o ((upd_ne (ne_of_none (sU4 _ _ h) pU4)).trans (sU4 _ _ h)), fun a o h => ?_, fun q hq => ?_, fun q hq => ?_⟩
                · by_cases z : a = p
                  · rw [z, b5p] at h; rw [z, upd_same]; exact h
                  · rw [upd_ne z]
                    by_cases m : a ∈ az
                    · rw [b5q a m] at h; exact rl4.b.uh a o h
                    · rw [b5n a z m] at h; exact rl4.b.bh a o h
                · by_cases z : a = p
                  · rw [z]; exact .inl pU
                  · by_cases m : a ∈ az
                    · exact .inl (isP a m).1
                    · rw [b5n a z m] at h
                      cases hU : U a with
                      | none => exact .inl rfl
                      | some x =>
                        rcases rl4.b.bu _ _ h with y | y
                        · have := sU4 _ _ hU; rw [y] at this; cases this
                        · exact .inr y
                · obtain ⟨h1, h2, h3, h4⟩ := bb.pen q hq
                  refine ⟨?_, ?_, h3, b5 h4⟩
                  · rw [b5n _ (fun z => (np q hq).1 z.symm) (fun m => (npq _ m q hq).1 rfl)]; exact h1
                  · cases hU : U q.1 with
                    | none => rfl
                    | some x => have := rl4.b.pen q hq; rw [sU4 _ _ hU] at this; cases this.2.1
                · obtain ⟨h1, h2, h3, h4⟩ := bb.tab q hq
                  refine ⟨fun t ht => ⟨?_, ?_⟩, h2, h3, h4.trans b5s⟩
                  · rw [b5n _ (fun z => (np q hq).2 t ht z.symm) (fun m => (npq _ m q hq).2 t ht rfl)]; exact (h1 t ht).1
                  · cases hU : U t.1 with
                    | none => rfl
                    | some x => have := ((rl4.b.tab q hq).1 t ht).2; rw [sU4 _ _ hU] at this; cases this
              obtain ⟨os, ss, nn, ff⟩ := rl5.s
              have onp : ∀ q ∈ os, q ≠ p ∧ q ∉ az := fun q hq => by
                have hU := (ff q hq).2.1
                refine ⟨fun z => (by rw [z, upd_same] at hU; cases hU), fun m => ?_⟩
                obtain ⟨_, xs, h2⟩ := isP q m
                rw [upd_ne (fun z => by rw [z, upd_same] at hU; cases hU)] at hU
                rw [h2] at hU; cases hU
              have rz5 : Rz G B5 (.ref p) (.list ds) := by
                refine .lst b5p ?_
                have flat5 : ∀ q d, q ∈ az → LF G B4 U4 q d → Rz G B5 (.ref q) d := by
                  rintro q d m ⟨xs, es, rfl, h2, h3⟩
                  exact .lst ((b5q q m).trans h2) (h3.same b5s)
                refine refsA nw.len fun k q d a b => ?_
                have m : q ∈ ps := List.mem_of_getElem? a
                rcases nw.at_ k q d a b with ⟨_, h⟩ | ⟨_, rs, es, rfl, h2, hl, h3⟩
                · exact flat5 q d (inP q m) h
                · exact .lst ((b5q q (inP q m)).trans h2) (refsA hl fun k' q' d' a' b' => flat5 q' d' (inQ q' (h3 k' q' d' a' b').1) (h3 k' q' d' a' b').2)
              have ss5 : Slots G pn B5 (upd H4 p (.lst (ps.map V.ref))) σ e.sl os := ss.grow b5s fun _ _ => rfl
              have rlB : Rl G U pn ⟨e.sl.set i (.d (.list ds)), p1⟩ (σ.set i (some (.ref p))) (upd H4 p (.lst (ps.map V.ref))) B5 := by
                have r0 : Rl G U pn ⟨e.sl, p1⟩ σ (upd H4 p (.lst (ps.map V.ref))) B5 := by
                  refine ⟨base5, os, ss5, nn, fun q hq => ⟨(b5n q (onp q hq).1 (onp q hq).2).trans (ff q hq).1, ?_, (ff q hq).2.2⟩⟩
                  cases hU : U q with
                  | none => rfl
                  | some x =>
                    have h1 := (ff q hq).2.1
                    rw [upd_ne (onp q hq).1] at h1
                    have := sU4 _ _ hU
                    rw [h1] at this
                    cases this
                exact r0.setD rz5 i
              refine hb U _ _ _ B5 _ _ _ rlB hfb fun v H6 B6 rl6 s6 k6 rz6 => ?_
              -- the lists are lists again
              have np := rl5.b.npU (a := p) upd_same
              have npq : ∀ q ∈ az, NP pn q := fun q m => by
                obtain ⟨_, xs, h2⟩ := isP q m
                exact rl4.b.npU h2
              have at6 : ∀ q ∈ p :: az, ∃ xs, B6 q = some (.lst xs) := fun q m => by
                rcases List.mem_cons.mp m with rfl | m
                · exact ⟨_, s6 _ _ b5p⟩
                · obtain ⟨_, xs, h2⟩ := isP q m
                  exact ⟨xs, s6 _ _ ((b5q q m).trans h2)⟩
              have c6 : Same B4 (cutB (p :: az) B6) := fun a o h => by
                rw [cutB_no fun m => by
                  rcases List.mem_cons.mp m with rfl | m
                  · rw [pB] at h; cases h
                  · rw [bN a m] at h; cases h]
                exact s6 _ _ (b5 h)
              obtain ⟨U6, hU6⟩ : ∃ U6 : Hp, U6 = fun a => if a ∈ p :: az then B6 a else U a := ⟨_, rfl⟩
              have u6i : ∀ a, a ∈ p :: az → U6 a = B6 a := fun a m => by rw [hU6]; exact if_pos m
              have u6o : ∀ a, a ∉ p :: az → U6 a = U a := fun a m => by rw [hU6]; exact if_neg m
              have uN : ∀ a ∈ p :: az, U a = none := fun a m => by
                rcases List.mem_cons.mp m with rfl | m
                · exact pU
                · exact (isP a m).1
              have base6 : Base U6 pn p2 H6 (cutB (p :: az) B6) := by
                have bb := rl6.b
                have npa : ∀ a ∈ p :: az, NP pn a := fun a m => by
                  rcases List.mem_cons.mp m with rfl | m
                  · exact np
                  · exact npq a m
                refine ⟨cutB_sub.trans bb.bh, fun a o h => ?_, fun a o h => ?_, fun q hq => ?_, fun q hq => ?_⟩
                · by_cases m : a ∈ p :: az
                  · rw [u6i a m] at h; exact bb.bh a o h
                  · rw [u6o a m] at h; exact bb.uh a o h
                · by_cases m : a ∈ p :: az
                  · unfold cutB at h; rw [if_pos m] at h; cases h
                  · rw [u6o a m]; exact bb.bu a o (cutB_sub a o h)
                · obtain ⟨h1, h2, h3, h4⟩ := bb.pen q hq
                  have n1 : q.1 ∉ p :: az := fun m => (npa _ m q hq).1 rfl
                  refine ⟨(cutB_no n1).trans h1, (u6o _ n1).trans h2, h3, c6 _ _ (rl4.b.pen q hq).2.2.2 |>.trans ?_⟩
                  have e1 := rl4.b.pen q hq
                  have e2 := s6 _ _ (b5 e1.2.2.2)
                  exact e2.symm.trans h4
                · obtain ⟨h1, h2, h3, h4⟩ := bb.tab q hq
                  refine ⟨fun t ht => ?_, h2, h3, (rl4.b.tab q hq).2.2.2.trans c6⟩
                  have n1 : t.1 ∉ p :: az := fun m => (npa _ m q hq).2 t ht rfl
                  exact ⟨(cutB_no n1).trans (h1 t ht).1, (u6o _ n1).trans (h1 t ht).2⟩
              have keep6 : ∀ q ∈ os, H6 q = upd H4 p (.lst (ps.map V.ref)) q := fun q hq => by
                obtain ⟨o, ho⟩ := ss.there hq
                rw [ho]
                exact k6 _ _ ho (ff q hq).2.2
              obtain ⟨os2, ss2, sb2⟩ := Slots.setU (w := some (.ref p)) i ss
              obtain ⟨os', ss', nn', ff'⟩ := rl6.s
              have eo : os' = os2 := by
                rw [ss'.own, ss2.own]
                exact ownA_two σ e.sl i rfl rfl
              have r6 : Rl G U6 pn ⟨e.sl.set i .u, p2⟩ (σ.set i (some (.ref p))) H6 (cutB (p :: az) B6) := ⟨base6, os2, ss2.grow c6 fun q hq => keep6 q (sb2.subset hq), sb2.nodup nn, fun q hq => by
                have hq0 := sb2.subset hq
                have nm : q ∉ p :: az := fun m => (List.mem_cons.mp m).elim (onp q hq0).1 (onp q hq0).2
                obtain ⟨f1, f2, f3⟩ := ff' q (by rw [eo]; exact hq)
                exact ⟨(cutB_no nm).trans f1, (u6o q nm).trans f2, f3⟩⟩
              have rdz : Rz G (cutB (p :: az) B6) v d := rz6.drp at6 hnl
              have r7 : Rl G U6 pn ⟨(e.sl.set i .u).set j (.d d), p2⟩ ((σ.set i (some (.ref p))).set j (some v)) H6 (cutB (p :: az) B6) := r6.setD rdz j
              refine hc U6 _ _ H6 _ _ _ _ r7 hfc fun y H8 B8 rl8 s8 k8 rz8 => ?_
              obtain ⟨a, xs, rfl, hx, hr⟩ := rz8.tup_inv
              have hsl : i < σ.length := by rw [ss.len]; exact hi
              refine ⟨a, xs, rfl, same_t rl8.b.bh hx, by rw [hr.length, hvl], ?_⟩
              have at9 : ∀ q ∈ az, U6 q = U4 q := fun q m => by
                obtain ⟨_, xs, h2⟩ := isP q m
                rw [u6i q (.tail _ m), h2]
                exact s6 _ _ ((b5q q m).trans h2)
              refine stores2 (U := U) (p := p) (refs := ps) (qs := qs) (fl := flatJ js) nw.nd nw.dj (fun m => pps (inP _ m)) (fun m => pps (inQ _ m)) (fun q m => (isP q (inP q m)).1) (fun q m => (isP q (inQ q m)).1) js xs U6 H8 _ (by rw [hr.length, hvl]) rl8 (fun a o h => ?_) ?_ pU ?_ (fun x m => ?_) fun U9 H9 rl9 s9 => ?_
              · rw [u6o a fun m => by rw [uN a m] at h; cases h]; exact h
              · rw [List.getElem?_set_ne (Ne.symm hne), List.getElem?_set_self hsl]
              · rw [u6i p (.head _)]; exact s6 _ _ b5p
              · have z := okJ2_at hok m
                match x, z, m with
                | .flat k l, ⟨es, h1, h2⟩, m =>
                  have hk : k < ps.length := by rw [nw.len]; exact (List.getElem?_eq_some_iff.mp h1).1
                  have hk2 : ps[k]? = some ps[k] := List.getElem?_eq_getElem hk
                  have m2 : ps[k] ∈ ps := List.getElem_mem hk
                  refine ⟨flatJ_mem m, ps[k], hk2, ?_⟩
                  rw [at9 _ (inP _ m2)]
                  rcases nw.at_ k _ _ hk2 h1 with ⟨_, xs, es', g2, g3, g4⟩ | ⟨_, rs, es', g2, g3, g4, _⟩
                  · cases g2
                    exact ⟨xs, g3, by rw [g4.length]; exact h2⟩
                  · cases g2
                    exact ⟨_, g3, by rw [List.length_map, g4]; exact h2⟩
                | .deep k l n, ⟨hfl, es, fs, h1, h0, h2, h3⟩, m =>
                  have hk : k < ps.length := by rw [nw.len]; exact (List.getElem?_eq_some_iff.mp h1).1
                  have hk2 : ps[k]? = some ps[k] := List.getElem?_eq_getElem hk
                  have m2 : ps[k] ∈ ps := List.getElem_mem hk
                  refine ⟨hfl, ps[k], hk2, ?_⟩
                  rw [at9 _ (inP _ m2)]
                  rcases nw.at_ k _ _ hk2 h1 with ⟨g0, _⟩ | ⟨_, rs, es', g2, g3, g4, g5⟩
                  · exact absurd (g0.symm.trans h0) (by decide)
                  · cases g2
                    have hl : l < rs.length := by rw [g4]; exact (List.getElem?_eq_some_iff.mp h2).1
                    have hl2 : rs[l]? = some rs[l] := List.getElem?_eq_getElem hl
                    obtain ⟨m3, ys, fs', e3, y1, y2⟩ := g5 l _ _ hl2 h2
                    cases e3
                    exact ⟨rs, rs[l], hl2, m3, g3, ys, by rw [at9 _ (inQ _ m3)]; exact y1, by rw [y2.length]; exact h3⟩
              · exact post _ H9 B8 (rl9.subU s9) (s4.trans (c6.trans s8))
            · cases hf
          · cases hf
        · cases hf
      · cases hf
    · cases hf
  · cases hf
/-! ### is, is not, of True and False -/
def uIsB (neg : Bool) : R2 := fun x y H Q => ∃ b c : Bool, x = .bl b ∧ y = .bl c ∧ Q (.bl (if neg = true then !decide (b = c) else decide (b = c))) H
theorem op_isB {X : Cx} : OpR X (compareOp .Is) (uIsB false) := by
  intro pins s σ H x y v u Q I rx ry h
  obtain ⟨b, c, rfl, rfl, q⟩ := h
  cases rx
  cases ry
  show wpAny _ _ ((isSame (Value.bool b) (Value.bool c)) >>= fun z => pure (Value.bool z)) _ _ s
  exact wpAny_bind (wpAny_isSame_plain rfl (wpAny_pure (fin_bl I q (by cases b <;> cases c <;> rfl))))
theorem op_isnB {X : Cx} : OpR X (compareOp .IsNot) (uIsB true) := by
  intro pins s σ H x y v u Q I rx ry h
  obtain ⟨b, c, rfl, rfl, q⟩ := h
  cases rx
  cases ry
  show wpAny _ _ ((isSame (Value.bool b) (Value.bool c)) >>= fun z => pure (Value.bool (!z))) _ _ s
  exact wpAny_bind (wpAny_isSame_plain rfl (wpAny_pure (fin_bl I q (by cases b <;> cases c <;> rfl))))
def dIsB (neg : Bool) : D → D → Option D
  | .bool b, .bool c => some (.bool (if neg = true then !decide (b = c) else decide (b = c)))
  | _, _ => none
theorem ob_isB {neg : Bool} : OpB G pn (uIsB neg) (dIsB neg) := by
  intro U e σ H B x y a b c Q rl ra rb h q
  unfold dIsB at h
  split at h
  · cases h
    cases ra.bl_inv
    cases rb.bl_inv
    exact ⟨_, _, rfl, rfl, q _ H B rl (Same.refl _) Keep.refl (.bl _)⟩
  · cases h
end
end Fw

set_option linter.all false
set_option maxRecDepth 100000
set_option maxHeartbeats 4000000
namespace Fw
open PySem PySem.Spec PyProof.Rows L2
/-! ### comprehensions with two fors -/
theorem wipe_sub {σ : L2.St} {us vs : List Nat} (h : ∀ u ∈ us, u ∈ vs) : wipe (wipe σ us) vs = wipe σ vs := by
  induction us with
  | nil => rfl
  | cons u us ih =>
    show wipe ((wipe σ us).set u none) vs = _
    rw [wipe_set (h u (.head _))]
    exact ih fun w hw => h w (.tail _ hw)
theorem wipeS_sub {σ : List Slot} {us vs : List Nat} (h : ∀ u ∈ us, u ∈ vs) : wipeS (wipeS σ us) vs = wipeS σ vs := by
  induction us with
  | nil => rfl
  | cons u us ih =>
    show wipeS ((wipeS σ us).set u .u) vs = _
    rw [wipeS_set (h u (.head _))]
    exact ih fun w hw => h w (.tail _ hw)
def lc2L (slw : List Slot) (vs1 : List Nat) (ft : FT) (test : FG Bool) (fi1 : FG (List D)) (ft1 : FT) (test1 : FG Bool) (elt : FG D) : List D → PenS → Option (List D × PenS)
  | [], p => some ([], p)
  | d :: ds, p => match ft d slw with
    | none => none
    | some sl => match test ⟨sl, p⟩ with
      | some (.v true, p1) => (match fi1 ⟨sl, p1⟩ with
        | some (.v es, p2) => (match lcL (wipeS sl vs1) ft1 test1 elt es p2 with
          | some (xs, p3) => (lc2L slw vs1 ft test fi1 ft1 test1 elt ds p3).map fun r => (xs ++ r.1, r.2)
          | none => none)
        | _ => none)
      | some (.v false, p1) => lc2L slw vs1 ft test fi1 ft1 test1 elt ds p1
      | _ => none
theorem lc2L_inv {slw : List Slot} {vs1 : List Nat} {ft ft1 : FT} {test test1 : FG Bool} {fi1 : FG (List D)} {elt : FG D} {d : D} {ds xs : List D} {p q : PenS} (h : lc2L slw vs1 ft test fi1 ft1 test1 elt (d :: ds) p = some (xs, q)) :
    ∃ sl, ft d slw = some sl ∧ ((∃ p1 es p2 ys p3 zs, test ⟨sl, p⟩ = some (.v true, p1) ∧ fi1 ⟨sl, p1⟩ = some (.v es, p2) ∧ lcL (wipeS sl vs1) ft1 test1 elt es p2 = some (ys, p3) ∧ lc2L slw vs1 ft test fi1 ft1 test1 elt ds p3 = some (zs, q) ∧ xs = ys ++ zs) ∨
      ∃ p1, test ⟨sl, p⟩ = some (.v false, p1) ∧ lc2L slw vs1 ft test fi1 ft1 test1 elt ds p1 = some (xs, q)) := by
  unfold lc2L at h
  split at h
  · cases h
  · next sl hs =>
    refine ⟨sl, hs, ?_⟩
    split at h
    · next p1 ht =>
      split at h
      · next es p2 he =>
        split at h
        · next ys p3 hy =>
          obtain ⟨⟨zs, q'⟩, h1, h2⟩ := Option.map_eq_some_iff.mp h
          cases h2
          exact .inl ⟨p1, es, p2, ys, p3, zs, ht, he, hy, h1, rfl⟩
        · cases h
      · cases h
    · next p1 ht => exact .inr ⟨p1, ht, h⟩
    · cases h
def lc2G (vs vs1 : List Nat) (fi : FG (List D)) (ft : FT) (test : FG Bool) (fi1 : FG (List D)) (ft1 : FT) (test1 : FG Bool) (elt : FG D) : FG D := bindG fi fun ds e =>
  if vs.any (fun v => isO e.sl[v]?) = true then none else
  match lc2L (wipeS e.sl vs) vs1 ft test fi1 ft1 test1 elt ds e.pen with
  | none => none
  | some (xs, p) => if xs.length ≤ 1000000 then some (.v (.list xs), p) else none
section
variable {G : Gm} {U : Hp} {pn : Pn} {E : XK} {e : Ev} {σ : L2.St} {H B H' B' H1 B1 : Hp}
theorem cf_lc2 {vs vs1 : List Nat} {ti ti1 : TI} {g g1 : TG} {tt tt1 : TT} {te : TE} {fi fi1 : FG (List D)} {ft ft1 : FT} {test test1 : FG Bool} {elt : FG D} (sub : ∀ v ∈ vs1, v ∈ vs) (hi : CI G pn E ti fi) (hg : CTw G pn vs g ft) (hf' : FTw vs ft) (ht : CT G pn E tt test)
    (hi1 : CI G pn E ti1 fi1) (hg1 : CTw G pn vs1 g1 ft1) (hf1 : FTw vs1 ft1) (ht1 : CT G pn E tt1 test1) (he : CE G pn E te elt) : CF G pn E (tLc2 ti g tt ti1 g1 tt1 te vs vs1) (lc2G vs vs1 fi ft test fi1 ft1 test1 elt) := by
  refine CF.bind (t := ti) hi fun J ds U e σ H B r p' Q rl wk hf post => ?_
  intro D hD
  split at hf
  · cases hf
  next hv =>
  simp only [Bool.not_eq_true, Bool.not_eq_false', List.any_eq_false] at hv
  split at hf
  · cases hf
  next xs p hx =>
  split at hf
  · next hl =>
    cases hf
    have hv' : ∀ v ∈ vs, isO e.sl[v]? = false := fun v m => by simpa using hv v m
    have rl0 := (rl.addU (o := .lst []) hD).wipe vs
    refine ⟨fun i m H' => m = ds.length - i ∧ ∃ q1 B1 acc ws rest, Rl G (upd U D (.lst ws)) pn ⟨wipeS e.sl vs, q1⟩ (wipe σ vs) H' B1 ∧ Same B B1 ∧ Keep pn H H' ∧ RzA G B1 ws acc ∧ lc2L (wipeS e.sl vs) vs1 ft test fi1 ft1 test1 elt (ds.drop i) q1 = some (rest, p') ∧ acc ++ rest = xs,
      ⟨_, rfl, e.pen, B, [], [], xs, rl0, Same.refl _, Keep.of (same_upd hD), .nil, hx, rfl⟩, ?_⟩
    rintro i m H1 ⟨rfl, q1, B1, acc, ws, rest, rl1, s1, k1, rz1, h1, hxs⟩
    obtain ⟨w1, w2⟩ := wk i _ H1 B1 _ _ s1 rl1
    cases hd : ds.drop i with
    | nil =>
      rw [hd] at h1
      cases h1
      have hle : ds.length ≤ i := by
        rcases Nat.lt_or_ge i ds.length with z | z
        · rw [List.drop_eq_getElem_cons z] at hd; cases hd
        · exact z
      rw [List.append_nil] at hxs
      subst hxs
      exact .inl ⟨w1 hle, post D H1 B1 (rl.back hD hv' rl1 s1 k1 rz1) s1 k1⟩
    | cons d more =>
      rw [hd] at h1
      obtain ⟨g1', g2, g3⟩ := drop_cons hd
      obtain ⟨w3, w4⟩ := w2 d g1'
      refine .inr ⟨w3, fun H' => ∃ q1 B1 acc ws rest, Rl G (upd U D (.lst ws)) pn ⟨wipeS e.sl vs, q1⟩ (wipe σ vs) H' B1 ∧ Same B B1 ∧ Keep pn H H' ∧ RzA G B1 ws acc ∧ lc2L (wipeS e.sl vs) vs1 ft test fi1 ft1 test1 elt (ds.drop (i + 1)) q1 = some (rest, p') ∧ acc ++ rest = xs,
        fun H' q => ⟨ds.length - (i + 1), by omega, rfl, q⟩, fun x H2 hy => ?_⟩
      obtain ⟨B2, s2, sh, mv, rz⟩ := w4 x H2 hy
      rw [g2]
      obtain ⟨sl, hs, hcase⟩ := lc2L_inv h1
      have rl2 := mv _ _ _ rl1
      have k2 : Keep pn H H2 := k1.trans (.of sh)
      have s12 := s1.trans s2
      refine hg _ _ σ (wipe σ vs) H2 B2 x d sl _ rl2 rz hs (wipe_wipe vs) fun σ3 hw rl3 => ⟨hw, ?_⟩
      have hw' : wipe σ3 vs = wipe σ vs := hw
      have e2 : wipeS sl vs = wipeS e.sl vs := (hf' _ _ _ hs).trans (wipeS_wipe vs)
      rcases hcase with ⟨p1, es, p2, ys, p3, zs, h2, h3, h4, h5, rfl⟩ | ⟨p1, h2, h4⟩
      · refine ht _ _ σ3 H2 B2 _ _ _ rl3 h2 fun b H3 B3 rl4 s3 k3 hb => ?_
        subst hb
        rw [if_pos rfl]
        refine hi1 _ _ σ3 H3 B3 _ _ _ rl4 h3 fun J1 H4 B4 rl5 s4 k4 wk1 => ?_
        have k04 : Keep pn H H4 := k2.trans (k3.trans k4)
        have s04 : Same B B4 := s12.trans (s3.trans s4)
        have rzw : RzA G B4 ws acc := rz1.same (s2.trans (s3.trans s4))
        refine ⟨fun j k H' => k = es.length - j ∧ ∃ q2 B5 acc1 ws1 rest1, Rl G (upd U D (.lst ws1)) pn ⟨wipeS sl vs1, q2⟩ (wipe σ3 vs1) H' B5 ∧ Same B4 B5 ∧ Keep pn H H' ∧ RzA G B5 ws1 acc1 ∧ lcL (wipeS sl vs1) ft1 test1 elt (es.drop j) q2 = some (rest1, p3) ∧ acc1 ++ rest1 = acc ++ ys,
          ⟨_, rfl, p2, B4, acc, ws, ys, rl5.wipe vs1, Same.refl _, k04, rzw, h4, rfl⟩, ?_⟩
        rintro j k H5 ⟨rfl, q2, B5, acc1, ws1, rest1, rl6, s5, k5, rz5, h6, hacc⟩
        obtain ⟨v1, v2⟩ := wk1 j _ H5 B5 _ _ s5 rl6
        cases hd1 : es.drop j with
        | nil =>
          rw [hd1] at h6
          cases h6
          have hle : es.length ≤ j := by
            rcases Nat.lt_or_ge j es.length with z | z
            · rw [List.drop_eq_getElem_cons z] at hd1; cases hd1
            · exact z
          refine .inl ⟨v1 hle, _, B5, acc1, ws1, zs, ?_, s04.trans s5, k5, rz5, h5, ?_⟩
          · have z := rl6.wipe vs
            rw [wipe_sub sub, hw'] at z
            simp only [wipeS_sub sub, e2] at z
            exact z
          · rw [List.append_nil] at hacc
            rw [hacc, List.append_assoc]
            exact hxs
        | cons d1 more1 =>
          rw [hd1] at h6
          obtain ⟨f1, f2, f3⟩ := drop_cons hd1
          obtain ⟨v3, v4⟩ := v2 d1 f1
          refine .inr ⟨v3, fun H' => ∃ q2 B5 acc1 ws1 rest1, Rl G (upd U D (.lst ws1)) pn ⟨wipeS sl vs1, q2⟩ (wipe σ3 vs1) H' B5 ∧ Same B4 B5 ∧ Keep pn H H' ∧ RzA G B5 ws1 acc1 ∧ lcL (wipeS sl vs1) ft1 test1 elt (es.drop (j + 1)) q2 = some (rest1, p3) ∧ acc1 ++ rest1 = acc ++ ys,
            fun H' q => ⟨es.length - (j + 1), by omega, rfl, q⟩, fun x1 H6 hy1 => ?_⟩
          obtain ⟨B6, s6, sh6, mv6, rz6⟩ := v4 x1 H6 hy1
          rw [f2]
          obtain ⟨sl1, hs1, hcase1⟩ := lcL_inv h6
          have rl7 := mv6 _ _ _ rl6
          have k6 : Keep pn H H6 := k5.trans (.of sh6)
          refine hg1 _ _ σ3 (wipe σ3 vs1) H6 B6 x1 d1 sl1 _ rl7 rz6 hs1 (wipe_wipe vs1) fun σ5 hw1 rl8 => ⟨hw1, ?_⟩
          have hw1' : wipe σ5 vs1 = wipe σ3 vs1 := hw1
          have e3 : wipeS sl1 vs1 = wipeS sl vs1 := (hf1 _ _ _ hs1).trans (wipeS_wipe vs1)
          rcases hcase1 with ⟨p4, y, p5, us, c1, c2, c3, rfl⟩ | ⟨p4, c1, c3⟩
          · refine ht1 _ _ σ5 H6 B6 _ _ _ rl8 c1 fun b H7 B7 rl9 s7 k7 hb => ?_
            subst hb
            rw [if_pos rfl]
            refine he _ _ σ5 H7 B7 _ _ _ rl9 c2 fun v H8 B8 rl10 s8 k8 rv => ?_
            obtain ⟨rl11, hp, hB8, np⟩ := rl10.swapU (o' := .lst (ws1 ++ [v])) noC_lst
            have r8 : RzA G B8 (ws1 ++ [v]) (acc1 ++ [y]) := (rz5.same (s6.trans (s7.trans s8))).app (.cons rv .nil)
            have hlen : ws1.length < sizeLine := by
              rw [rz5.length]
              have a1 := congrArg List.length hacc
              have a2 := congrArg List.length hxs
              simp only [List.length_append, List.length_cons] at a1 a2
              exact line_lt (by omega)
            refine ⟨ws1, hp, hlen, p5, B8, acc1 ++ [y], ws1 ++ [v], us, ?_, s5.trans (s6.trans (s7.trans s8)), ?_, r8, c3, by rw [← hacc]; simp⟩
            · have z := rl11.wipe vs1
              rw [hw1'] at z
              simp only [e3] at z
              exact z
            · intro a o ha hn
              have hne : a ≠ D := fun z => by rw [z, hD] at ha; cases ha
              rw [upd_ne hne]
              exact (k6.trans (k7.trans k8)) a o ha hn
          · refine ht1 _ _ σ5 H6 B6 _ _ _ rl8 c1 fun b H7 B7 rl9 s7 k7 hb => ?_
            subst hb
            rw [if_neg (by simp)]
            refine ⟨p4, B7, acc1, ws1, rest1, ?_, s5.trans (s6.trans s7), k6.trans k7, rz5.same (s6.trans s7), c3, hacc⟩
            have z := rl9.wipe vs1
            rw [hw1'] at z
            simp only [e3] at z
            exact z
      · refine ht _ _ σ3 H2 B2 _ _ _ rl3 h2 fun b H3 B3 rl4 s3 k3 hb => ?_
        subst hb
        rw [if_neg (by simp)]
        refine ⟨p1, B3, acc, ws, rest, ?_, s12.trans s3, k2.trans k3, rz1.same (s2.trans s3), h4, hxs⟩
        have z := rl4.wipe vs
        rw [hw'] at z
        simp only [e2] at z
        exact z
  · cases hf
end
end Fw

set_option linter.all false
set_option maxRecDepth 100000
set_option maxHeartbeats 4000000
namespace Fw
open PySem PySem.Spec PyProof.Rows L2
/-! ### a module's table, its keys texts: NAME[k] -/
structure Tab (K : PySem.W.Frag) (w : World) (XC : Str → Option Addr) (mg : Str → Option Value) (x : Str) (p : Addr) (L : List (Str × D)) : Prop where
  m : mg x = some (.ref p)
  at_ : ∀ z d, L.lookup z = some d → ∃ v, KDct K w p z v ∧ ∀ B, Rz ⟨K, XC⟩ B v d
def dTab (L : List (Str × D)) : D → Option D
  | .str z => L.lookup z
  | _ => none
theorem pe_tab {X : Cx} {XC : Str → Option Addr} {x : Str} {p : Addr} {L : List (Str × D)} {q pos : Pos} {e : Expr} {t : TE} (T : Tab X.K X.w XC X.mg x p L) (hg : Gl X x) (he : PE X e t) (hs : PlainIx e := by exact fun _ _ => rfl) (hd : (x == ("__debug__" : Str)) = false := by decide) :
    PE X (.Subscript (.Name x q) e pos) (tOp (rIxD X.K X.w) (tC (.ref p)) t) := pe_ix ix_kdict (pe_glob hg T.m rfl hd) he hs
section
variable {G : Gm} {U : Hp} {pn : Pn} {E : XK} {e : Ev} {σ : L2.St} {H B H' B' H1 B1 : Hp}
theorem ce_tab {K : PySem.W.Frag} {w : World} {XC : Str → Option Addr} {mg : Str → Option Value} {x : Str} {p : Addr} {L : List (Str × D)} {t : TE} {f : FG D} (T : Tab K w XC mg x p L) (h : CE ⟨K, XC⟩ pn E t f) : CE ⟨K, XC⟩ pn E (tOp (rIxD K w) (tC (.ref p)) t) (op1 (dTab L) f) := by
  refine CG.bind (t := t) h fun v a U e σ H B r p' Q rl rz hf post => ?_
  obtain ⟨c, hc, rfl, rfl⟩ := optG_eq hf
  unfold dTab at hc
  split at hc
  · next z =>
    obtain ⟨v0, kd, rv⟩ := T.at_ z c hc
    cases rz.str_inv
    exact ⟨p, z, v0, rfl, rfl, kd, post v0 H B rl (Same.refl _) Keep.refl (rv B)⟩
  · cases hc
end
end Fw

set_option linter.all false
set_option maxRecDepth 100000
set_option maxHeartbeats 4000000
namespace Fw
open PySem PySem.Spec PyProof.Rows L2
/-! ### what the written part holds, read by evaluation: constants and tables of the module -/
def mapO {α β : Type} (f : α → Option β) : List α → Option (List β)
  | [] => some []
  | x :: xs => match f x with
    | some y => (match mapO f xs with
      | some ys => some (y :: ys)
      | none => none)
    | none => none
def kTup (K : PySem.W.Frag) (a : Addr) : Option (List Value) := match K.lookup a with
  | some ⟨.type c, _, .seq its _, _⟩ => (match decide (c = "tuple") && decide (its.size ≤ sizeLine) with
    | true => some its.toList
    | false => none)
  | _ => none
def kRd (K : PySem.W.Frag) : Nat → Value → Option D
  | 0, _ => none
  | n + 1, u => match u with
    | .int i _ => some (.int i)
    | .str x _ => some (.str x)
    | .bool b => some (.bool b)
    | .none => some .none
    | .ref a => (match kTup K a with
      | some us => (match mapO (kRd K n) us with
        | some ds => some (kD ds)
        | none => none)
      | none => none)
    | _ => none
section
variable {K : PySem.W.Frag} {XC : Str → Option Addr} {mg : Str → Option Value} {w : World}
theorem kTup_ok {a : Addr} {us : List Value} {vs : List V} (h : kTup K a = some us) (r : Vals vs us) : KT K a vs := by
  unfold kTup at h
  split at h
  · next c od its n osl hl =>
    split at h
    · next z =>
      cases h
      obtain ⟨z1, z2⟩ := Bool.and_eq_true_iff.mp z
      exact ⟨_, its, n, hl, by rw [of_decide_eq_true z1], rfl, of_decide_eq_true z2, r⟩
    · cases h
  · cases h
theorem mapO_ok {f : Value → Option D} (hf : ∀ u d, f u = some d → ∃ v, RelV v u ∧ ∀ XC B, Rz ⟨K, XC⟩ B v d) : ∀ {us : List Value} {ds : List D}, mapO f us = some ds → ∃ vs, Vals vs us ∧ ∀ XC B, RzA ⟨K, XC⟩ B vs ds
  | [], _, h => by cases h; exact ⟨[], .nil, fun _ _ => .nil⟩
  | u :: us, ds, h => by
    unfold mapO at h
    split at h
    · next y hy =>
      split at h
      · next ys hys =>
        cases h
        obtain ⟨v, r, z⟩ := hf u y hy
        obtain ⟨vs, rs, zs⟩ := mapO_ok hf hys
        exact ⟨v :: vs, .cons r rs, fun XC B => .cons (z XC B) (zs XC B)⟩
      · cases h
    · cases h
theorem kRd_ok : ∀ {n : Nat} {u : Value} {d : D}, kRd K n u = some d → ∃ v, RelV v u ∧ ∀ XC B, Rz ⟨K, XC⟩ B v d
  | 0, _, _, h => by cases h
  | n + 1, u, d, h => by
    unfold kRd at h
    split at h
    · cases h; exact ⟨.int _, ⟨_, rfl⟩, fun _ _ => .int _⟩
    · cases h; exact ⟨.str _, ⟨_, rfl⟩, fun _ _ => .str _⟩
    · next b => cases h; exact ⟨.bl b, rfl, fun _ _ => .bl _⟩
    · cases h; exact ⟨.non, rfl, fun _ _ => .non⟩
    · next a =>
      split at h
      · next us hu =>
        split at h
        · next ds hd =>
          cases h
          obtain ⟨vs, r, z⟩ := mapO_ok (fun u d => kRd_ok) hd
          exact ⟨.ref a, rfl, fun XC B => .kt (kTup_ok hu r) (z XC B)⟩
        · cases h
      · cases h
    · cases h
theorem Cst.of {x : Str} {u : Value} {d : D} (n : Nat) (hm : mg x = some u) (h : kRd K n u = some d) : ∃ v, Cst K XC mg x v d := by
  obtain ⟨v, r, z⟩ := kRd_ok h
  exact ⟨v, ⟨_, hm, r⟩, z XC⟩
def kAt (K : PySem.W.Frag) (p : Addr) (n : Nat) (x : Str) : Option D := match PySem.W.nsIn K p x with
  | some (some u) => kRd K n u
  | _ => none
theorem Tab.of {x : Str} {p : Addr} {L : List (Str × D)} (n : Nat) (hm : mg x = some (.ref p)) (h1 : He.dicW K p = some (He.keysIn w.params (L.map (·.1)))) (h2 : mapO (fun q : Str × D => kAt K p n q.1) L = some (L.map (·.2))) : Tab K w XC mg x p L := by
  refine ⟨hm, fun z d hz => ?_⟩
  obtain ⟨es, n', k⟩ := He.dicW_ok (w := w) h1
  have hmem : ∀ {l : List (Str × D)}, mapO (fun q : Str × D => kAt K p n q.1) l = some (l.map (·.2)) → ∀ {z d}, l.lookup z = some d → kAt K p n z = some d := by
    intro l
    induction l with
    | nil => intro _ z d h; cases h
    | cons q l ih =>
      intro h z d hl
      unfold mapO at h
      split at h
      · next y hy =>
        split at h
        · next ys hys =>
          rw [List.map_cons] at h
          obtain ⟨e1, e2⟩ := List.cons.inj (Option.some.inj h)
          obtain ⟨q1, q2⟩ := q
          rw [List.lookup_cons] at hl
          split at hl
          · next hb => cases hl; rw [beq_iff_eq.mp hb]; exact hy.trans (by rw [e1])
          · exact ih (by rw [hys, e2]) hl
        · cases h
      · cases h
  have e := hmem h2 hz
  unfold kAt at e
  split at e
  · next u hu =>
    obtain ⟨v, r, zz⟩ := kRd_ok e
    exact ⟨v, ⟨es, n', u, k.1, k.lit, hu, r⟩, zz XC⟩
  · cases e
end
end Fw

set_option linter.all false
namespace Sb
open PySem PySem.Spec PyProof.Rows L2
def top (i : Nat) : Stmt := PySem.Challenge.pw_sparkboard_k24_whole_wires_of_each_lengt.main.body.getD i (.Pass ⟨0, 0, 0, 0⟩)
end Sb

set_option linter.all false
set_option maxRecDepth 100000
set_option maxHeartbeats 4000000
/-! sorted of lists of pairs: pairs of ints, pairs of pairs of ints -/
namespace SrtD
open PySem PySem.W PyProof.Rows SrtO
section
variable {prog : Program} {w : World} {A : Around} {s : Shared} {β γ : Type} [DecidableEq β] [DatumOrd β] [DecidableEq γ] [DatumOrd γ]
theorem pair_back {h : Heap} {v : Value} {x : β × γ} (H : Holds h v x) : ∃ a o f g n, v = .ref a ∧ h.get? a = some o ∧ o.cls = .type "tuple" ∧ o.data = .seq #[f, g] n ∧ Holds h f x.1 ∧ Holds h g x.2 := by
  obtain ⟨as, r⟩ := H
  have r : Reads h v (.tuple [Datum.toD x.1, Datum.toD x.2]) as := r
  cases r with
  | @tuple a o vs n _ _ ho hc hd rs =>
    obtain ⟨l⟩ := vs
    cases rs with
    | cons r1 t =>
      cases t with
      | cons r2 t2 =>
        cases t2
        exact ⟨a, o, _, _, n, rfl, ho, hc, hd, ⟨_, r1⟩, ⟨_, r2⟩⟩
/-- what first items are: their type, how two of them are told apart -/
structure Fst (β : Type) [DecidableEq β] [DatumOrd β] (T : Value) : Prop where
  ty : ∀ (h : Heap) (v : Value) (x : β) (M : Model), Holds h v x → Looks M h (typeOf v) T
  one : ∀ (prog : Program) (w : World) (A : Around) (s : Shared) (p q : Value) (x y : β) (Q : Bool → Shared → Prop) (E : Value → Shared → Prop), A.units + 64 < cLine → Holds s.heap p x → Holds s.heap q y → Q (DatumOrd.lt x y) s → wpAny (model prog w) A (oneLt' (T != .type "tuple") p q) Q E s
  tt : (T == T) = true
  dp : Datum.depth β ≤ 30
theorem fst_int : Fst Int (.type "int") where
  ty h v x M H := by
    obtain ⟨as, r⟩ := H
    have r : Reads h v (.int x) as := r
    cases r
    exact Looks.now
  one prog w A s p q x y Q E hu H1 H2 hq := by
    obtain ⟨as, r⟩ := H1
    have r : Reads s.heap p (.int x) as := r
    obtain ⟨bs, r2⟩ := H2
    have r2 : Reads s.heap q (.int y) bs := r2
    cases r
    cases r2
    rw [show ((Value.type "int") != Value.type "tuple") = true by first | decide +kernel | rfl | decide]
    exact oneLt_int hq
  tt := by rfl
  dp := Nat.zero_le _
theorem one_gen {p q : Value} {x y : β} {Q : Bool → Shared → Prop} {E : Value → Shared → Prop} (hd : Datum.depth β ≤ 30) (hu : A.units + 64 < cLine) (H1 : Holds s.heap p x) (H2 : Holds s.heap q y) (hq : Q (DatumOrd.lt x y) s) : wpAny (model prog w) A (oneLt' false p q) Q E s :=
  kat_one _ _ (lt_datum H1 H2 (by omega) hq)
theorem fst_pair (hd : Datum.depth (β × γ) ≤ 30) : Fst (β × γ) (.type "tuple") where
  ty h v x M H := by
    obtain ⟨a, o, f, g, n, rfl, ho, hc, _⟩ := pair_back H
    exact fun A Q E s k q => wpAny_typeOf_ref (k _ _ ho) (by rw [hc]; exact q)
  one prog w A s p q x y Q E hu H1 H2 hq := by
    rw [show ((Value.type "tuple") != Value.type "tuple") = false by first | decide +kernel | rfl | decide]
    exact one_gen hd hu H1 H2 hq
  tt := by rfl
  dp := hd
theorem eq_at {p q : Value} {x y : β} (hd : Datum.depth β ≤ 30) (hu : A.units + 64 < cLine) (H1 : Holds s.heap p x) (H2 : Holds s.heap q y) : SeqAt.EqAt A s p q (decide (x = y)) := by
  obtain ⟨as, r⟩ := H1
  obtain ⟨bs, r2⟩ := H2
  rw [← Datum.eqv]
  refine eqAt_alike _ _ A s p q as bs r r2 (DatumOrd.alike x y) ?_
  have := Datum.depth_le x
  omega
theorem lt_pair {x y : β × γ} : DatumOrd.lt x y = if x.1 = y.1 then DatumOrd.lt x.2 y.2 else DatumOrd.lt x.1 y.1 := rfl
theorem ltD_self (x : β) : DatumOrd.lt x x = false := by
  rw [← DatumOrd.lt_eq]
  exact dataLt_self _
theorem cmp_pairs {T : Value} (F : Fst β T) (hg : Datum.depth γ ≤ 30) (hu : A.units + 64 < cLine) {vs : List Value} {k : Value → β × γ} (hp : ∀ v ∈ vs, Holds s.heap v (k v)) : SrtO.Cmp prog w A s (tuples' (T != .type "tuple")) (fun p => p.1 ∈ vs) (lt2 fun v u => DatumOrd.lt (k v) (k u)) := by
  intro p q hm hm'
  have h1 := hp _ hm
  have h2 := hp _ hm'
  show wpAny (model prog w) A (keyLt' (tuples' (T != .type "tuple")) p.1 q.1) (fun r s' => s' = s ∧ r = DatumOrd.lt (k p.1) (k q.1)) (fun _ _ => False) s
  generalize k p.1 = x at h1 ⊢
  generalize k q.1 = y at h2 ⊢
  obtain ⟨a, o, f, g, n, e, ho, hc, hd, hf, hgg⟩ := pair_back h1
  obtain ⟨a', o', f', g', n', e', ho', hc', hd', hf', hg'⟩ := pair_back h2
  rw [e, e']
  refine kat_lt ho hd ho' hd' ?_
  show KatLex prog w A _ (decide (2 < 2)) _ [(f, f'), (g, g')] 0 s
  refine kat_cons (eq_at F.dp hu hf hf' prog w _ _ ?_)
  refine kat_go (fun e1 => ?_) (fun e1 => ?_)
  · have ex : x.1 = y.1 := by simpa using e1
    refine kat_yes (kat_cons (eq_at hg hu hgg hg' prog w _ _ ?_))
    refine kat_go (fun e2 => ?_) (fun e2 => ?_)
    · have ey : x.2 = y.2 := by simpa using e2
      refine kat_yes (kat_nil ⟨rfl, ?_⟩)
      rw [show x = y from Prod.ext ex ey, ltD_self]
      rfl
    · refine kat_no ?_
      rw [show ((T != Value.type "tuple") && (0 + 1 == 0)) = false by cases (T != Value.type "tuple") <;> rfl]
      refine one_gen hg hu hgg hg' ⟨rfl, ?_⟩
      rw [lt_pair, if_pos ex]
  · have ex : ¬ x.1 = y.1 := by simpa using e1
    refine kat_no ?_
    rw [show ((T != Value.type "tuple") && (0 == 0)) = (T != Value.type "tuple") by cases (T != Value.type "tuple") <;> rfl]
    refine F.one prog w A s f f' x.1 y.1 _ _ hu hf hf' ⟨rfl, ?_⟩
    rw [lt_pair, if_neg ex]
theorem firsts_pairs {h : Heap} {k : Value → β × γ} : ∀ {vs : List Value}, (∀ v ∈ vs, Holds h v (k v)) → ∃ fs : List Value, KatTups h vs fs ∧ fs.length = vs.length ∧ ∀ f ∈ fs, ∃ x : β, Holds h f x
  | [], _ => ⟨[], KatTups.nil, rfl, fun _ hm => nomatch hm⟩
  | v :: vs, hp => by
    obtain ⟨fs, h1, h2, h3⟩ := firsts_pairs (vs := vs) fun v' hm => hp v' (List.mem_cons_of_mem _ hm)
    obtain ⟨a, o, f, g, n, e, ho, hc, hd, hf, hg⟩ := pair_back (hp v (List.mem_cons_self ..))
    rw [e]
    refine ⟨f :: fs, KatTups.cons ho hc hd rfl h1, congrArg Nat.succ h2, fun z hm => ?_⟩
    rcases List.mem_cons.mp hm with rfl | hm
    · exact ⟨_, hf⟩
    · exact h3 z hm
theorem sorts {T : Value} (F : Fst β T) (hg : Datum.depth γ ≤ 30) (hu : A.units + 64 < cLine) {a : Addr} {vs : List Value} {k : Value → β × γ} (h0 : 0 < vs.length) (hp : ∀ (h' : Heap), (∀ b o, b ≠ a → s.heap.get? b = some o → h'.get? b = some o) → ∀ v ∈ vs, Holds h' v (k v)) : SortableO prog w A s a vs fun v u => DatumOrd.lt (k v) (k u) := by
  intro h' keep
  have hp' := hp h' keep
  obtain ⟨fs, h1, h2, h3⟩ := firsts_pairs hp'
  refine ⟨tuples' (T != .type "tuple"), fun Q E hq => ?_, cmp_pairs (s := { s with heap := h' }) F hg hu hp'⟩
  refine kat_kind (s := { s with heap := h' }) (T := T) h1 (by omega) (fun f hm => ?_) F.tt hq
  obtain ⟨x, hx⟩ := h3 f hm
  exact F.ty _ _ x _ hx
end
end SrtD
namespace SrtD
open PySem PySem.W PyProof.Rows SrtO
/-- a whole order -/
class Whole (α : Type) [DecidableEq α] [DatumOrd α] : Prop where
  asym : ∀ x y : α, DatumOrd.lt x y = true → DatumOrd.lt y x = false
  tri : ∀ x y : α, DatumOrd.lt x y = false → DatumOrd.lt y x = false → x = y
  tr : ∀ x y z : α, DatumOrd.lt x y = true → DatumOrd.lt y z = true → DatumOrd.lt x z = true
theorem lt_intD (x y : Int) : DatumOrd.lt x y = decide (x < y) := rfl
instance : Whole Int where
  asym x y h := by
    rw [lt_intD] at h ⊢
    have := of_decide_eq_true h
    exact decide_eq_false (by omega)
  tri x y h k := by
    rw [lt_intD] at h k
    have := of_decide_eq_false h
    have := of_decide_eq_false k
    omega
  tr x y z h k := by
    rw [lt_intD] at h k ⊢
    have := of_decide_eq_true h
    have := of_decide_eq_true k
    exact decide_eq_true (by omega)
section
variable {α β γ : Type} [DecidableEq α] [DatumOrd α] [Whole α] [DecidableEq β] [DatumOrd β] [Whole β] [DecidableEq γ] [DatumOrd γ] [Whole γ]
instance : Whole (β × γ) where
  asym x y h := by
    rw [lt_pair] at h ⊢
    by_cases e : x.1 = y.1
    · rw [if_pos e] at h
      rw [if_pos e.symm]
      exact Whole.asym _ _ h
    · rw [if_neg e] at h
      rw [if_neg (fun z => e z.symm)]
      exact Whole.asym _ _ h
  tri x y h k := by
    rw [lt_pair] at h k
    by_cases e : x.1 = y.1
    · rw [if_pos e] at h
      rw [if_pos e.symm] at k
      exact Prod.ext e (Whole.tri _ _ h k)
    · rw [if_neg e] at h
      rw [if_neg (fun z => e z.symm)] at k
      exact absurd (Whole.tri _ _ h k) e
  tr x y z h k := by
    rw [lt_pair] at h k ⊢
    by_cases e : x.1 = y.1
    · rw [if_pos e] at h
      by_cases e2 : y.1 = z.1
      · rw [if_pos e2] at k
        rw [if_pos (e.trans e2)]
        exact Whole.tr _ _ _ h k
      · rw [if_neg e2] at k
        rw [if_neg (fun q => e2 (e.symm.trans q)), e]
        exact k
    · rw [if_neg e] at h
      by_cases e2 : y.1 = z.1
      · rw [if_neg (fun q => e (q.trans e2.symm)), ← e2]
        exact h
      · rw [if_neg e2] at k
        have t := Whole.tr _ _ _ h k
        rw [if_neg (fun q => by rw [← q] at k; have := Whole.asym _ _ h; rw [k] at this; cases this)]
        exact t
theorem Whole.no {x y : α} (h : DatumOrd.lt x y = false) : x = y ∨ DatumOrd.lt y x = true := by
  cases e : DatumOrd.lt y x with
  | true => exact .inr rfl
  | false => exact .inl (Whole.tri _ _ h e)
theorem whole_swo {δ : Type} (k : δ → α) : Swo fun v u => DatumOrd.lt (k v) (k u) := by
  refine ⟨fun x y h => Whole.asym _ _ h, fun x y z h1 h2 => ?_⟩
  rcases Whole.no h1 with e | h1
  · rw [e] at h2
    exact h2
  rcases Whole.no h2 with e | h2
  · rw [e]
    exact Whole.asym _ _ h1
  exact Whole.asym _ _ (Whole.tr _ _ _ h1 h2)
def insO (x : α) : List α → List α
  | [] => [x]
  | y :: ys => if DatumOrd.lt y x = true then y :: insO x ys else x :: y :: ys
def sortO : List α → List α
  | [] => []
  | x :: xs => insO x (sortO xs)
theorem insO_perm {x : α} : ∀ {ys : List α}, (insO x ys).Perm (x :: ys)
  | [] => .refl _
  | y :: ys => by
    unfold insO
    split
    · exact (insO_perm.cons y).trans (.swap ..)
    · exact .refl _
theorem insO_pw {x : α} : ∀ {ys : List α}, Srtd DatumOrd.lt ys → Srtd DatumOrd.lt (insO x ys)
  | [], _ => List.pairwise_singleton _ _
  | y :: ys, h => by
    obtain ⟨h1, h2⟩ := List.pairwise_cons.mp h
    unfold insO
    split
    · next c =>
      refine List.pairwise_cons.mpr ⟨fun z hz => ?_, insO_pw h2⟩
      rcases List.mem_cons.mp ((insO_perm (x := x) (ys := ys)).mem_iff.mp hz) with rfl | hz
      · exact Whole.asym _ _ c
      · exact h1 z hz
    · next c =>
      have c : DatumOrd.lt y x = false := by simpa using c
      refine List.pairwise_cons.mpr ⟨fun z hz => ?_, h⟩
      rcases List.mem_cons.mp hz with rfl | hz
      · exact c
      · exact (whole_swo (fun v : α => v)).tr x y z c (h1 z hz)
theorem sortO_perm : ∀ {xs : List α}, (sortO xs).Perm xs
  | [] => .refl _
  | _ :: _ => insO_perm.trans (.cons _ sortO_perm)
theorem sortO_pw : ∀ {xs : List α}, Srtd DatumOrd.lt (sortO xs)
  | [] => .nil
  | _ :: _ => insO_pw sortO_pw
theorem sortO_only {xs ys : List α} (p : ys.Perm xs) (h : Srtd DatumOrd.lt ys) : ys = sortO xs :=
  (p.trans sortO_perm.symm).eq_of_pairwise (fun a b _ _ h1 h2 => Whole.tri _ _ h2 h1) h sortO_pw
end
end SrtD
namespace L2
open PySem PySem.Spec PyProof.Rows
open PySem.W (Datum DatumOrd Holds)
section
variable {β γ : Type} [DecidableEq β] [DatumOrd β] [SrtD.Whole β] [DecidableEq γ] [DatumOrd γ] [SrtD.Whole γ]
/-- each value with what it reads as -/
def Goes (K : PySem.W.Frag) (H : Hp) (z : List (V × (β × γ))) : Prop := ∀ x ∈ z, (∃ t, x.1 = V.ref t) ∧ Dp K H x.1 (Datum.toD x.2)
/-- sorted(xs) of a list of pairs -/
def rSortedDt (β γ : Type) [DecidableEq β] [DatumOrd β] [DecidableEq γ] [DatumOrd γ] (K : PySem.W.Frag) : List V → Hp → VK → Prop := fun vs H Q => ∃ (a : Addr) (z : List (V × (β × γ))), vs = [V.ref a] ∧ SqL K H a (z.map (·.1)) ∧ Goes K H z ∧
  ∀ (y : List (V × (β × γ))) p, y.Perm z → SrtO.Srtd DatumOrd.lt (y.map (·.2)) → H p = none → Q (.ref p) (upd H p (.lst (y.map (·.1))))
theorem cr_sortedDt [Inhabited β] [Inhabited γ] {X : Cx} {T : Value} (F : SrtD.Fst β T) (hg : Datum.depth γ ≤ 30) (hu : X.A.units + 66 < cLine) : CallR X (.builtin "sorted") (rSortedDt β γ X.K) := by
  intro pins s σ H vs us Q I r h
  obtain ⟨a, z, rfl, hs, hx, q⟩ := h
  obtain ⟨its, rv, hl, hz⟩ := I.list hs
  obtain ⟨u, rfl, ru⟩ := vals1 r
  obtain rfl : u = Value.ref a := ru
  obtain ⟨e1, e2⟩ := refs_back rv fun x m => by
    obtain ⟨p, hp, rfl⟩ := List.mem_map.mp m
    exact (hx p hp).1
  -- what a value reads as
  have rd : ∀ p ∈ z, ∀ u, RelV p.1 u → Holds s.heap u p.2 := fun p hp u hu => Dp.reads I _ _ _ (hx p hp).2 hu
  have one : ∀ (u : Value) (x y : β × γ), Holds s.heap u x → Holds s.heap u y → x = y := fun u x y h1 h2 => by
    obtain ⟨as, r1⟩ := h1
    obtain ⟨bs, r2⟩ := h2
    have e := (PySem.Reads.unique r1 _ _ r2).1
    have e3 : PyData.eqv (Datum.toD x) (Datum.toD y) = true := by
      rw [← e, Datum.eqv]
      exact decide_eq_true rfl
    rw [Datum.eqv] at e3
    exact of_decide_eq_true e3
  obtain ⟨k, hk⟩ : ∃ k : Value → β × γ, ∀ p ∈ z, ∀ u, RelV p.1 u → k u = p.2 := by
    classical
    refine ⟨fun u => if c : ∃ x, Holds s.heap u x then c.choose else default, fun p hp u hu => ?_⟩
    have c : ∃ x, Holds s.heap u x := ⟨_, rd p hp u hu⟩
    show (if c : ∃ x, Holds s.heap u x then c.choose else default) = _
    rw [dif_pos c]
    exact one u _ _ c.choose_spec (rd p hp u hu)
  have zw : ∀ u ∈ its, ∃ p ∈ z, RelV p.1 u := fun u hu => by
    obtain ⟨b, rfl⟩ := e2 u hu
    have m : backV (.ref b) ∈ z.map (·.1) := by rw [e1]; exact List.mem_map_of_mem hu
    obtain ⟨p, hp, e⟩ := List.mem_map.mp m
    exact ⟨p, hp, by rw [e]; rfl⟩
  have zeq : z = its.map fun u => (backV u, k u) := by
    refine List.ext_getElem (by have := congrArg List.length e1; simpa using this) fun i h1 h2 => ?_
    have hi : i < its.length := by simpa using h2
    have e3 : (z[i]).1 = backV its[i] := by
      have := congrArg (fun l : List V => l[i]?) e1
      simp only [List.getElem?_map, List.getElem?_eq_getElem h1, List.getElem?_eq_getElem hi, Option.map_some, Option.some.injEq] at this
      exact this
    rw [List.getElem_map]
    obtain ⟨b, hb⟩ := e2 its[i] (List.getElem_mem hi)
    have e4 := hk z[i] (List.getElem_mem h1) its[i] (by rw [e3, hb]; rfl)
    exact Prod.ext e3 e4.symm
  have hh : ∀ u ∈ its, Holds s.heap u (k u) := fun u hu => by
    obtain ⟨p, hp, r⟩ := zw u hu
    rw [hk p hp u r]
    exact rd p hp u r
  refine SrtO.sorted_ord (SrtD.whole_swo k) hl.isList (by rw [← rv.length]; exact hz) (fun h2 h₁ a1 ha kk => ?_) fun out hs hb => ?_
  · have hu2 : X.A.in1.in1.units + 64 < cLine := by show X.A.units + 1 + 1 + 64 < cLine; omega
    exact SrtD.sorts F hg hu2 (by omega) fun h' keep v hv => (hh v hv).keeps fun b o e => keep b o (kk b o e).1 (kk b o e).2
  · have h3 : ∀ u ∈ out, ∃ a, u = Value.ref a := fun u hu => e2 u (hb.perm.mem_iff.mp hu)
    have fresh : H (s.heap.objs.size + 1) = none := I.hok.fresh (Nat.le_succ _)
    have ly : (out.map fun u => (backV u, k u)).map (·.1) = out.map backV := by rw [List.map_map]; rfl
    obtain ⟨n, hn⟩ := sortedAll_at s.heap its out.toArray
    refine ⟨.ref (s.heap.objs.size + 1), upd H (s.heap.objs.size + 1) (.lst (out.map backV)), I.laid (t' := s.toks) (fun b o e => sortedAll_old e) (Nat.le_succ _) ⟨?_, out, n, vals_back h3, hn⟩, rfl, ?_⟩
    · show (out.map backV).length ≤ sizeLine
      rw [List.length_map, hb.len]
      have := congrArg List.length e1
      rw [List.length_map, List.length_map] at this
      rw [List.length_map] at hz
      omega
    · have qq := q (out.map fun u => (backV u, k u)) (s.heap.objs.size + 1) (by rw [zeq]; exact hb.perm.map _) (by rw [List.map_map]; exact List.pairwise_map.mpr hs) fresh
      rw [ly] at qq
      exact qq
end
end L2
namespace Fw
open PySem PySem.Spec PyProof.Rows L2
open PySem.W (Datum DatumOrd)
/-! ### sorted of ints, of pairs of ints, of pairs of pairs -/
abbrev I2 := Int × Int
def i2D : D → Option I2
  | .tuple [.int a, .int b] => some (a, b)
  | _ => none
def i22D : D → Option (I2 × I2)
  | .tuple [a, b] => (i2D a).bind fun x => (i2D b).map fun y => (x, y)
  | _ => none
theorem i2D_eq {d : D} {x : I2} (h : i2D d = some x) : d = Datum.toD x := by
  unfold i2D at h
  split at h
  · cases h; rfl
  · cases h
theorem i22D_eq {d : D} {x : I2 × I2} (h : i22D d = some x) : d = Datum.toD x := by
  unfold i22D at h
  split at h
  · next a b =>
    obtain ⟨y, hy, h⟩ := Option.bind_eq_some_iff.mp h
    obtain ⟨z, hz, h⟩ := Option.map_eq_some_iff.mp h
    cases h
    rw [i2D_eq hy, i2D_eq hz]
    rfl
  · cases h
def allO {α : Type} (f : D → Option α) : List D → Option (List α)
  | [] => some []
  | d :: ds => (f d).bind fun x => (allO f ds).map fun xs => x :: xs
theorem allO_eq {α : Type} {f : D → Option α} {e : α → D} (h : ∀ d x, f d = some x → d = e x) : ∀ {ds : List D} {xs : List α}, allO f ds = some xs → ds = xs.map e
  | [], xs, q => by cases q; rfl
  | d :: ds, xs, q => by
    obtain ⟨x, hx, q⟩ := Option.bind_eq_some_iff.mp q
    obtain ⟨ys, hy, q⟩ := Option.map_eq_some_iff.mp q
    cases q
    rw [h d x hx, allO_eq h hy]
    rfl
def sortD2 (ds : List D) : Option (List D) := match allO i2D ds with
  | some xs => some ((SrtD.sortO xs).map Datum.toD)
  | none => (allO i22D ds).map fun xs => (SrtD.sortO xs).map Datum.toD
def dSort : D → Option D
  | .list ds => match intsD ds with
    | some ns => some (.list ((sortI ns).map PyData.int))
    | none => (sortD2 ds).map .list
  | _ => none
def uSort (K : PySem.W.Frag) : List V → Hp → VK → Prop := fun vs H Q => rSortedI K vs H Q ∨ rSortedDt Int Int K vs H Q ∨ rSortedDt I2 I2 K vs H Q
theorem c_sort {X : Cx} (hu : X.A.units + 70 < cLine) : CallR X (.builtin "sorted") (uSort X.K) := by
  intro pins s σ H vs us Q I r h
  rcases h with h | h | h
  · exact cr_sortedI pins s σ H vs us Q I r h
  · exact cr_sortedDt SrtD.fst_int (by decide) (by omega) pins s σ H vs us Q I r h
  · exact cr_sortedDt (SrtD.fst_pair (by decide)) (by decide) (by omega) pins s σ H vs us Q I r h
section
variable {G : Gm} {U : Hp} {pn : Pn} {E : XK} {e : Ev} {σ : L2.St} {H B H' B' H1 B1 : Hp}
theorem RzA.ofZip {α : Type} {f : α → D} : ∀ {y : List (V × α)}, (∀ p ∈ y, Rz G B p.1 (f p.2)) → RzA G B (y.map (·.1)) ((y.map (·.2)).map f)
  | [], _ => .nil
  | p :: y, h => .cons (h p (.head _)) (RzA.ofZip fun q hq => h q (.tail _ hq))
theorem RzA.zipO {α : Type} {f : α → D} : ∀ {xs : List V} {as : List α}, RzA G B xs (as.map f) → ∃ z : List (V × α), z.map (·.1) = xs ∧ z.map (·.2) = as ∧ ∀ p ∈ z, Rz G B p.1 (f p.2)
  | _, [], h => by cases h; exact ⟨[], rfl, rfl, fun p hp => nomatch hp⟩
  | _, a :: as, h => by
    cases h with
    | @cons v vs _ _ h1 t =>
      obtain ⟨z, e1, e2, h3⟩ := RzA.zipO t
      refine ⟨(v, a) :: z, by rw [← e1]; rfl, by rw [← e2]; rfl, fun p hp => ?_⟩
      rcases List.mem_cons.mp hp with rfl | hp
      · exact h1
      · exact h3 p hp
theorem f_sortDt {β γ : Type} [DecidableEq β] [DatumOrd β] [SrtD.Whole β] [DecidableEq γ] [DatumOrd γ] [SrtD.Whole γ] {a1 : Addr} {xs : List V} {as : List (β × γ)} {Q : VK}
    (pl : ∀ x : β × γ, plain (Datum.toD x) = true) (rl : Rl G U pn e σ H B) (h1 : H a1 = some (.lst xs)) (r1 : RzA G B xs (as.map Datum.toD)) (rf : ∀ x ∈ xs, ∃ t, x = V.ref t)
    (q : ∀ p H' B', Fresh G U pn ⟨e.sl, e.pen⟩ σ H' B' p (.list ((SrtD.sortO as).map Datum.toD)) → Same B B' → Keep pn H H' → Q (.ref p) H') : rSortedDt β γ G.K [.ref a1] H Q := by
  obtain ⟨z, e1, e2, h3⟩ := RzA.zipO r1
  refine ⟨a1, z, rfl, by rw [e1]; exact SqL.of h1, fun p hp => ⟨rf _ (by rw [← e1]; exact List.mem_map_of_mem hp), Rz.dp (pl _) ((h3 p hp).same rl.b.bh)⟩, fun y p hy hs hq => ?_⟩
  have e3 : y.map (·.2) = SrtD.sortO as := SrtD.sortO_only (by rw [← e2]; exact hy.map _) hs
  have e4 : RzA G B (y.map (·.1)) ((SrtD.sortO as).map Datum.toD) := by
    rw [← e3]
    exact RzA.ofZip fun p hp => h3 p (hy.mem_iff.mp hp)
  exact q p _ B (rl.fresh hq (.lst upd_same e4)) (Same.refl _) (Keep.of (same_upd hq))
theorem RzA.refs {α : Type} {f : α → D} (h : ∀ a, ∃ ds, f a = .tuple ds) : ∀ {xs : List V} {as : List α}, RzA G B xs (as.map f) → ∀ x ∈ xs, ∃ t, x = V.ref t
  | _, [], r, x, hx => by cases r; cases hx
  | _, a :: as, r, x, hx => by
    cases r with
    | cons h1 t =>
      rcases List.mem_cons.mp hx with rfl | hx
      · obtain ⟨ds, e⟩ := h a
        rw [e] at h1
        obtain ⟨b, _, rfl, _⟩ := h1.tup_inv
        exact ⟨b, rfl⟩
      · exact RzA.refs h t x hx
theorem f_sort : Cf1 G pn (uSort G.K) dSort := by
  intro U e σ H B x a c Q rl ra h q
  unfold dSort at h
  split at h
  · next ds =>
    split at h
    · next ns hn =>
      exact .inl (f_sortI U e σ H B x (.list ds) c Q rl ra (by show Option.map (fun ns => PyData.list (List.map PyData.int (sortI ns))) (intsD ds) = some c; rw [hn]; exact h) q)
    · obtain ⟨es, hs, rfl⟩ := Option.map_eq_some_iff.mp h
      obtain ⟨a1, xs, rfl, h1, n1, r1⟩ := ra.lst_inv
      unfold sortD2 at hs
      split at hs
      · next as ha =>
        cases hs
        rw [allO_eq (fun d x => i2D_eq) ha] at r1
        exact .inr (.inl (f_sortDt (fun x => rfl) rl h1 r1 (RzA.refs (fun a => ⟨_, rfl⟩) r1) q))
      · obtain ⟨as, ha, rfl⟩ := Option.map_eq_some_iff.mp hs
        rw [allO_eq (fun d x => i22D_eq) ha] at r1
        exact .inr (.inr (f_sortDt (fun x => rfl) rl h1 r1 (RzA.refs (fun a => ⟨_, rfl⟩) r1) q))
  · cases h
end
end Fw

set_option linter.all false
set_option maxRecDepth 100000
set_option maxHeartbeats 4000000
namespace L2
open PySem PySem.Spec PyProof.Rows
/-! ### an empty dict is of both kinds -/
theorem empty_kt {P : Program} {w : World} {H H' : Hp} {h : Heap} {a : Addr} (x : ObjOk P w H h a (.dK [])) : ObjOk P w H' h a (.dT []) := by
  obtain ⟨hl, hd, vs, rel, dd⟩ := x
  cases rel
  obtain ⟨o, es, ep, h1, h2, h3, h4, h5, h6⟩ := dd
  refine ⟨hl, hd, [], .nil, o, es, ep, h1, h2, h3, ?_, .nil⟩
  generalize es.toList = l at h5 ⊢
  cases l with
  | nil => rfl
  | cons x l => cases h5
theorem empty_tk {P : Program} {w : World} {H H' : Hp} {h : Heap} {a : Addr} (x : ObjOk P w H h a (.dT [])) : ObjOk P w H' h a (.dK []) := by
  obtain ⟨hl, hd, xs, rel, o, es, ep, h1, h2, h3, h4⟩ := x
  cases rel
  obtain ⟨l⟩ := es
  have h4 : l = [] := h4.1
  subst h4
  exact ⟨hl, hd, [], .nil, o, _, ep, h1, h2, h3, (by intro i h; simp at h), .nil, .nil⟩
section
variable {X : Cx} {pins : List (Addr × Obj)} {σ : St} {H : Hp} {s : Shared} {a : Addr}
theorem there_k {P : Program} {w : World} {H : Hp} {h : Heap} {a : Addr} (x : ObjOk P w H h a (.dK [])) : ∃ q, h.get? a = some q := by
  obtain ⟨_, _, _, _, o, _, _, h1, _⟩ := x
  exact ⟨o, h1⟩
theorem there_t {P : Program} {w : World} {H : Hp} {h : Heap} {a : Addr} (x : ObjOk P w H h a (.dT [])) : ∃ q, h.get? a = some q := by
  obtain ⟨_, _, _, _, o, _, _, h1, _⟩ := x
  exact ⟨o, h1⟩
theorem Inv.swap {u o : HO} (I : Inv X pins σ H s) (e : H a = some u) (m : Mut (some u)) (th : ObjOk X.prog X.w H s.heap a u → ∃ q, s.heap.get? a = some q) (x : ObjOk X.prog X.w H s.heap a u → ObjOk X.prog X.w (upd H a o) s.heap a o) : Inv X pins σ (upd H a o) s := by
  have ok := I.hok a _ e
  obtain ⟨q, hq⟩ := th ok
  exact d_write (t' := s.toks) (h' := s.heap) I (by rw [e]; exact m) ⟨rfl, fun _ _ => rfl⟩ ⟨q, hq⟩ (x ok)
/-- a in the dict y: what it holds there -/
def DGetU (H : Hp) (a : Addr) (y : V) (r : Option V) : Prop := DGet H a y r ∨ (H a = some (.dK []) ∧ DGet (upd H a (.dT [])) a y r) ∨ (H a = some (.dT []) ∧ DGet (upd H a (.dK [])) a y r)
def DPutU (H : Hp) (a : Addr) (y v : V) (H' : Hp) : Prop := DPut H a y v H' ∨ (H a = some (.dK []) ∧ DPut (upd H a (.dT [])) a y v H') ∨ (H a = some (.dT []) ∧ DPut (upd H a (.dK [])) a y v H')
def rSetDU : TSet := fun o i v H Q => ∃ a H', o = .ref a ∧ DPutU H a i v H' ∧ Q H'
theorem upd_back {u o : HO} (e : H a = some u) : upd (upd H a o) a u = H := by
  funext b
  by_cases z : b = a
  · rw [z, upd_same, e]
  · rw [upd_ne z, upd_ne z]
theorem set_dictU (hu : X.A.units + 1 < cLine) : PSet X rSetDU := by
  intro pins s σ H o i v ov iv u Q I ro ri rv h
  obtain ⟨a, H', eo, g, q⟩ := h
  subst eo
  cases (show ov = Value.ref a from ro)
  rcases g with g | ⟨e, g⟩ | ⟨e, g⟩
  · exact d_setItem hu I g ri rv fun s' I' => ⟨H', I', q⟩
  · exact d_setItem hu (I.swap e trivial there_k empty_kt) g ri rv fun s' I' => ⟨H', I', q⟩
  · exact d_setItem hu (I.swap e trivial there_t empty_tk) g ri rv fun s' I' => ⟨H', I', q⟩
def rInU (neg : Bool) : R2 := fun x y H Q => ∃ a o, y = .ref a ∧ DGetU H a x o ∧ Q (.bl (if neg = true then !o.isSome else o.isSome)) H
theorem op_inU (hu : X.A.units + 1 < cLine) : OpR X (compareOp .In) (rInU false) := by
  intro pins s σ H x y v u Q I rx ry h
  obtain ⟨a, o, rfl, g, q⟩ := h
  cases (show u = Value.ref a from ry)
  rcases g with g | ⟨e, g⟩ | ⟨e, g⟩
  · exact d_in hu I g rx fun s' I' => ⟨.bl _, H, I', rfl, q⟩
  · refine d_in hu (I.swap e trivial there_k empty_kt) g rx fun s' I' => ⟨.bl _, H, ?_, rfl, q⟩
    have z := I'.swap upd_same trivial there_t (empty_tk (H' := upd (upd H a (.dT [])) a (.dK [])))
    rw [upd_back e] at z
    exact z
  · refine d_in hu (I.swap e trivial there_t empty_tk) g rx fun s' I' => ⟨.bl _, H, ?_, rfl, q⟩
    have z := I'.swap upd_same trivial there_k (empty_kt (H' := upd (upd H a (.dK [])) a (.dT [])))
    rw [upd_back e] at z
    exact z
theorem op_notInU (hu : X.A.units + 1 < cLine) : OpR X (compareOp .NotIn) (rInU true) := by
  intro pins s σ H x y v u Q I rx ry h
  obtain ⟨a, o, rfl, g, q⟩ := h
  cases (show u = Value.ref a from ry)
  rcases g with g | ⟨e, g⟩ | ⟨e, g⟩
  · exact d_notIn hu I g rx fun s' I' => ⟨.bl _, H, I', rfl, q⟩
  · refine d_notIn hu (I.swap e trivial there_k empty_kt) g rx fun s' I' => ⟨.bl _, H, ?_, rfl, q⟩
    have z := I'.swap upd_same trivial there_t (empty_tk (H' := upd (upd H a (.dT [])) a (.dK [])))
    rw [upd_back e] at z
    exact z
  · refine d_notIn hu (I.swap e trivial there_t empty_tk) g rx fun s' I' => ⟨.bl _, H, ?_, rfl, q⟩
    have z := I'.swap upd_same trivial there_k (empty_kt (H' := upd (upd H a (.dK [])) a (.dT [])))
    rw [upd_back e] at z
    exact z
end
end L2
namespace Fw
open PySem PySem.Spec PyProof.Rows L2
/-! ### dicts whose keys are ints, texts, or tuples of them -/
def keyLs : List D → Option (List Key)
  | [] => some []
  | d :: ds => (keyOf d).bind fun k => (keyLs ds).map fun ks => k :: ks
theorem keyLs_eq : ∀ {ds : List D} {ks : List Key}, keyLs ds = some ks → ds = ks.map keyD
  | [], ks, h => by cases h; rfl
  | d :: ds, ks, h => by
    obtain ⟨k, h1, h⟩ := Option.bind_eq_some_iff.mp h
    obtain ⟨l, h2, h⟩ := Option.map_eq_some_iff.mp h
    cases h
    rw [keyOf_eq h1, keyLs_eq h2]
    rfl
/-- which keys: of one sign, tuples -/
inductive KK where
  | one (k : Key) | many (ks : List Key)
def kkOf : D → Option KK
  | .int i => some (.one (.inl i))
  | .str s => some (.one (.inr s))
  | .tuple ds => (keyLs ds).map .many
  | _ => none
def isOne (d : D) : Bool := (keyOf d).isSome
def isMany : D → Bool
  | .tuple _ => true
  | _ => false
/-- whether the keys of a dict go with a key -/
def fits (kvs : List (D × D)) : KK → Bool
  | .one _ => kvs.all fun p => isOne p.1
  | .many _ => kvs.all fun p => isMany p.1
/-- what d holds at k, if d is such a dict -/
def dAt (d k : D) : Option (Option D) := match d with
  | .dict kvs => (kkOf k).bind fun kk => if fits kvs kk = true then some (getD' kvs k) else none
  | _ => none
section
variable {G : Gm} {U : Hp} {pn : Pn} {E : XK} {e : Ev} {σ : L2.St} {H B H' B' H1 B1 : Hp}
theorem kk_one {d : D} {k : Key} (h : kkOf d = some (.one k)) : d = keyD k := by
  unfold kkOf at h
  split at h
  · cases h; rfl
  · cases h; rfl
  · obtain ⟨_, _, h⟩ := Option.map_eq_some_iff.mp h; cases h
  · cases h
theorem kk_many {d : D} {ks : List Key} (h : kkOf d = some (.many ks)) : d = keyT ks := by
  unfold kkOf at h
  split at h
  · cases h
  · cases h
  · obtain ⟨l, h1, h⟩ := Option.map_eq_some_iff.mp h
    cases h
    rw [keyLs_eq h1]
    rfl
  · cases h
theorem keyV_many {v : V} {ks : List Key} (rl : Rl G U pn e σ H B) (h : RzB G pn B H v (keyT ks)) : ∃ b, v = .ref b ∧ B b = some (.tup (ks.map kV)) := by
  obtain ⟨b, xs, rfl, hb, hr⟩ := h.tup_inv
  have e1 : ∀ {ks : List Key} {xs : List V}, RzA G B xs (ks.map keyD) → xs = ks.map kV := by
    intro ks
    induction ks with
    | nil => intro xs h; cases h; rfl
    | cons k ks ih =>
      intro xs h
      cases h with
      | cons h1 h2 =>
        rw [ih h2]
        cases k with
        | inl i => rw [h1.int_inv]; rfl
        | inr s => rw [h1.str_inv]; rfl
  rw [e1 hr] at hb
  exact ⟨b, rfl, hb⟩
/-- a dict, seen from without -/
theorem dict_inv {v : V} {kvs : List (D × D)} {kk : KK} (h : RzB G pn B H v (.dict kvs)) (f : fits kvs kk = true) : ∃ p, v = .ref p ∧ NP pn p ∧
    ((∃ ks ds, RdD H p (.dK ks) ∧ RzA G B (ks.map (·.2)) ds ∧ kvs = (ks.map fun k => keyD k.1).zip ds) ∨ ∃ ks ds, RdD H p (.dT ks) ∧ RzA G B (ks.map (·.2)) ds ∧ kvs = (ks.map fun k => keyT k.1).zip ds) := by
  generalize hd : PyData.dict kvs = d at h
  cases h with
  | dk h n hs => cases hd; exact ⟨_, rfl, n, .inl ⟨_, _, h, hs, rfl⟩⟩
  | dt h n hs => cases hd; exact ⟨_, rfl, n, .inr ⟨_, _, h, hs, rfl⟩⟩
  | ins h h2 h3 hs => cases hd; cases kk <;> simp [fits, isOne, isMany, keyOf] at f
  | fn h => cases hd; cases kk <;> simp [fits, isOne, isMany, keyOf] at f
  | kt h hs => cases hd; cases kk <;> simp [fits, isOne, isMany, keyOf] at f
  | _ => cases hd
theorem getD_one {k : Key} {ks : List (Key × V)} {ds : List D} (hr : RzA G B (ks.map (·.2)) ds) : (getD' ((ks.map fun k => keyD k.1).zip ds) (keyD k)).isSome = (valV ks k).isSome := by
  cases h : getD' ((ks.map fun k => keyD k.1).zip ds) (keyD k) with
  | none => rw [get_none kEq_key hr h]; rfl
  | some d => obtain ⟨v, h1, _⟩ := get_some kEq_key hr h; rw [h1]; rfl
theorem getD_many {k : List Key} {ks : List (List Key × V)} {ds : List D} (hr : RzA G B (ks.map (·.2)) ds) : (getD' ((ks.map fun k => keyT k.1).zip ds) (keyT k)).isSome = (valV ks k).isSome := by
  cases h : getD' ((ks.map fun k => keyT k.1).zip ds) (keyT k) with
  | none => rw [get_none kEq_tup hr h]; rfl
  | some d => obtain ⟨v, h1, _⟩ := get_some kEq_tup hr h; rw [h1]; rfl
/-- what is held at a key: the machine's word -/
theorem dAt_run {v w : V} {d k : D} {r : Option D} (rl : Rl G U pn e σ H B) (rd : RzB G pn B H v d) (rk : RzB G pn B H w k) (h : dAt d k = some r) :
    ∃ p o, v = .ref p ∧ DGetU H p w o ∧ o.isSome = r.isSome ∧ ∀ x, r = some x → ∃ y, o = some y ∧ Rz G B y x := by
  unfold dAt at h
  split at h
  · next kvs =>
    obtain ⟨kk, hk, h⟩ := Option.bind_eq_some_iff.mp h
    split at h
    · next hf =>
      cases h
      obtain ⟨p, rfl, n, c⟩ := dict_inv rd hf
      cases kk with
      | one k1 =>
        cases kk_one hk
        cases rk.keyV
        rcases c with ⟨ks, ds, hp, hr, rfl⟩ | ⟨ks, ds, hp, hr, rfl⟩
        · refine ⟨p, _, rfl, .inl (.inl ⟨ks, _, hp.rd, rfl, rfl⟩), (getD_one hr).symm, fun x hx => ?_⟩
          exact get_some kEq_key hr hx
        · have e1 : (ks.map fun k => keyT k.1).zip ds = [] := by
            cases ks with
            | nil => rfl
            | cons q ks => cases hr with
              | cons _ _ => simp [fits, isOne, keyT, keyOf] at hf
          have e2 : ks = [] := by
            cases ks with
            | nil => rfl
            | cons q ks => cases hr with
              | cons _ _ => cases e1
          subst e2
          rw [e1]
          have hp := RdD.plain hp (by simp)
          exact ⟨p, none, rfl, .inr (.inr ⟨hp, DGet.k (kvs := []) upd_same⟩), rfl, fun x hx => nomatch hx⟩
      | many k1 =>
        cases kk_many hk
        obtain ⟨b, rfl, hb⟩ := keyV_many rl rk
        have hb := rl.b.bh _ _ hb
        rcases c with ⟨ks, ds, hp, hr, rfl⟩ | ⟨ks, ds, hp, hr, rfl⟩
        · have e1 : (ks.map fun k => keyD k.1).zip ds = [] := by
            cases ks with
            | nil => rfl
            | cons q ks => cases hr with
              | cons _ _ => obtain ⟨q, u⟩ := q; cases q <;> simp [fits, isMany, keyD] at hf
          have e2 : ks = [] := by
            cases ks with
            | nil => rfl
            | cons q ks => cases hr with
              | cons _ _ => cases e1
          subst e2
          rw [e1]
          have hp := RdD.plain hp (by simp)
          refine ⟨p, none, rfl, .inr (.inl ⟨hp, DGet.t (kvs := []) (k := k1) upd_same ?_⟩), rfl, fun x hx => nomatch hx⟩
          rw [upd_ne (fun z => by rw [z, hp] at hb; cases hb)]
          exact hb
        · refine ⟨p, _, rfl, .inl (.inr ⟨ks, _, b, hp.rd, rfl, hb, rfl⟩), (getD_many hr).symm, fun x hx => ?_⟩
          exact get_some kEq_tup hr hx
    · cases h
  · cases h
def dInD (k d : D) : Option D := (dAt d k).map fun r => .bool r.isSome
def dInU (k d : D) : Option D := match dIn k d with
  | some r => some r
  | none => dInD k d
def dNotInU (k d : D) : Option D := match dNotIn k d with
  | some r => some r
  | none => (dAt d k).map fun r => .bool (!r.isSome)
def uInU (K : PySem.W.Frag) : R2 := fun x y H Q => uIn K x y H Q ∨ rInU false x y H Q
def uNotInU (K : PySem.W.Frag) : R2 := fun x y H Q => uNotIn K x y H Q ∨ rInU true x y H Q
theorem OpR.or2 {X : Cx} {f : Value → Value → Sem Value} {r r' : R2} (h : OpR X f r) (h' : OpR X f r') : OpR X f (fun x y H Q => r x y H Q ∨ r' x y H Q) :=
  fun pins s σ H x y v u Q I rx ry c => c.elim (h pins s σ H x y v u Q I rx ry) (h' pins s σ H x y v u Q I rx ry)
theorem o_inU {X : Cx} (hu : X.A.units + 65 < cLine) : OpR X (compareOp .In) (uInU X.K) := OpR.or2 (o_in hu) (op_inU (by omega))
theorem o_notInU {X : Cx} (hu : X.A.units + 65 < cLine) : OpR X (compareOp .NotIn) (uNotInU X.K) := OpR.or2 (o_notIn hu) (op_notInU (by omega))
theorem ob_inU : OpB G pn (uInU G.K) dInU := by
  intro U e σ H B x y a b c Q rl ra rb h q
  unfold dInU at h
  split at h
  · next r hr =>
    cases h
    exact .inl (ob_in U e σ H B x y a b c Q rl ra rb hr q)
  · obtain ⟨r, hr, rfl⟩ := Option.map_eq_some_iff.mp h
    obtain ⟨p, o, rfl, g, e1, _⟩ := dAt_run rl rb ra hr
    refine .inr ⟨p, o, rfl, g, ?_⟩
    rw [e1]
    exact q _ H B rl (Same.refl _) Keep.refl (.bl _)
theorem ob_notInU : OpB G pn (uNotInU G.K) dNotInU := by
  intro U e σ H B x y a b c Q rl ra rb h q
  unfold dNotInU at h
  split at h
  · next r hr =>
    cases h
    exact .inl (ob_notIn U e σ H B x y a b c Q rl ra rb hr q)
  · obtain ⟨r, hr, rfl⟩ := Option.map_eq_some_iff.mp h
    obtain ⟨p, o, rfl, g, e1, _⟩ := dAt_run rl rb ra hr
    refine .inr ⟨p, o, rfl, g, ?_⟩
    rw [e1]
    exact q _ H B rl (Same.refl _) Keep.refl (.bl _)
/-! ### d[k] = e, d one's own -/
def ownK (i : Nat) (e : Ev) : Option (List (D × D)) := match e.sl[i]? with
  | some (.o (.dict kvs)) => some kvs
  | _ => none
theorem ownK_eq {i : Nat} {e : Ev} {kvs : List (D × D)} (h : ownK i e = some kvs) : e.sl[i]? = some (.o (.dict kvs)) := by
  unfold ownK at h
  split at h
  · next hx => cases h; exact hx
  · cases h
/-- the store: a list's place, a dict's key -/
def subU (i : Nat) (fk : FG D) : FV := fun d e => match ownK i e with
  | none => subV i fk d e
  | some _ => match fk e with
    | some (.v k, p) => (ownK i ⟨e.sl, p⟩).bind fun kvs => (kkOf k).bind fun kk => if fits kvs kk = true ∧ kvs.length ≤ 1000000 then some ⟨e.sl.set i (.o (.dict (putD kvs k d))), p⟩ else none
    | _ => none
def rSetU : TSet := fun o i v H Q => rSetL o i v H Q ∨ rSetDU o i v H Q
theorem set_U {X : Cx} (hu : X.A.units + 65 < cLine) : PSet X rSetU := fun pins s σ H o i v ov iv u Q I ro ri rv h =>
  h.elim (set_list pins s σ H o i v ov iv u Q I ro ri rv) (set_dictU (by omega) pins s σ H o i v ov iv u Q I ro ri rv)
theorem own_dict {p : Addr} {kvs : List (D × D)} (h : OwnAt G B H p (.dict kvs)) : (∃ ks ds, H p = some (.dK ks) ∧ RzA G B (ks.map (·.2)) ds ∧ kvs = (ks.map fun k => keyD k.1).zip ds) ∨ ∃ ks ds, H p = some (.dT ks) ∧ RzA G B (ks.map (·.2)) ds ∧ kvs = (ks.map fun k => keyT k.1).zip ds := by
  generalize hd : PyData.dict kvs = d at h
  cases h with
  | lst h hs => cases hd
  | dk h hs => cases hd; exact .inl ⟨_, _, h, hs, rfl⟩
  | dt h hs => cases hd; exact .inr ⟨_, _, h, hs, rfl⟩
theorem putK_le1 {κ : Type} [DecidableEq κ] {ks : List (κ × V)} {ds : List D} {enc : κ → D} (hr : RzA G B (ks.map (·.2)) ds) (hl : ((ks.map fun k => enc k.1).zip ds).length ≤ 1000000) : ks.length < sizeLine := by
  have e := hr.length
  rw [List.length_map] at e
  rw [List.length_zip, List.length_map, ← e, Nat.min_self] at hl
  exact line_lt hl
theorem v_subU {i : Nat} {tk : TE} {fk : FG D} (hk : CE G pn E tk fk) : CV G pn (gSub (tVar i) tk rSetU) (subU i fk) := by
  intro U e σ H B v d e' Q rl rz h q
  unfold subU at h
  split at h
  · -- a list
    have h1 := v_sub (G := G) (pn := pn) (E := E) (i := i) hk U e σ H B v d e' Q rl rz h q
    obtain ⟨x, hx, h2⟩ := h1
    refine ⟨x, hx, ?_⟩
    obtain ⟨ds0, h0, h⟩ := Option.bind_eq_some_iff.mp h
    split at h
    · next k p hk' =>
      clear h2
      have h3 := v_sub (G := G) (pn := pn) (E := E) (i := i) hk U e σ H B v d e' Q rl rz (by unfold subV; rw [h0]; dsimp only [Option.bind_some]; rw [hk']; exact h) q
      obtain ⟨x', hx', h4⟩ := h3
      rw [hx] at hx'
      cases hx'
      obtain ⟨ds, h6, h7⟩ := Option.bind_eq_some_iff.mp h
      obtain ⟨j, h8, h9⟩ := Option.map_eq_some_iff.mp h7
      cases h9
      obtain ⟨p0, xs0, e0, e2, e3⟩ := rl.lst h0
      rw [hx] at e0
      cases e0
      refine hk U e σ H B _ _ _ rl hk' fun w H1 B1 rl1 s1 k1 rw => ?_
      obtain ⟨p', xs', e1', e2', e3'⟩ := rl1.lst (i := i) (ds := ds) h6
      rw [hx] at e1'
      cases e1'
      cases rw.int_inv
      exact .inl ⟨p0, xs', k, j, rfl, rfl, e2', by rw [e3'.length]; exact h8, q σ _ B1 (rl1.lstPut h6 hx (e3'.set (rz.same s1) j)) s1⟩
    · cases h
  · next kv0 hk0 =>
    split at h
    · next k p hk' =>
      obtain ⟨kvs, h1, h⟩ := Option.bind_eq_some_iff.mp h
      obtain ⟨kk, h2, h⟩ := Option.bind_eq_some_iff.mp h
      split at h
      · next hf =>
        cases h
        obtain ⟨p0, e0, _⟩ := rl.getO (ownK_eq hk0)
        refine ⟨_, e0, hk U e σ H B _ _ _ rl hk' fun w H1 B1 rl1 s1 k1 rw => ?_⟩
        have ho : (⟨e.sl, p⟩ : Ev).sl[i]? = some (.o (.dict kvs)) := ownK_eq h1
        obtain ⟨p', e1, ow, hB, hU, hn⟩ := rl1.getO ho
        rw [e0] at e1
        cases e1
        have rz1 := rz.same s1
        refine .inr ⟨p0, ?_⟩
        rcases own_dict ow with ⟨ks, ds, hp, hr, rfl⟩ | ⟨ks, ds, hp, hr, rfl⟩
        · have hl := putK_le1 hr hf.2
          cases kk with
          | one k1 =>
            cases kk_one h2
            cases (Rz.b rl1.b rw).keyV
            obtain ⟨ds', r1, r2⟩ := put_rz (k := k1) kEq_key rz1 hr
            refine ⟨_, rfl, .inl (DPut.k hp hl), q σ _ B1 ?_ s1⟩
            exact rl1.mut e0 ho (by rw [r2]; exact .dk upd_same r1)
          | many k1 =>
            cases kk_many h2
            obtain ⟨b, rfl, hb⟩ := keyV_many rl1 (Rz.b rl1.b rw)
            have hb := rl1.b.bh _ _ hb
            have e2 : ks = [] := by
              cases ks with
              | nil => rfl
              | cons q' ks => cases hr with
                | cons _ _ => obtain ⟨q', u⟩ := q'; have := hf.1; cases q' <;> simp [fits, isMany, keyD] at this
            subst e2
            cases hr
            have hb2 : upd H1 p0 (.dT []) b = some (.tup (k1.map kV)) := by
              rw [upd_ne (fun z => by rw [z, hp] at hb; cases hb)]
              exact hb
            have hq := q σ (upd (upd H1 p0 (.dT [])) p0 (.dT (putK [] k1 v))) B1 ?_ s1
            · exact ⟨_, rfl, .inr (.inl ⟨hp, DPut.t upd_same hb2 (by show 0 < sizeLine; decide)⟩), hq⟩
            · have e3 : upd (upd H1 p0 (.dT [])) p0 (.dT (putK [] k1 v)) = upd H1 p0 (.dT (putK [] k1 v)) := by
                funext c
                by_cases z : c = p0
                · rw [z, upd_same, upd_same]
                · rw [upd_ne z, upd_ne z, upd_ne z]
              rw [e3]
              exact rl1.mut e0 ho (OwnAt.dt (ks := [(k1, v)]) (ds := [d]) upd_same (.cons rz1 .nil))
        · have hl := putK_le1 hr hf.2
          cases kk with
          | one k1 =>
            cases kk_one h2
            cases (Rz.b rl1.b rw).keyV
            have e2 : ks = [] := by
              cases ks with
              | nil => rfl
              | cons q' ks => cases hr with
                | cons _ _ => have := hf.1; simp [fits, isOne, keyT, keyOf] at this
            subst e2
            cases hr
            have hq := q σ (upd (upd H1 p0 (.dK [])) p0 (.dK (putK [] k1 v))) B1 ?_ s1
            · exact ⟨_, rfl, .inr (.inr ⟨hp, DPut.k upd_same (by show 0 < sizeLine; decide)⟩), hq⟩
            · have e3 : upd (upd H1 p0 (.dK [])) p0 (.dK (putK [] k1 v)) = upd H1 p0 (.dK (putK [] k1 v)) := by
                funext c
                by_cases z : c = p0
                · rw [z, upd_same, upd_same]
                · rw [upd_ne z, upd_ne z, upd_ne z]
              rw [e3]
              exact rl1.mut e0 ho (OwnAt.dk (ks := [(k1, v)]) (ds := [d]) upd_same (.cons rz1 .nil))
          | many k1 =>
            cases kk_many h2
            obtain ⟨b, rfl, hb⟩ := keyV_many rl1 (Rz.b rl1.b rw)
            have hb := rl1.b.bh _ _ hb
            obtain ⟨ds', r1, r2⟩ := put_rz (k := k1) kEq_tup rz1 hr
            refine ⟨_, rfl, .inl (DPut.t hp hb hl), q σ _ B1 ?_ s1⟩
            exact rl1.mut e0 ho (by rw [r2]; exact .dt upd_same r1)
      · cases h
    · cases h
end
end Fw

set_option linter.all false
set_option maxRecDepth 100000
set_option maxHeartbeats 4000000
namespace L2
open PySem PySem.Spec PyProof.Rows
/-! ### t * 1 is t -/
theorem tuple_mul1 (l : Addr) (items : Array Value) (n : Nat) (dd : Option Addr) (sl : Array (Option Value)) (u : Tok) :
    Meets (Builtin.«tuple.__mul__» ⟨[.ref l, .int 1 u], []⟩) (fun _ R s => s.heap.get? l = some { cls := .type "tuple", dict := dd, data := .seq items n, slots := sl } ∧ R (.ok (.ret (Value.ref l))) s) :=
  .of_wp fun prog w A R s h => by
    obtain ⟨hp, g, d, tk, os⟩ := s
    obtain ⟨hl, h⟩ := h
    have f1 := AutoSeq1.idx_int
    wp_walk using wpAny_loadPart' hl
    exact ⟨_, rfl, h⟩
def rRepT1 (K : PySem.W.Frag) : R2 := fun x y H Q => ∃ l xs, x = .ref l ∧ y = .int 1 ∧ SqT K H l xs ∧ Q (.ref l) H
section
variable {X : Cx}
theorem op_repT1 : OpR X (binaryOp .Mult) (rRepT1 X.K) := by
  intro pins s σ H x y v u Q I rx ry h
  obtain ⟨l, xs, rfl, rfl, hT, q⟩ := h
  cases rx
  obtain ⟨t, rfl⟩ := ry
  obtain ⟨its, r, ⟨⟨cls, dd, data, sl⟩, ho, hc, n, hd⟩, hs⟩ := I.tuple hT
  simp only at hc hd
  subst hc hd
  exact wpAny_binaryOp_repeat_ref (T := "tuple") (U := "int") (by decide) ⟨_, ho, rfl⟩ (fun s' => typeIs_int s' 1 t) noFill_tuple_mul F.fills_int_mul F.slot_int_rmul repeat_tuple F.slot_int_index.lookup
    (call_meets F.slot_int_rmul (typeIs_int s 1 t) F.entry_int_rmul (F.args_int_rmul_2 _ _) (int_rmul_tuple 1 t l its.toArray n dd sl)
      ⟨ho, rfl, ⟨_, ho, rfl⟩, call_meets F.slot_tuple_mul ⟨_, ho, rfl⟩ F.entry_tuple_mul (F.args_tuple_mul_2 _ _) (tuple_mul1 l its.toArray n dd sl t) ⟨ho, ⟨.ref l, H, I, rfl, q⟩⟩⟩)
end
end L2
namespace Fw
open PySem PySem.Spec PyProof.Rows L2
def uMulU (K : PySem.W.Frag) : R2 := fun x y H Q => uMul x y H Q ∨ rRepT K x y H Q ∨ rRepT1 K x y H Q
def dMulU : D → D → Option D
  | .tuple a, .int k => if k = 1 then some (.tuple a) else if a ≠ [] ∧ 2 ≤ k ∧ k ≤ 1000 ∧ a.length ≤ 1000 then some (.tuple (List.replicate k.toNat a).flatten) else none
  | a, b => dMul a b
theorem o_mulU {X : Cx} : OpR X (binaryOp .Mult) (uMulU X.K) := OpR.or2 o_mul (OpR.or2 op_repT op_repT1)
section
variable {G : Gm} {U : Hp} {pn : Pn} {E : XK} {e : Ev} {σ : L2.St} {H B H' B' H1 B1 : Hp}
theorem ob_mulU : OpB G pn (uMulU G.K) dMulU := by
  intro U e σ H B x y a b c Q rl ra rb h q
  unfold dMulU at h
  split at h
  · next as k =>
    obtain ⟨p, xs, rfl, hp, hr⟩ := ra.tup_inv
    cases rb.int_inv
    split at h
    · next hk =>
      subst hk
      cases h
      exact .inr (.inr ⟨p, xs, rfl, rfl, same_t rl.b.bh hp, q _ H B rl (Same.refl _) Keep.refl (.tup hp hr)⟩)
    · split at h
      · next hk =>
        cases h
        refine .inr (.inl ⟨p, k, xs, rfl, rfl, same_t rl.b.bh hp, fun z => hk.1 (by subst z; cases hr; rfl), hk.2.1, hk.2.2.1, by rw [hr.length]; exact hk.2.2.2, fun r hr' => ?_⟩)
        have hB := rl.b.bh.free hr'
        exact q _ _ _ (rl.new hr') (same_upd hB) (Keep.of (same_upd hr')) (.tup upd_same ((hr.flat _).same (same_upd hB)))
      · cases h
  · exact .inl (ob_mul U e σ H B x y a b c Q rl ra rb h q)
theorem of_repU : OpF G pn (uMulU G.K) dRep := fun U e σ H B x y a b c Q rl ra rb h q => .inl (of_rep U e σ H B x y a b c Q rl ra rb h q)
end
end Fw

set_option linter.all false
set_option maxRecDepth 100000
set_option maxHeartbeats 4000000
namespace Fw
open PySem PySem.Spec PyProof.Rows L2
/-! ### x += e, x -= e of ints -/
def uAddI : R2 := rI0 fun i j => .int (i + j)
theorem ip_add {X : Cx} : PIp X .Add uAddI := by
  intro pins s σ H x y u v Q I rx ry h
  obtain ⟨i, j, rfl, rfl, q⟩ := h
  obtain ⟨t, rfl⟩ := rx
  obtain ⟨t', rfl⟩ := ry
  exact PyProof.Rows.iadd_int ⟨.int (i + j), H, I.tok _, ⟨_, rfl⟩, q⟩
theorem ip_sub {X : Cx} : PIp X .Sub uSub := by
  intro pins s σ H x y u v Q I rx ry h
  obtain ⟨i, j, rfl, rfl, q⟩ := h
  obtain ⟨t, rfl⟩ := rx
  obtain ⟨t', rfl⟩ := ry
  exact PyProof.Rows.isub_int ⟨.int (i - j), H, I.tok _, ⟨_, rfl⟩, q⟩
section
variable {G : Gm} {U : Hp} {pn : Pn} {E : XK} {e : Ev} {σ : L2.St} {H B H' B' H1 B1 : Hp}
theorem ob_addI : OpB G pn uAddI (dI fun i j => i + j) := ob_I
theorem cs_aug {i : Nat} {r : R2} {f : D → D → Option D} {t : TE} {g : FG D} (ob : OpB G pn r f) (h : CE G pn E t g) : CS G pn E (tAug i t r) (asgS (op2 f (slotD i) g) (nameT i)) := by
  have k := cs_asg (ce_op ob (CE.b (ce_var (G := G) (pn := pn) (E := E) i)) (CE.b h)) (tg_name i)
  exact k
/-! ### max(a, b), min(a, b) of ints -/
def Cb2 (G : Gm) (pn : Pn) (r : List V → Hp → VK → Prop) (φ : D → D → Option D) : Prop := OpB G pn (fun x y H Q => r [x, y] H Q) φ
theorem ce_cb2 {r : List V → Hp → VK → Prop} {φ : D → D → Option D} {t u : TE} {f g : FG D} (hr : Cb2 G pn r φ) (h1 : CB G pn E t f) (h2 : CB G pn E u g) : CE G pn E (tCB r (tCons t (tCons u tNil))) (op2 φ f g) :=
  ce_op hr h1 h2
end
def uMax2 : List V → Hp → VK → Prop := fun xs H Q => ∃ i j, xs = [.int i, .int j] ∧ Q (.int (if j > i then j else i)) H
def uMin2 : List V → Hp → VK → Prop := fun xs H Q => ∃ i j, xs = [.int i, .int j] ∧ Q (.int (if j < i then j else i)) H
theorem c_max2 {X : Cx} (hc : X.calm = true) : CallR X (.builtin "max") uMax2 := call_max2 hc
theorem c_min2 {X : Cx} (hc : X.calm = true) : CallR X (.builtin "min") uMin2 := call_min2 hc
def dMax2 : D → D → Option D := dI fun i j => if j > i then j else i
def dMin2 : D → D → Option D := dI fun i j => if j < i then j else i
section
variable {G : Gm} {U : Hp} {pn : Pn} {E : XK} {e : Ev} {σ : L2.St} {H B H' B' H1 B1 : Hp}
theorem b_two {f : Int → Int → Int} : Cb2 G pn (fun xs H Q => ∃ i j, xs = [.int i, .int j] ∧ Q (.int (f i j)) H) (dI f) := by
  intro U e σ H B x y a b c Q rl ra rb h q
  unfold dI at h
  split at h
  · cases h
    cases ra.int_inv; cases rb.int_inv
    exact ⟨_, _, rfl, q _ H B rl (Same.refl _) Keep.refl (.int _)⟩
  · cases h
theorem b_max2 : Cb2 G pn uMax2 dMax2 := b_two
theorem b_min2 : Cb2 G pn uMin2 dMin2 := b_two
/-! ### sum of a list of ints -/
def dSum : D → Option D
  | .list a => (intsD a).map fun is => .int is.sum
  | _ => none
theorem b_sum : Cb1 G pn (rSum G.K) dSum := by
  intro U e σ H B x a c Q rl ra h q
  unfold dSum at h
  split at h
  · next ds =>
    obtain ⟨is, h1, rfl⟩ := Option.map_eq_some_iff.mp h
    obtain ⟨a1, xs, rfl, hx, n1, r1⟩ := ra.lst_inv
    exact ⟨a1, is, rfl, (r1.ints_inv h1) ▸ SqL.of hx, q _ H B rl (Same.refl _) Keep.refl (.int _)⟩
  · cases h
end
end Fw

set_option linter.all false
set_option maxRecDepth 100000
set_option maxHeartbeats 4000000
namespace Fw
open PySem PySem.Spec PyProof.Rows L2
/-! ### a tracked tuple becomes data; list(d) of a dict -/
section
variable {G : Gm} {U : Hp} {pn : Pn} {E : XK} {e : Ev} {σ : L2.St} {H B H' B' H1 B1 : Hp}
theorem Base.npT {p : PenS} (b : Base U pn p H B) {q : Addr} {xs : List V} (h : H q = some (.tup xs)) : NP pn q := fun z hz => by
  obtain ⟨_, _, h3, _⟩ := b.pen z hz
  refine ⟨fun y => ?_, fun t ht y => ?_⟩
  · rw [← y, h] at h3; cases h3
  · obtain ⟨ps, hp, _⟩ := (b.tab z hz).2.1 t ht
    rw [← y, h] at hp
    cases hp
theorem Rl.adopt (rl : Rl G U pn e σ H B) {q : Addr} {xs : List V} (h : H q = some (.tup xs)) : ∃ B', Same B B' ∧ B' q = some (.tup xs) ∧ ∀ U e σ, Rl G U pn e σ H B → Rl G U pn e σ H B' := by
  cases hB : B q with
  | some o =>
    have := rl.b.bh q o hB
    rw [h] at this
    cases this
    exact ⟨B, Same.refl _, hB, fun _ _ _ r => r⟩
  | none =>
    refine ⟨upd B q (.tup xs), same_upd hB, upd_same, fun U e σ r => ?_⟩
    obtain ⟨b, os, s, n, f⟩ := r
    refine ⟨base_inT b h hB (.inr ⟨xs, rfl⟩) (b.npT h), os, s.grow (same_upd hB) (fun _ _ => rfl), n, fun z hz => ?_⟩
    obtain ⟨h1, h2, h3⟩ := f z hz
    obtain ⟨o, ho, nc⟩ := s.thereC hz
    have ne : z ≠ q := fun y => by rw [y, h] at ho; cases ho; exact nc.nt _ rfl
    exact ⟨(upd_ne ne).trans h1, h2, h3⟩
theorem rz_key (k : Key) : Rz G B (kV k) (keyD k) := by
  cases k with
  | inl i => exact .int i
  | inr s => exact .str s
theorem rz_keys : ∀ (ks : List Key), RzA G B (ks.map kV) (ks.map keyD)
  | [] => .nil
  | k :: ks => .cons (rz_key k) (rz_keys ks)
theorem rz_keys1 {β : Type} : ∀ (ks : List (Key × β)), RzA G B (ks.map fun k => kV k.1) (ks.map fun k => keyD k.1)
  | [] => .nil
  | k :: ks => .cons (rz_key k.1) (rz_keys1 ks)
theorem adoptKeys : ∀ {ks : List (List Key × V)} {bs : List Addr} {B : Hp}, IsKeys H ks bs → Rl G U pn e σ H B → ∃ B', Same B B' ∧ Rl G U pn e σ H B' ∧ RzA G B' (bs.map V.ref) (ks.map fun k => keyT k.1)
  | _, _, B, .nil, rl => ⟨B, Same.refl _, rl, .nil⟩
  | _, _, B, .cons h t, rl => by
    obtain ⟨B1, s1, hq, up⟩ := rl.adopt h
    obtain ⟨B2, s2, rl2, rz⟩ := adoptKeys t (up _ _ _ rl)
    exact ⟨B2, s1.trans s2, rl2, .cons (.tup (s2 _ _ hq) (rz_keys _)) rz⟩
def uListK (K : PySem.W.Frag) : List V → Hp → VK → Prop := fun xs H Q => uLst K xs H Q ∨
  (∃ d kvs, xs = [V.ref d] ∧ Rd H d (.dT kvs) ∧ ∀ p bs, H p = none → IsKeys H kvs bs → Q (.ref p) (upd H p (.lst (bs.map V.ref)))) ∨
  ∃ (a : Addr) (kvs : List (Key × V)), xs = [.ref a] ∧ Rd H a (.dK kvs) ∧ ∀ p, H p = none → Q (.ref p) (upd H p (.lst (kvs.map fun kv => kV kv.1)))
theorem c_listK {X : Cx} (hc : X.calm = true) : CallR X (.type "list") (uListK X.K) := by
  intro pins s σ H xs us Q I r h
  rcases h with h | h | h
  · exact c_list pins s σ H xs us Q I r h
  · exact call_list_dT hc pins s σ H xs us Q I r h
  · exact call_listD hc pins s σ H xs us Q I r h
def keysK (kvs : List (D × D)) : Bool := fits kvs (.one (.inl 0)) || fits kvs (.many [])
def dListK (d : D) : Option D := match dLst d with
  | some x => some x
  | none => (match d with
    | .dict kvs => if keysK kvs = true then some (.list (kvs.map (·.1))) else none
    | _ => none)
theorem f_listK : Cf1 G pn (uListK G.K) dListK := by
  intro U e σ H B x a c Q rl ra h q
  unfold dListK at h
  cases hy : dLst a with
  | some y =>
    rw [hy] at h
    cases h
    exact .inl (f_list U e σ H B x a _ Q rl ra hy q)
  | none =>
    rw [hy] at h
    cases a with
    | dict kvs =>
      have h : (if keysK kvs = true then some (PyData.list (kvs.map (·.1))) else none) = some c := h
      split at h
      · next hk =>
        cases h
        obtain ⟨kk, hf⟩ : ∃ kk, fits kvs kk = true := by
          unfold keysK at hk
          rcases Bool.or_eq_true_iff.mp hk with hk | hk
          · exact ⟨_, hk⟩
          · exact ⟨_, hk⟩
        obtain ⟨p, rfl, n, c⟩ := dict_inv ra hf
        rcases c with ⟨ks, ds, hp, hr, rfl⟩ | ⟨ks, ds, hp, hr, rfl⟩
        · have l : (ks.map fun k => keyD k.1).length ≤ ds.length := by rw [← hr.length]; simp
          refine .inr (.inr ⟨p, ks, rfl, hp.rd, fun p' hp' => ?_⟩)
          rw [List.map_fst_zip l] at q
          exact q p' _ B (rl.fresh hp' (.lst upd_same (rz_keys1 ks))) (Same.refl _) (Keep.of (same_upd hp'))
        · have l : (ks.map fun k => keyT k.1).length ≤ ds.length := by rw [← hr.length]; simp
          refine .inr (.inl ⟨p, ks, rfl, hp.rd, fun p' bs hp' hb => ?_⟩)
          rw [List.map_fst_zip l] at q
          obtain ⟨B1, s1, rl1, rz⟩ := adoptKeys hb rl
          exact q p' _ B1 (rl1.fresh hp' (.lst upd_same rz)) s1 (Keep.of (same_upd hp'))
      · cases h
    | _ => cases h
end
end Fw

set_option linter.all false
set_option maxRecDepth 100000
set_option maxHeartbeats 4000000
namespace Fw
open PySem PySem.Spec PyProof.Rows L2
/-! ### for k in d: the dict is locked while the loop goes over it -/
def IsDct (u : HO) : Prop := (∃ ks, u = .dK ks) ∨ ∃ ks, u = .dT ks
/-- the same but for locks -/
structure Lk (B B' : Hp) : Prop where
  n : ∀ a o, B a = some o → ¬ IsDct o → (∀ od u, o ≠ .frz od u) → B' a = some o
  k : ∀ a u, RdD B a u → IsDct u → RdD B' a u
section
variable {G : Gm} {U : Hp} {pn : Pn} {E : XK} {e : Ev} {σ : L2.St} {H B H' B' H1 B1 : Hp}
theorem Lk.at {B B' : Hp} (h : Lk B B') {a : Addr} {o : HO} (e : B a = some o) (n1 : (∀ ks, o ≠ .dK ks) := by exact fun _ z => nomatch z) (n2 : (∀ ks, o ≠ .dT ks) := by exact fun _ z => nomatch z) (n3 : (∀ od u, o ≠ .frz od u) := by exact fun _ _ z => nomatch z) : B' a = some o :=
  h.n a o e (fun z => z.elim (fun ⟨ks, y⟩ => n1 ks y) fun ⟨ks, y⟩ => n2 ks y) n3
mutual
theorem Rz.lk {G : Gm} {B B' : Hp} (s : Lk B B') : ∀ {v : V} {d : D}, Rz G B v d → Rz G B' v d
  | _, _, .non => .non
  | _, _, .bl b => .bl b
  | _, _, .int i => .int i
  | _, _, .str x => .str x
  | _, _, .lst h hs => .lst (s.at h) (RzA.lk s hs)
  | _, _, .tup h hs => .tup (s.at h) (RzA.lk s hs)
  | _, _, .kt h hs => .kt h (RzA.lk s hs)
  | _, _, .dk h hs => .dk (s.k _ _ h (.inl ⟨_, rfl⟩)) (RzA.lk s hs)
  | _, _, .dt h hs => .dt (s.k _ _ h (.inr ⟨_, rfl⟩)) (RzA.lk s hs)
  | _, _, .ins h h2 h3 hs => .ins (s.at h) (s.at h2) h3 (RzA.lk s hs)
  | _, _, .fn h => .fn h
theorem RzA.lk {G : Gm} {B B' : Hp} (s : Lk B B') : ∀ {v : List V} {d : List D}, RzA G B v d → RzA G B' v d
  | _, _, .nil => .nil
  | _, _, .cons h t => .cons (Rz.lk s h) (RzA.lk s t)
end
theorem lk_in {p : Addr} {u : HO} {od : Obj} (h : B p = some u) (d : IsDct u) (n1 : u ≠ .dK []) (n2 : u ≠ .dT []) : Lk B (upd B p (.frz od u)) := by
  refine ⟨fun a o e nd nf => ?_, fun a w r dw => ?_⟩
  · rw [upd_ne (fun z => by rw [z, h] at e; cases e; exact nd d)]; exact e
  · by_cases z : a = p
    · rw [z] at r ⊢
      rcases r with r | ⟨⟨o, r⟩, _⟩
      · rw [h] at r; cases r
        exact .inr ⟨⟨od, upd_same⟩, n1, n2⟩
      · rw [h] at r; cases r
        rcases d with ⟨ks, y⟩ | ⟨ks, y⟩ <;> cases y
    · exact r.eq (upd_ne z)
theorem lk_out {p : Addr} {u : HO} {od : Obj} (h : B p = some (.frz od u)) : Lk B (upd B p u) := by
  refine ⟨fun a o e nd nf => ?_, fun a w r dw => ?_⟩
  · rw [upd_ne (fun z => by rw [z, h] at e; cases e; exact nf _ _ rfl)]; exact e
  · by_cases z : a = p
    · rw [z] at r ⊢
      rcases r with r | ⟨⟨o, r⟩, _⟩
      · rw [h] at r; cases r
        rcases dw with ⟨ks, y⟩ | ⟨ks, y⟩ <;> cases y
      · rw [h] at r; cases r
        exact .inl upd_same
    · exact r.eq (upd_ne z)
theorem OwnAt.lk {p : Addr} {x : D} (s : Lk B B') (e : H' p = H p) (h : OwnAt G B H p x) : OwnAt G B' H' p x := by
  cases h with
  | lst h hs => exact .lst (e.trans h) (hs.lk s)
  | dk h hs => exact .dk (e.trans h) (hs.lk s)
  | dt h hs => exact .dt (e.trans h) (hs.lk s)
theorem Slots.lk (s : Lk B B') : ∀ {σ : L2.St} {ρ : List Slot} {os : List Addr}, (∀ q ∈ os, H' q = H q) → Slots G pn B H σ ρ os → Slots G pn B' H' σ ρ os
  | _, _, _, _, .nil => .nil
  | _, _, _, k, .u t => .u (t.lk s k)
  | _, _, _, k, .d h t => .d (h.lk s) (t.lk s k)
  | _, _, _, k, .o g t => .o (g.lk s (k _ (List.mem_cons_self ..))) (t.lk s fun q hq => k q (List.mem_cons_of_mem _ hq))
  | _, _, _, k, .p y t => .p y (t.lk s k)
  | _, _, _, k, .fo y t => .fo y (t.lk s k)
  | _, _, _, k, .me t => .me (t.lk s k)
theorem base_lk {p : Addr} {o w : HO} {q : PenS} (b : Base U none q H B) (h : B p = some o) (n : ∀ xs, o ≠ .tup xs) : Base U none q (upd H p w) (upd B p w) := by
  have hU := b.nbo h n
  refine ⟨fun a x hx => ?_, fun a x hx => ?_, fun a x hx => ?_, (fun _ y => by cases y), (fun _ y => by cases y)⟩
  · by_cases z : a = p
    · rw [z, upd_same] at hx ⊢; exact hx
    · rw [upd_ne z] at hx ⊢; exact b.bh a x hx
  · rw [upd_ne (ne_of_none hx hU)]; exact b.uh a x hx
  · by_cases z : a = p
    · rw [z]; exact .inl hU
    · rw [upd_ne z] at hx; exact b.bu a x hx
theorem rl_lk {p : Addr} {o w : HO} (r : Rl G U none e σ H B) (h : B p = some o) (n : ∀ xs, o ≠ .tup xs) (l : Lk B (upd B p w)) : Rl G U none e σ (upd H p w) (upd B p w) := by
  obtain ⟨b, os, s, nn, f⟩ := r
  have ne : ∀ q ∈ os, q ≠ p := fun q hq z => by have := (f q hq).1; rw [z, h] at this; cases this
  refine ⟨base_lk b h n, os, s.lk l fun q hq => upd_ne (ne q hq), nn, fun q hq => ?_⟩
  obtain ⟨h1, h2, h3⟩ := f q hq
  exact ⟨(upd_ne (ne q hq)).trans h1, h2, h3⟩
theorem same_back {p : Addr} {u w : HO} {B2 : Hp} (h : B p = some u) (s : Same (upd B p w) B2) : Same B (upd B2 p u) := fun a o e => by
  by_cases z : a = p
  · rw [z, h] at e; rw [z, upd_same]; exact e
  · rw [upd_ne z]; exact s a o (by rw [upd_ne z]; exact e)
/-- what a loop says, its iterator known -/
theorem for_core {J : It} {ds : List D} {g : TG} {tb : TS} {ft : FT} {body : FS} {r : Fl} {e' : Ev} {Dn : Ends} (hg : CTg G pn g ft) (hb : CS G pn E tb body) (rl : Rl G U pn e σ H B) (wk : Walks G pn J ds B)
    (hf : forL ft body ds e = some (r, e')) (post : PostS G U pn E e' B Dn r) : tFor (fun _ H R => R J H) g tb Dn σ H := by
  refine ⟨fun i m σ' H' => m = ds.length - i ∧ ∃ e1 B1, Rl G U pn e1 σ' H' B1 ∧ Same B B1 ∧ forL ft body (ds.drop i) e1 = some (r, e'), ⟨_, rfl, e, B, rl, Same.refl _, hf⟩, ?_⟩
  rintro i m σ1 H1 ⟨rfl, e1, B1, rl1, s1, h1⟩
  obtain ⟨w1, w2⟩ := wk i U H1 B1 e1 σ1 s1 rl1
  cases hd : ds.drop i with
  | nil =>
    rw [hd] at h1
    cases h1
    have hle : ds.length ≤ i := by
      rcases Nat.lt_or_ge i ds.length with z | z
      · rw [List.drop_eq_getElem_cons z] at hd; cases hd
      · exact z
    exact .inl ⟨w1 hle, post σ1 H1 B1 rl1 s1⟩
  | cons d rest =>
    rw [hd] at h1
    obtain ⟨g1, g2, g3⟩ := drop_cons hd
    obtain ⟨w3, w4⟩ := w2 d g1
    refine .inr ⟨w3, fun σ2 H2 => ∃ e2 B2, Rl G U pn e2 σ2 H2 B2 ∧ Same B B2 ∧ forL ft body (ds.drop (i + 1)) e2 = some (r, e'), fun σ2 H2 q => ⟨ds.length - (i + 1), by omega, rfl, q⟩, fun x H2 hy => ?_⟩
    obtain ⟨B2, s2, _, mv, rz⟩ := w4 x H2 hy
    rw [g2]
    unfold forL at h1
    cases ht : ft d e1.sl with
    | none => rw [ht] at h1; cases h1
    | some sl =>
      rw [ht] at h1
      dsimp only at h1
      have rl2 := mv U e1 σ1 rl1
      refine hg U e1 σ1 H2 B2 x d sl _ rl2 rz ht fun σ3 rl3 => ?_
      cases hbo : body ⟨sl, e1.pen⟩ with
      | none => rw [hbo] at h1; cases h1
      | some rp =>
        obtain ⟨rb, e3⟩ := rp
        rw [hbo] at h1
        have sB := s1.trans s2
        cases rb with
        | nx => exact hb U _ σ3 H2 B2 _ _ _ rl3 hbo fun σ4 H4 B4 rl4 s4 => ⟨e3, B4, rl4, sB.trans s4, h1⟩
        | ct => exact hb U _ σ3 H2 B2 _ _ _ rl3 hbo fun σ4 H4 B4 rl4 s4 => ⟨e3, B4, rl4, sB.trans s4, h1⟩
        | bk => cases h1; exact hb U _ σ3 H2 B2 _ _ _ rl3 hbo (post.up sB)
        | rt v => cases h1; exact hb U _ σ3 H2 B2 _ _ _ rl3 hbo (post.up sB)
        | x c ns xs => cases h1; exact hb U _ σ3 H2 B2 _ _ _ rl3 hbo (post.up sB)
theorem walks_kd {p : Addr} {od : Obj} {ks : List (Key × V)} (h : B p = some (.frz od (.dK ks))) : Walks G pn (Itk p od ks) (ks.map fun k => keyD k.1) B := by
  intro i U H1 B1 e σ s rl
  have hp : H1 p = some (.frz od (.dK ks)) := rl.b.bh _ _ (s _ _ h)
  refine ⟨fun hl => ⟨hp, by simpa using hl⟩, fun d hd => ?_⟩
  rw [List.getElem?_map] at hd
  obtain ⟨⟨k, v⟩, hk, rfl⟩ := Option.map_eq_some_iff.mp hd
  refine ⟨⟨hp, (List.getElem?_eq_some_iff.mp hk).1⟩, fun x H2 ⟨e1, k2, v2, e2, e3⟩ => ?_⟩
  subst e1
  subst e3
  rw [hk] at e2
  cases e2
  exact ⟨B1, Same.refl _, Same.refl _, fun _ _ _ r => r, rz_key k⟩
theorem walks_kt {p : Addr} {od : Obj} {ks : List (List Key × V)} (h : B p = some (.frz od (.dT ks))) : Walks G pn (Itkt p od ks) (ks.map fun k => keyT k.1) B := by
  intro i U H1 B1 e σ s rl
  have hp : H1 p = some (.frz od (.dT ks)) := rl.b.bh _ _ (s _ _ h)
  refine ⟨fun hl => ⟨hp, by simpa using hl⟩, fun d hd => ?_⟩
  rw [List.getElem?_map] at hd
  obtain ⟨⟨k, v⟩, hk, rfl⟩ := Option.map_eq_some_iff.mp hd
  refine ⟨⟨hp, (List.getElem?_eq_some_iff.mp hk).1⟩, fun x H2 ⟨e1, k2, v2, q, e2, e3, e4⟩ => ?_⟩
  subst e1
  subst e3
  rw [hk] at e2
  cases e2
  obtain ⟨B2, s2, hq, up⟩ := rl.adopt e4
  exact ⟨B2, s2, Same.refl _, up, .tup hq (rz_keys k)⟩
def lockE (p : Addr) (u : HO) (od : Obj) (D : Ends) : Ends := ⟨fun σ' H' => H' p = some (.frz od u) ∧ D.nx σ' (upd H' p u), fun v H' => H' p = some (.frz od u) ∧ D.rt v (upd H' p u), fun σ' H' => H' p = some (.frz od u) ∧ D.bk σ' (upd H' p u), fun σ' H' => H' p = some (.frz od u) ∧ D.ct σ' (upd H' p u)⟩
def noX : Fl → Prop
  | .x _ _ _ => False
  | _ => True
theorem lock_core {p : Addr} {u : HO} {J : It} {od : Obj} {ds : List D} {g : TG} {tb : TS} {ft : FT} {body : FS} {r : Fl} {e' : Ev} {Dn : Ends} (hg : CTg G none g ft) (hb : CS G none E tb body) (rl : Rl G U none e σ H B)
    (h : B p = some u) (nt : ∀ xs, u ≠ .tup xs) (l : Lk B (upd B p (.frz od u))) (wk : Walks G none J ds (upd B p (.frz od u))) (hf : forL ft body ds e = some (r, e')) (nx : noX r) (post : PostS G U none E e' B Dn r) :
    tFor (fun _ H R => R J H) g tb (lockE p u od Dn) σ (upd H p (.frz od u)) := by
  refine for_core hg hb (rl_lk rl h nt l) wk hf ?_
  have nf : ∀ xs, HO.frz od u ≠ .tup xs := fun xs z => nomatch z
  cases r with
  | nx => exact fun σ' H' B' rl' s' => ⟨rl'.b.bh _ _ (s' _ _ upd_same), post σ' _ _ (rl_lk rl' (s' _ _ upd_same) nf (lk_out (s' _ _ upd_same))) (same_back h s')⟩
  | bk => exact fun σ' H' B' rl' s' => ⟨rl'.b.bh _ _ (s' _ _ upd_same), post σ' _ _ (rl_lk rl' (s' _ _ upd_same) nf (lk_out (s' _ _ upd_same))) (same_back h s')⟩
  | ct => exact fun σ' H' B' rl' s' => ⟨rl'.b.bh _ _ (s' _ _ upd_same), post σ' _ _ (rl_lk rl' (s' _ _ upd_same) nf (lk_out (s' _ _ upd_same))) (same_back h s')⟩
  | rt d => exact fun v H' B' b' s' rz => ⟨b'.bh _ _ (s' _ _ upd_same), post v _ _ (base_lk b' (s' _ _ upd_same) nf) (same_back h s') (rz.lk (lk_out (s' _ _ upd_same)))⟩
  | x c ns xs => cases nx
theorem lock_nil {p : Addr} {u : HO} {J : It} {od : Obj} {g : TG} {tb : TS} {Dn : Ends} (h : H p = some u) (st : J.stop 0 (upd H p (.frz od u))) (q : Dn.nx σ H) : tFor (fun _ H R => R J H) g tb (lockE p u od Dn) σ (upd H p (.frz od u)) := by
  refine ⟨fun i m σ' H' => i = 0 ∧ σ' = σ ∧ H' = upd H p (.frz od u), ⟨0, rfl, rfl, rfl⟩, ?_⟩
  rintro i m σ1 H1 ⟨rfl, rfl, rfl⟩
  refine .inl ⟨st, upd_same, ?_⟩
  show Dn.nx _ _
  rw [upd_back h]
  exact q
def tForD (i : Nat) (g : TG) (tb : TS) : TS := fun D σ H => tLock (tFor (iKeys (tVar i)) g tb) D σ H ∨ tFor (iKeys (tVar i)) g tb D σ H
def forDS (i : Nat) (ft : FT) (body : FS) : FS := fun e => match e.sl[i]? with
  | some (.d (.dict kvs)) => if keysK kvs = true then (match forL ft body (kvs.map (·.1)) e with
      | some (.x _ _ _, _) => none
      | r => r) else none
  | _ => none
theorem dictB {v : V} {kvs : List (D × D)} (h : Rz G B v (.dict kvs)) (hk : keysK kvs = true) : ∃ p, v = .ref p ∧
    ((∃ ks ds, RdD B p (.dK ks) ∧ RzA G B (ks.map (·.2)) ds ∧ kvs = (ks.map fun k => keyD k.1).zip ds) ∨ ∃ ks ds, RdD B p (.dT ks) ∧ RzA G B (ks.map (·.2)) ds ∧ kvs = (ks.map fun k => keyT k.1).zip ds) := by
  obtain ⟨kk, hf⟩ : ∃ kk, fits kvs kk = true := by
    unfold keysK at hk
    rcases Bool.or_eq_true_iff.mp hk with hk | hk
    · exact ⟨_, hk⟩
    · exact ⟨_, hk⟩
  have b : Base (fun _ => none) none pen0 B B := ⟨Same.refl _, (fun a o h => by cases h), (fun _ _ _ => .inl rfl), (fun _ y => by cases y), (fun _ y => by cases y)⟩
  obtain ⟨p, e1, _, c⟩ := dict_inv (Rz.b (e := ⟨[], pen0⟩) b h) hf
  exact ⟨p, e1, c⟩
theorem cs_forD {i : Nat} {g : TG} {tb : TS} {ft : FT} {body : FS} (hg : CTg G none g ft) (hb : CS G none E tb body) : CS G none E (tForD i g tb) (forDS i ft body) := by
  intro U e σ H B r e' Dn rl hf post
  unfold forDS at hf
  split at hf
  · next kvs hsl =>
    split at hf
    · next hk =>
      have hnx : noX r ∧ forL ft body (kvs.map (·.1)) e = some (r, e') := by
        split at hf
        · cases hf
        · next hx =>
          refine ⟨?_, hf⟩
          cases r with
          | x c ns xs => exact hx c ns xs e' hf
          | _ => trivial
      obtain ⟨nx, hL⟩ := hnx
      obtain ⟨v, hv, rv⟩ := rl.get hsl
      obtain ⟨p, rfl, c⟩ := dictB rv hk
      rcases c with ⟨ks, ds, hp, hr, rfl⟩ | ⟨ks, ds, hp, hr, rfl⟩
      · have l : (ks.map fun k => keyD k.1).length ≤ ds.length := by rw [← hr.length]; simp
        rw [List.map_fst_zip l] at hL
        rcases hp with hp | ⟨⟨od, hp⟩, _⟩
        · refine .inl ⟨p, .dK ks, rl.b.bh _ _ hp, trivial, fun od => ⟨.ref p, hv, p, od, rfl, .inl ⟨ks, upd_same, ?_⟩⟩⟩
          cases hks : ks with
          | nil =>
            subst hks
            cases hL
            exact lock_nil (J := Itk p od []) (rl.b.bh _ _ hp) ⟨upd_same, Nat.le_refl _⟩ (post σ H B rl (Same.refl _))
          | cons k0 kr =>
            rw [← hks]
            exact lock_core hg hb rl hp (fun _ z => nomatch z) (lk_in hp (.inl ⟨_, rfl⟩) (by rw [hks]; simp) (fun z => nomatch z)) (walks_kd upd_same) hL nx post
        · exact .inr ⟨.ref p, hv, p, od, rfl, .inl ⟨ks, rl.b.bh _ _ hp, for_core hg hb rl (walks_kd hp) hL post⟩⟩
      · have l : (ks.map fun k => keyT k.1).length ≤ ds.length := by rw [← hr.length]; simp
        rw [List.map_fst_zip l] at hL
        rcases hp with hp | ⟨⟨od, hp⟩, _⟩
        · refine .inl ⟨p, .dT ks, rl.b.bh _ _ hp, trivial, fun od => ⟨.ref p, hv, p, od, rfl, .inr ⟨ks, upd_same, ?_⟩⟩⟩
          cases hks : ks with
          | nil =>
            subst hks
            cases hL
            exact lock_nil (J := Itkt p od []) (rl.b.bh _ _ hp) ⟨upd_same, Nat.le_refl _⟩ (post σ H B rl (Same.refl _))
          | cons k0 kr =>
            rw [← hks]
            exact lock_core hg hb rl hp (fun _ z => nomatch z) (lk_in hp (.inr ⟨_, rfl⟩) (fun z => nomatch z) (by rw [hks]; simp)) (walks_kt upd_same) hL nx post
        · exact .inr ⟨.ref p, hv, p, od, rfl, .inr ⟨ks, rl.b.bh _ _ hp, for_core hg hb rl (walks_kt hp) hL post⟩⟩
    · cases hf
  · cases hf
end
theorem ps_forD {X : Cx} {st : Stmt} {i : Nat} {g : TG} {tb : TS} (h : PS X st (tFor (iKeys (tVar i)) g tb)) : PS X st (tForD i g tb) :=
  ⟨fun pins s σ H D I q => q.elim ((ps_lock h).run pins s σ H D I) (h.run pins s σ H D I)⟩
end Fw

set_option linter.all false
set_option maxRecDepth 100000
set_option maxHeartbeats 4000000
namespace L2
open PySem PySem.Spec PyProof.Rows
/-! ### for a, b in d.items(), the keys tuples -/
theorem Inv.frzTv {X : Cx} {pins : List (Addr × Obj)} {σ : St} {H : Hp} {s : Shared} {d : Addr} {o : Obj} {kvs : List (List Key × V)} (I : Inv X pins σ H s) (h : H d = some (.frz o (.dT kvs))) :
    (d == sysModules) = false ∧ s.heap.get? d = some o ∧ ∃ (es : Array DictEntry) (ep : Nat), o.data = .dict es ep ∧ s.heap.DictRaw d es ep ∧ es.size = kvs.length ∧
      ∀ (i : Nat) (k : List Key) (v : V) (hi : i < es.size), kvs[i]? = some (k, v) → ∃ q : Addr, es[i].key = .ref q ∧ H q = some (.tup (k.map kV)) ∧ RelV v es[i].val := by
  obtain ⟨hd, z, hs, xs, pr, o', es, ep, ho, hx, hdt, he, _⟩ := I.hok d _ h
  rw [hd] at ho
  cases ho
  refine ⟨hs, hd, es, ep, hdt, ⟨o, hd, hx, hdt⟩, ?_, fun i k v hi e => ?_⟩
  · have l1 : es.size = xs.length := size_of_entries he
    have l2 : kvs.length = xs.length := Paired.length pr
    omega
  · obtain ⟨b, hb, e1, e2, e3⟩ := paired_get pr e
    have q := entry_at he i
    rw [hb, Array.getElem?_eq_getElem hi] at q
    have q := Option.some.inj q
    exact ⟨b.2.1, by rw [q]; rfl, e2, by rw [q]; exact e3⟩
def Itit (d : Addr) (o : Obj) (kvs : List (List Key × V)) : It :=
  ⟨fun i H => H d = some (.frz o (.dT kvs)) ∧ i < kvs.length,
   fun i H x H' => ∃ (T : Addr) (k : List Key) (v : V) (q : Addr), kvs[i]? = some (k, v) ∧ x = .ref T ∧ H T = none ∧ H q = some (.tup (k.map kV)) ∧ H' = upd H T (.tup [.ref q, v]),
   fun i H => H d = some (.frz o (.dT kvs)) ∧ kvs.length ≤ i⟩
section
variable {P : Program} {w : World} {K : PySem.W.Frag} {d : Addr} {o : Obj} {es : Array DictEntry} {ep : Nat}
theorem turn_itemsT {kvs : List (List Key × V)} {elts : List Expr} {kk : Nat} {tpos : Pos} (it : Addr) (hod : o.data = .dict es ep) :
    Turn P w K (.Tuple elts kk tpos) (Itit d o kvs) [it] it (fun i h => ∃ ok ov, IsItemIter h it d i kvs.length ep ok ov) where
  mem := by simp
  obj := fun i h st b hb => by
    obtain rfl : b = it := by simpa using hb
    obtain ⟨ok, ov, e⟩ := st
    exact ⟨_, e, fun v z => nomatch z⟩
  keep := fun i h h' st k => let ⟨ok, ov, e⟩ := st; ⟨ok, ov, k it (by simp) _ e⟩
  item := by
    intro X hP hw hK hc i pins s σ H E I hf st hg
    subst hP hw hK
    obtain ⟨hd, hi⟩ := hg
    obtain ⟨hs, hgd, es', ep', hdt, hm, hsz, ent⟩ := I.frzTv hd
    obtain ⟨rfl, rfl⟩ := dict_ep hod hdt
    obtain ⟨⟨k, v⟩, hkv⟩ : ∃ p, kvs[i]? = some p := ⟨kvs[i], List.getElem?_eq_getElem hi⟩
    have hie : i < es'.size := by omega
    obtain ⟨q, hkey, hq, rv⟩ := ent i k v hie hkv
    obtain ⟨ok, ov, he⟩ := st
    rw [← hsz] at he
    have hlt : it < s.heap.objs.size := Heap.lt_size he
    refine wpAny_pyNext_items_item_raw he hm hie fun h' ho hT hz hk => ?_
    refine ⟨_, rfl, wpAny_letOwnedTupleGo_items (s := { s with heap := h' }) ho fun h'' he' sb => ?_⟩
    have hT2 : h''.get? s.heap.objs.size = some { cls := .type "tuple", data := .seq #[es'[i].key, es'[i].val] } := (sb.2 _ (Nat.ne_of_gt hlt)).trans hT
    have new : ObjOk X.prog X.w (upd H s.heap.objs.size (.tup [.ref q, v])) h'' s.heap.objs.size (.tup [.ref q, v]) :=
      ⟨by show 2 ≤ sizeLine; decide, [es'[i].key, es'[i].val], .cons (show RelV (.ref q) es'[i].key from hkey) (.cons rv .nil), ⟨_, hT2, rfl, _, rfl⟩⟩
    have I1 : Inv X pins σ (upd H s.heap.objs.size (.tup [.ref q, v])) { s with heap := h'' } :=
      I.turnedNew (t' := s.toks) (ch := [it]) (fun b ob hb e => (sb.2 b (by simpa using hb)).trans (hk b ob (by simpa using hb) e)) hf (Nat.le_refl _) new
    refine ⟨.ref s.heap.objs.size, _, I1, rfl, ⟨_, k, v, q, hkv, rfl, I.hok.fresh (Nat.le_refl _), hq, rfl⟩, ⟨es'[i].key, es'[i].val, ?_⟩, fun b hb => ?_⟩
    · rw [← hsz]; exact he'
    · obtain rfl : b = it := by simpa using hb
      rw [upd_ne (Nat.ne_of_lt hlt)]
      exact (hf b (by simp)).1
  done := by
    intro X hP hw hK hc i pins s σ H E I hf st hg
    subst hP hw hK
    obtain ⟨hd, hi⟩ := hg
    obtain ⟨f0, f1, f2, f3, f4, f5⟩ := hf it (by simp)
    obtain ⟨hs, hgd, es', ep', hdt, hm, hsz, ent⟩ := I.frzTv hd
    obtain ⟨rfl, rfl⟩ := dict_ep hod hdt
    obtain ⟨ok, ov, he⟩ := st
    rw [← hsz] at he
    exact wpAny_pyNext_items_end_raw (I.ok.hd hc) he hm (by omega) fun h' eb => ⟨rfl, I.turned (t' := s.toks) (fun b ob hb e => eb b ob hb e) f0 f1 f3 f4 f5⟩
  self := fun A i s Q E st h => let ⟨_, _, e⟩ := st; PySem.W.kcp_self e h
end
def iItemsT (td : TE) : TI := fun σ H R => td σ H fun x H1 => ∃ d o kvs, x = .ref d ∧ H1 d = some (.frz o (.dT kvs)) ∧ R (Itit d o kvs) H1
theorem pi_itemsT {X : Cx} {e : Expr} {td : TE} {apos cpos : Pos} {elts : List Expr} {kk : Nat} {tpos : Pos} (he : PE X e td) (hbase : attributeBase e "items" X.env (eval e X.env) = eval e X.env := by rfl) (hline : (apos.endLine == cpos.line) = true := by rfl) :
    PI X (.Tuple elts kk tpos) (.Call (.Attribute e "items" apos) [] [] cpos) (iItemsT td) := by
  refine ⟨fun pins s σ H R I h => ?_⟩
  refine wpAny_Call_method (T := "dict") (id := "dict.items") hbase rfl hline F.plainAttrs_dict F.slot_dict_items F.type_dict_items (thn (he.run pins s σ H _ I h) fun u s1 ⟨x, H1, I1, rx, d, o, kvs, ex, hd, q⟩ => ?_)
  subst ex
  obtain rfl : u = Value.ref d := rx
  obtain ⟨hs, hgd, es, ep, hdt, hm, hsz, ent⟩ := I1.frzTv hd
  have nd : ∀ b, Value.ref d = .ref b → ∃ ob, s1.heap.get? b = some ob ∧ ob.dict = none := fun b z => by
    cases z
    obtain ⟨ob, h1, h2, _⟩ := id hm
    exact ⟨ob, h1, h2.2.1⟩
  refine ⟨hm.typeIs, nd, ?_⟩
  have I2 : Inv X pins σ H1 { s1 with heap := s1.heap.push { cls := .type "dict_items", data := .fields #[.ref d] } } := I1.kept (t' := s1.toks) fun b ob q => Heap.get?_push_of_some _ q
  have fin : wpAny (model X.prog X.w) X.A (pyIter (.ref s1.heap.objs.size)) (PIE X pins σ (.Tuple elts kk tpos) R) X.xe { s1 with heap := s1.heap.push { cls := .type "dict_items", data := .fields #[.ref d] } } := by
    refine wpAny_pyIter_items_raw (d := d) (es := es) (ep := ep) ⟨_, Heap.get?_push_size _ rfl, rfl, rfl⟩ (hm.at fun o e => Heap.get?_push_of_some _ e) (pi_one (tk := s1.toks) I2 _ (turn_itemsT _ hdt) ⟨.none, .none, ?_⟩ q)
    rw [← hsz]
    exact Heap.get?_push_size _ rfl
  show wpAny _ _ (callWith cpos (.builtin "dict.items") [.ref d] [] []) _ X.xe s1
  exact method_meetsIn F.slot_dict_items F.entry_dict_items rfl (PySem.evalArgs_none ⟨rfl, hm.typeIs, F.args_dict_items_1 _, _, meets_dict_items_raw d hs, ⟨⟨es, ep, hm⟩, fin⟩⟩)
end L2
namespace Fw
open PySem PySem.Spec PyProof.Rows L2
def iItemsU (td : TE) : TI := fun σ H R => iItems td σ H R ∨ iItemsT td σ H R
theorem pi_itemsU {X : Cx} {e : Expr} {td : TE} {apos cpos : Pos} {elts : List Expr} {kk : Nat} {tpos : Pos} (he : PE X e td) (hbase : attributeBase e "items" X.env (eval e X.env) = eval e X.env := by rfl) (hline : (apos.endLine == cpos.line) = true := by rfl) :
    PI X (.Tuple elts kk tpos) (.Call (.Attribute e "items" apos) [] [] cpos) (iItemsU td) := PI.or (pi_items he hbase hline) (pi_itemsT he hbase hline)
def tForI (i : Nat) (g : TG) (tb : TS) : TS := fun D σ H => tLock (tFor (iItemsU (tVar i)) g tb) D σ H ∨ tFor (iItemsU (tVar i)) g tb D σ H
theorem ps_forI {X : Cx} {st : Stmt} {i : Nat} {g : TG} {tb : TS} (h : PS X st (tFor (iItemsU (tVar i)) g tb)) : PS X st (tForI i g tb) :=
  ⟨fun pins s σ H D I q => q.elim ((ps_lock h).run pins s σ H D I) (h.run pins s σ H D I)⟩
def itemD (p : D × D) : D := .tuple [p.1, p.2]
def forIS (i : Nat) (ft : FT) (body : FS) : FS := fun e => match e.sl[i]? with
  | some (.d (.dict kvs)) => if keysK kvs = true then (match forL ft body (kvs.map itemD) e with
      | some (.x _ _ _, _) => none
      | r => r) else none
  | _ => none
section
variable {G : Gm} {U : Hp} {pn : Pn} {E : XK} {e : Ev} {σ : L2.St} {H B H' B' H1 B1 : Hp}
theorem rzA_at : ∀ {vs : List V} {ds : List D} {i : Nat} {v : V} {d : D}, RzA G B vs ds → vs[i]? = some v → ds[i]? = some d → Rz G B v d
  | _, _, i, _, _, .nil, h, _ => by simp at h
  | _, _, 0, _, _, .cons r t, h, h' => by simp at h h'; rw [← h, ← h']; exact r
  | _, _, i + 1, _, _, .cons r t, h, h' => rzA_at t (by simpa using h) (by simpa using h')
theorem item_get {κ : Type} {f : κ → D} {ks : List (κ × V)} {ds : List D} {i : Nat} {d : D} (h : (((ks.map fun k => f k.1).zip ds).map itemD)[i]? = some d) : ∃ k v x, ks[i]? = some (k, v) ∧ ds[i]? = some x ∧ d = .tuple [f k, x] := by
  rw [List.getElem?_map] at h
  obtain ⟨⟨a, b⟩, h1, rfl⟩ := Option.map_eq_some_iff.mp h
  obtain ⟨h2, h3⟩ := List.getElem?_zip_eq_some.mp h1
  rw [List.getElem?_map] at h2
  obtain ⟨⟨k, v⟩, h4, rfl⟩ := Option.map_eq_some_iff.mp h2
  exact ⟨k, v, b, h4, h3, rfl⟩
theorem walks_ik {p : Addr} {od : Obj} {ks : List (Key × V)} {ds : List D} (hr : RzA G B (ks.map (·.2)) ds) (h : B p = some (.frz od (.dK ks))) : Walks G pn (Iti p od ks) (((ks.map fun k => keyD k.1).zip ds).map itemD) B := by
  intro i U H1 B1 e σ s rl
  have hp : H1 p = some (.frz od (.dK ks)) := rl.b.bh _ _ (s _ _ h)
  have l : ks.length = ds.length := by rw [← hr.length, List.length_map]
  refine ⟨fun hl => ⟨hp, by simp at hl; omega⟩, fun d hd => ?_⟩
  obtain ⟨k, v, x, hk, hx, rfl⟩ := item_get hd
  refine ⟨⟨hp, (List.getElem?_eq_some_iff.mp hk).1⟩, fun y H2 ⟨T, k2, v2, e1, e2, e3, e4⟩ => ?_⟩
  subst e2
  subst e4
  rw [hk] at e1
  cases e1
  have rv := rzA_at hr (by rw [List.getElem?_map, hk]; rfl) hx
  have hB : B1 T = none := rl.b.bh.free e3
  exact ⟨upd B1 T (.tup [kV k, v]), same_upd hB, same_upd e3, fun _ _ _ r => r.new e3, .tup upd_same (.cons (rz_key k) (.cons ((rv.same s).same (same_upd hB)) .nil))⟩
theorem walks_it {p : Addr} {od : Obj} {ks : List (List Key × V)} {ds : List D} (hr : RzA G B (ks.map (·.2)) ds) (h : B p = some (.frz od (.dT ks))) : Walks G pn (Itit p od ks) (((ks.map fun k => keyT k.1).zip ds).map itemD) B := by
  intro i U H1 B1 e σ s rl
  have hp : H1 p = some (.frz od (.dT ks)) := rl.b.bh _ _ (s _ _ h)
  have l : ks.length = ds.length := by rw [← hr.length, List.length_map]
  refine ⟨fun hl => ⟨hp, by simp at hl; omega⟩, fun d hd => ?_⟩
  obtain ⟨k, v, x, hk, hx, rfl⟩ := item_get hd
  refine ⟨⟨hp, (List.getElem?_eq_some_iff.mp hk).1⟩, fun y H2 ⟨T, k2, v2, q, e1, e2, e3, e5, e4⟩ => ?_⟩
  subst e2
  subst e4
  rw [hk] at e1
  cases e1
  have rv := rzA_at hr (by rw [List.getElem?_map, hk]; rfl) hx
  obtain ⟨B2, s2, hq, up⟩ := rl.adopt e5
  have hB : B2 T = none := (up _ _ _ rl).b.bh.free e3
  exact ⟨upd B2 T (.tup [.ref q, v]), s2.trans (same_upd hB), same_upd e3, fun _ _ _ r => (up _ _ _ r).new e3, .tup upd_same (.cons (.tup ((upd_ne (ne_of_none hq hB)).trans hq) (rz_keys k)) (.cons (((rv.same s).same s2).same (same_upd hB)) .nil))⟩
theorem cs_forI {i : Nat} {g : TG} {tb : TS} {ft : FT} {body : FS} (hg : CTg G none g ft) (hb : CS G none E tb body) : CS G none E (tForI i g tb) (forIS i ft body) := by
  intro U e σ H B r e' Dn rl hf post
  unfold forIS at hf
  split at hf
  · next kvs hsl =>
    split at hf
    · next hk =>
      have hnx : noX r ∧ forL ft body (kvs.map itemD) e = some (r, e') := by
        split at hf
        · cases hf
        · next hx =>
          refine ⟨?_, hf⟩
          cases r with
          | x c ns xs => exact hx c ns xs e' hf
          | _ => trivial
      obtain ⟨nx, hL⟩ := hnx
      obtain ⟨v, hv, rv⟩ := rl.get hsl
      obtain ⟨p, rfl, c⟩ := dictB rv hk
      rcases c with ⟨ks, ds, hp, hr, rfl⟩ | ⟨ks, ds, hp, hr, rfl⟩
      · rcases hp with hp | ⟨⟨od, hp⟩, _⟩
        · refine .inl ⟨p, .dK ks, rl.b.bh _ _ hp, trivial, fun od => .inl ⟨.ref p, hv, p, od, ks, rfl, upd_same, ?_⟩⟩
          cases hks : ks with
          | nil =>
            subst hks
            cases hL
            exact lock_nil (J := Iti p od []) (rl.b.bh _ _ hp) ⟨upd_same, Nat.le_refl _⟩ (post σ H B rl (Same.refl _))
          | cons k0 kr =>
            rw [← hks]
            have l := lk_in (od := od) hp (.inl ⟨_, rfl⟩) (by rw [hks]; simp) (fun z => nomatch z)
            exact lock_core hg hb rl hp (fun _ z => nomatch z) l (walks_ik (hr.lk l) upd_same) hL nx post
        · exact .inr (.inl ⟨.ref p, hv, p, od, ks, rfl, rl.b.bh _ _ hp, for_core hg hb rl (walks_ik hr hp) hL post⟩)
      · rcases hp with hp | ⟨⟨od, hp⟩, _⟩
        · refine .inl ⟨p, .dT ks, rl.b.bh _ _ hp, trivial, fun od => .inr ⟨.ref p, hv, p, od, ks, rfl, upd_same, ?_⟩⟩
          cases hks : ks with
          | nil =>
            subst hks
            cases hL
            exact lock_nil (J := Itit p od []) (rl.b.bh _ _ hp) ⟨upd_same, Nat.le_refl _⟩ (post σ H B rl (Same.refl _))
          | cons k0 kr =>
            rw [← hks]
            have l := lk_in (od := od) hp (.inr ⟨_, rfl⟩) (fun z => nomatch z) (by rw [hks]; simp)
            exact lock_core hg hb rl hp (fun _ z => nomatch z) l (walks_it (hr.lk l) upd_same) hL nx post
        · exact .inr (.inr ⟨.ref p, hv, p, od, ks, rfl, rl.b.bh _ _ hp, for_core hg hb rl (walks_it hr hp) hL post⟩)
    · cases hf
  · cases hf
end
end Fw

set_option linter.all false
set_option maxRecDepth 100000
set_option maxHeartbeats 4000000
namespace Fw
open PySem PySem.Spec PyProof.Rows L2
/-! ### defs that get no pen: the base alone -/
section
variable {P : Program} {w : World} {K : PySem.W.Frag} {mg : Str → Option Value} {base : Heap} {G : Gm} {H : Hp} {E : XK}
theorem run_n0 {n : Nat} {N : List Str} {f : FS} {ts : TS} {vs : List V} {Q : VK} {E' : XK} (hcs : CS G none E0 ts f) (h : spN G false n (defF false N.length f) vs H Q E') : ts { nx := fun _ H' => Q .non H', rt := Q } (L2.start N vs) H := by
  obtain ⟨pn, U, B, ws, ds, p, p', d, rfl, hp, hn, b, ra, hF, post⟩ := h
  cases pn with
  | some q => cases hp
  | none =>
    unfold defF ofFl at hF
    have rl := start_rl (N := N) b hp ra
    split at hF
    · next d' e' he => cases hF; exact hcs U _ _ H B _ _ _ rl he fun v H' B' b s rz => post v H' B' b s rz
    · next e' he => cases hF; exact hcs U _ _ H B _ _ _ rl he fun σ' H' B' r s => post .non H' B' r.b s .non
    · cases hF
    · cases hF
theorem run_x0 {n : Nat} {N : List Str} {f : FS} {ts : TS} {vs : List V} {Q : VK} (hcs : CS G none E ts f) (h : spX G false n (defF false N.length f) vs H Q E) : ts { nx := fun _ H' => Q .non H', rt := Q } (L2.start N vs) H := by
  obtain ⟨pn, U, B, ws, ds, p, p', d, rfl, hp, hn, b, ra, hF, post⟩ := h
  cases pn with
  | some q => cases hp
  | none =>
    unfold defF ofFl at hF
    have rl := start_rl (N := N) b hp ra
    split at hF
    · next d' e' he => cases hF; exact hcs U _ _ H B _ _ _ rl he fun v H' B' b s rz => post v H' B' b s rz
    · next e' he => cases hF; exact hcs U _ _ H B _ _ _ rl he fun σ' H' B' r s => post .non H' B' r.b s .non
    · next c ns es e' he => cases hF; exact hcs U _ _ H B _ _ _ rl he fun cls ao H' B' b s x => post cls ao H' B' b s x
    · cases hF
theorem fn_n0 {x qual : Str} {st : Stmt} {f : Addr} {fd : FuncData} {N ps : List Str} {k n : Nat} {F : FS} (Fn : Fun K x qual st f fd) (S : FnScope N ps (defScope st)) (hl : ps.length = (if false = true then 1 else 0) + n)
    (hbody : ∀ (cdv : Value) (A : Around) (outer : List Env) (s : Shared) (H : Hp) (E : XK), RoomG k (A.deeper (envOfC qual (defScope st) s.heap.objs.size f cdv)) →
      ∃ t, PSs (cxOf CX0 P w K mg base N qual (defScope st) f cdv A outer s H E).nox (defBody st) t ∧ CS G none E0 t F) : FnG P w K mg base CX0 (k + 1) f fd ps (spN G false n (defF false N.length F)) := by
  refine fnG_of Fn S (fun vs H Q E h => by rw [spN_len h, hl]) (fun cdv A outer s H vs Q E hr h => ?_)
  obtain ⟨t, h1, h2⟩ := hbody cdv A outer s H E hr
  exact ⟨t, h1.nox, run_n0 h2 h⟩
theorem fn_x0 {x qual : Str} {st : Stmt} {f : Addr} {fd : FuncData} {N ps : List Str} {k n : Nat} {F : FS} (Fn : Fun K x qual st f fd) (S : FnScope N ps (defScope st)) (hl : ps.length = (if false = true then 1 else 0) + n)
    (hbody : ∀ (cdv : Value) (A : Around) (outer : List Env) (s : Shared) (H : Hp) (E : XK), RoomG k (A.deeper (envOfC qual (defScope st) s.heap.objs.size f cdv)) →
      Takes (cxOf (L2.CX P w) P w K mg base N qual (defScope st) f cdv A outer s H E) (fun cls d _ H => E cls d H) →
      ∃ t, PSs (cxOf (L2.CX P w) P w K mg base N qual (defScope st) f cdv A outer s H E) (defBody st) t ∧ CS G none E t F) : FnG P w K mg base (L2.CX P w) (k + 1) f fd ps (spX G false n (defF false N.length F)) := by
  refine fnG_of Fn S (fun vs H Q E h => spX_len' hl h) (fun cdv A outer s H vs Q E hr h => ?_)
  obtain ⟨t, h1, h2⟩ := hbody cdv A outer s H E hr (takes_of rfl rfl rfl rfl)
  exact ⟨t, h1, run_x0 h2 h⟩
end
end Fw

set_option linter.all false
set_option maxRecDepth 100000
set_option maxHeartbeats 4000000
namespace Fw
open PySem PySem.Spec PyProof.Rows L2
/-! ### xs.pop(k), xs.insert(k, x) as statements, k from 0 on -/
section
variable {G : Gm} {U : Hp} {pn : Pn} {E : XK} {e : Ev} {σ : L2.St} {H B H' B' H1 B1 : Hp}
def popAtS (i : Nat) (f : FG D) : FS := fun e => (ownL i e).bind fun _ => thenS f (fun d e => (ownL i e).bind fun ds => match d with
  | .int k => if 0 ≤ k ∧ k < (ds.length : Int) ∧ ds.length ≤ 1000000 then some (.nx, ⟨e.sl.set i (.o (.list (ds.eraseIdx k.toNat))), e.pen⟩) else none
  | _ => none) e
theorem cs_popAt {i : Nat} {t : TE} {f : FG D} (h : CE G pn E t f) : CS G pn E (tDrop (tBM G.K "list" rPopAt (tVar i) (tCons t tNil))) (popAtS i f) := by
  intro U e σ H B r e' Dn rl hf post
  obtain ⟨ds0, h0, hf⟩ := Option.bind_eq_some_iff.mp hf
  obtain ⟨p0, xs0, e0, e2, e3⟩ := rl.lst h0
  refine ⟨_, e0, .inl ⟨rfl, xs0, SqL.of e2⟩, ?_⟩
  rcases thenS_inv hf with ⟨c, ns, ds, q, h1, rfl, rfl⟩ | ⟨a, q, hfe, hf⟩
  · exact h U e σ H B _ _ _ rl h1 post
  · refine h U e σ H B _ _ _ rl hfe fun v H1 B1 rl1 s1 k1 rz => ?_
    obtain ⟨ds, h1, h2⟩ := Option.bind_eq_some_iff.mp hf
    split at h2
    · next k =>
      split at h2
      · next hk =>
        cases h2
        obtain ⟨p, xs, e1, e2, e3⟩ := rl1.lst h1
        rw [e0] at e1
        cases e1
        cases rz.int_inv
        obtain ⟨k0, k1', k2⟩ := hk
        have l := e3.length
        have kl : k.toNat < xs.length := by omega
        have sx : seqIndex? k xs.length = some k.toNat := by
          unfold seqIndex?
          rw [if_neg (by omega : ¬ k < 0)]
          have hb : (decide (0 ≤ k) && decide (k < (xs.length : Int))) = true := by
            rw [Bool.and_eq_true, decide_eq_true_eq, decide_eq_true_eq]
            omega
          exact if_pos hb
        exact ⟨p0, xs, k, k.toNat, xs[k.toNat], rfl, rfl, e2, by omega, by omega, sx, List.getElem?_eq_getElem kl, post _ _ B1 (rl1.lstPut h1 e0 (e3.eraseIdx _)) s1⟩
      · cases h2
    · cases h2
def insS (i : Nat) (fk f : FG D) : FS := fun e => (ownL i e).bind fun _ => thenS fk (fun k => thenS f fun d e => (ownL i e).bind fun ds => match k with
  | .int k => if 0 ≤ k ∧ k < 1000000 ∧ ds.length ≤ 100000 then some (.nx, ⟨e.sl.set i (.o (.list (ds.take k.toNat ++ [d] ++ ds.drop k.toNat))), e.pen⟩) else none
  | _ => none) e
theorem rzA_take : ∀ {vs : List V} {ds : List D} (n : Nat), RzA G B vs ds → RzA G B (vs.take n) (ds.take n)
  | _, _, 0, _ => by rw [List.take_zero, List.take_zero]; exact .nil
  | _, _, n + 1, .nil => .nil
  | _, _, n + 1, .cons h t => .cons h (rzA_take n t)
theorem rzA_drop : ∀ {vs : List V} {ds : List D} (n : Nat), RzA G B vs ds → RzA G B (vs.drop n) (ds.drop n)
  | _, _, 0, h => h
  | _, _, n + 1, .nil => .nil
  | _, _, n + 1, .cons h t => rzA_drop n t
theorem cs_ins {i : Nat} {tk t : TE} {fk f : FG D} (hk : CE G pn E tk fk) (h : CE G pn E t f) :
    CS G pn E (tDrop (tBM G.K "list" (fun x vs H Q => ∃ (l : Addr) (xs : List V) (i : Int) (y : V), x = .ref l ∧ vs = [.int i, y] ∧ H l = some (.lst xs) ∧ xs.length < sizeLine ∧ 0 ≤ i ∧ i < 2 ^ 63 ∧
      Q .non (upd H l (.lst (xs.take i.toNat ++ [y] ++ xs.drop i.toNat)))) (tVar i) (tCons tk (tCons t tNil)))) (insS i fk f) := by
  intro U e σ H B r e' Dn rl hf post
  obtain ⟨ds0, h0, hf⟩ := Option.bind_eq_some_iff.mp hf
  obtain ⟨p0, xs0, e0, e2, e3⟩ := rl.lst h0
  refine ⟨_, e0, .inl ⟨rfl, xs0, SqL.of e2⟩, ?_⟩
  rcases thenS_inv hf with ⟨c, ns, ds, q, h1, rfl, rfl⟩ | ⟨a, q, hfe, hf⟩
  · exact hk U e σ H B _ _ _ rl h1 post
  · refine hk U e σ H B _ _ _ rl hfe fun v H1 B1 rl1 s1 k1 rz => ?_
    rcases thenS_inv hf with ⟨c, ns, ds, q2, h1, rfl, rfl⟩ | ⟨d, q2, hfe2, hf⟩
    · exact h U _ σ H1 B1 _ _ _ rl1 h1 (post.up s1)
    · refine h U _ σ H1 B1 _ _ _ rl1 hfe2 fun w H2 B2 rl2 s2 k2 rz2 => ?_
      obtain ⟨ds, h1, h2⟩ := Option.bind_eq_some_iff.mp hf
      split at h2
      · rename_i k _
        split at h2
        · next hk =>
          cases h2
          obtain ⟨p, xs, e1, e2, e3⟩ := rl2.lst h1
          rw [e0] at e1
          cases e1
          cases rz.int_inv
          obtain ⟨k0, k1', k3⟩ := hk
          have l := e3.length
          exact ⟨p0, xs, k, w, rfl, rfl, e2, line_lt (by omega), k0, by omega, post _ _ B2 (rl2.lstPut h1 e0 (((rzA_take _ e3).app (.cons rz2 .nil)).app (rzA_drop _ e3))) (s1.trans s2)⟩
        · cases h2
      · cases h2
/-! ### xs[::-1] of a list -/
def dRevL : D → Option D
  | .list ds => some (.list ds.reverse)
  | _ => none
theorem cf_revL {t : TE} {f : FG D} (h : CB G pn E t f) : CF G pn E (tRevL G.K t) (op1 dRevL f) := by
  refine CF.bind (t := t) h fun v a U e σ H B r p' Q rl ra hf post => ?_
  obtain ⟨c, hc, rfl, rfl⟩ := optG_eq hf
  unfold dRevL at hc
  split at hc
  · cases hc
    obtain ⟨a1, xs, rfl, hx, n1, r1⟩ := ra.lst_inv
    exact ⟨a1, xs, rfl, SqL.of hx, fun p hp => post p _ B (rl.fresh hp (.lst upd_same r1.reverse)) (Same.refl _) (Keep.of (same_upd hp))⟩
  · cases hc
/-! ### a, b = [..], e -/
def parOD (i j : Nat) (f g : FG D) : FS := thenS f fun a => thenS g fun b e => if i < e.sl.length ∧ i ≠ j then some (.nx, ⟨(e.sl.set i (.o a)).set j (.d b), e.pen⟩) else none
theorem cs_parOD {i j : Nat} {t u : TE} {f g : FG D} (h1 : CF G pn E t f) (h2 : CE G pn E u g) : CS G pn E (tPar i j (tCons t (tCons u tNil))) (parOD i j f g) := by
  intro U e σ H B r e' Dn rl hf post
  rcases thenS_inv hf with ⟨c, ns, ds, q, hx, rfl, rfl⟩ | ⟨a, q, hx, hg⟩
  · exact h1 U e σ H B _ _ _ rl hx post
  · refine h1 U e σ H B _ _ _ rl hx fun p H1 B1 fr s1 k1 => ?_
    obtain ⟨o, ho, hno⟩ := fr.o.atC
    obtain ⟨os, ss, nn, ff, np⟩ := fr.s
    obtain ⟨n1, n2, n3⟩ := fr.n
    have rlU : Rl G (upd U p o) pn ⟨e.sl, q⟩ σ H1 B1 := by
      refine ⟨⟨fr.b.bh, fun a x hx => ?_, fun a x hx => ?_, fun z hz => ?_, fun z hz => ?_⟩, os, ss, nn, fun z hz => ?_⟩
      · by_cases y : a = p
        · rw [y, upd_same] at hx; rw [y, ho]; exact hx
        · rw [upd_ne y] at hx; exact fr.b.uh a x hx
      · rw [upd_ne (ne_of_none hx n1)]; exact fr.b.bu a x hx
      · obtain ⟨a1, a2, a3, a4⟩ := fr.b.pen z hz
        exact ⟨a1, (upd_ne (fun y => (n3 z hz).1 y.symm)).trans a2, a3, a4⟩
      · obtain ⟨a1, a2, a3⟩ := fr.b.tab z hz
        exact ⟨fun t ht => ⟨(a1 t ht).1, (upd_ne (fun y => (n3 z hz).2 t ht y.symm)).trans (a1 t ht).2⟩, a2, a3⟩
      · obtain ⟨a1, a2, a3⟩ := ff z hz
        exact ⟨a1, (upd_ne (fun y => np (by rw [← y]; exact hz))).trans a2, a3⟩
    rcases thenS_inv hg with ⟨c, ns, ds, q2, hx2, rfl, rfl⟩ | ⟨b, q2, hx2, hg2⟩
    · refine h2 _ _ σ H1 B1 _ _ _ rlU hx2 fun cls ao H' B' b s x => ?_
      exact post cls ao H' B' (b.unU n2 hno) (s1.trans s) x
    · refine h2 _ _ σ H1 B1 _ _ _ rlU hx2 fun v H2 B2 rl2 s2 k2 rz => ?_
      dsimp only at hg2
      split at hg2
      · next hij =>
        cases hg2
        refine ⟨_, _, rfl, ?_⟩
        obtain ⟨b2, os2, ss2, nn2, ff2⟩ := rl2
        have hp2 : H2 p = some o := b2.uh p o upd_same
        have hBp : B2 p = none := b2.nub upd_same hno.nt
        have hpo : p ∉ os2 := fun z => by have := (ff2 p z).2.1; rw [upd_same] at this; cases this
        have fr3 : Fresh G U pn ⟨e.sl, q2⟩ σ H2 B2 p a := ⟨b2.unU n2 hno, ⟨os2, ss2, nn2, fun z hz => by
          obtain ⟨a1, a2, a3⟩ := ff2 z hz
          rw [upd_ne (fun y => hpo (by rw [← y]; exact hz))] at a2
          exact ⟨a1, a2, a3⟩, hpo⟩, fr.o.keep (by rw [hp2, ho]) s2, hBp, n2, n3⟩
        exact post _ H2 B2 ((fr3.setO (i := i) hij.1).setD rz j) (s1.trans s2)
      · cases hg2
/-! ### i ** j of small ints -/
def dPow : D → D → Option D
  | .int i, .int j => if 0 ≤ j ∧ j ≤ 64 ∧ i.natAbs < 1000000 then some (.int (i ^ j.toNat)) else none
  | _, _ => none
theorem ob_pow : OpB G pn (rI CPow fun i j => .int (i ^ j.toNat)) dPow := by
  intro U e σ H B x y a b c Q rl ra rb h q
  unfold dPow at h
  split at h
  · split at h
    · next hc =>
      cases h
      cases ra.int_inv; cases rb.int_inv
      exact ⟨_, _, rfl, rfl, ⟨hc.1, by omega, by omega⟩, q _ H B rl (Same.refl _) Keep.refl (.int _)⟩
    · cases h
  · cases h
/-! ### d[k] of a dict whose keys are ints, texts, or tuples -/
theorem dgetU_some {a : Addr} {y v : V} (g : DGetU H a y (some v)) : DGet H a y (some v) := by
  rcases g with g | ⟨e, g⟩ | ⟨e, g⟩
  · exact g
  · exfalso
    rcases g with ⟨kvs, k, h, _, r⟩ | ⟨kvs, k, b, h, _, _, r⟩
    · rcases h with h | ⟨o, h⟩ <;> (rw [upd_same] at h; cases h)
    · rcases h with h | ⟨o, h⟩
      · rw [upd_same] at h; cases h; cases r
      · rw [upd_same] at h; cases h
  · exfalso
    rcases g with ⟨kvs, k, h, _, r⟩ | ⟨kvs, k, b, h, _, _, r⟩
    · rcases h with h | ⟨o, h⟩
      · rw [upd_same] at h; cases h; cases r
      · rw [upd_same] at h; cases h
    · rcases h with h | ⟨o, h⟩ <;> (rw [upd_same] at h; cases h)
def dGetU (d k : D) : Option D := match dAt d k with
  | some (some x) => some x
  | _ => none
theorem ce_dgetU {t u : TE} {f g : FG D} (h1 : CB G pn E t f) (h2 : CB G pn E u g) : CE G pn E (tDGet t u) (op2 dGetU f g) := by
  refine CB.bind2 (t := t) (u := u) (k := fun x y σ H2 Q => ∃ a v, x = .ref a ∧ DGet H2 a y (some v) ∧ Q v H2) (h := fun a b => optG (dGetU a b)) h1 h2 fun v w a b U e σ H B r p' Q rl ra rb hf post => ?_
  obtain ⟨c, hc, rfl, rfl⟩ := optG_eq hf
  unfold dGetU at hc
  split at hc
  · next x hx =>
    cases hc
    obtain ⟨p, o, rfl, g, _, hy⟩ := dAt_run rl ra rb hx
    obtain ⟨y, rfl, rz⟩ := hy _ rfl
    exact ⟨p, y, rfl, dgetU_some g, post _ H B rl (Same.refl _) Keep.refl rz⟩
  · cases hc
/-! ### len(d) of a dict, locked or not -/
def uLenU (K : PySem.W.Frag) : List V → Hp → VK → Prop := fun xs H Q => uLen K xs H Q ∨ (∃ (p : Addr) (kvs : List (Key × V)), xs = [.ref p] ∧ Rd H p (.dK kvs) ∧ Q (.int ((kvs.length : Nat) : Int)) H) ∨
  ∃ (p : Addr) (kvs : List (List Key × V)), xs = [.ref p] ∧ Rd H p (.dT kvs) ∧ Q (.int ((kvs.length : Nat) : Int)) H
theorem c_lenU {X : Cx} : CallR X (.builtin "len") (uLenU X.K) := by
  intro pins s σ H xs us Q I r h
  rcases h with h | ⟨p, kvs, rfl, hp, q⟩ | ⟨p, kvs, rfl, hp, q⟩
  · exact c_len pins s σ H xs us Q I r h
  · obtain ⟨u, rfl, rx⟩ := r.one
    obtain rfl : u = .ref p := rx
    exact d_len I hp fun t s' I' => ⟨.int ((kvs.length : Nat) : Int), H, I', ⟨_, rfl⟩, q⟩
  · obtain ⟨u, rfl, rx⟩ := r.one
    obtain rfl : u = .ref p := rx
    obtain ⟨z, hd, ys, rel, dd⟩ := dt_rd I.hok hp
    have hl : kvs.length = ys.length := Paired.length rel
    refine call_len_dictH hd dd (by rw [← hl]; rw [sizeLine_eq] at z; omega) ?_
    rw [← hl]
    exact ⟨.int ((kvs.length : Nat) : Int), H, I.tok _, ⟨_, rfl⟩, q⟩
def dLenU (d : D) : Option D := match dLen d with
  | some x => some x
  | none => (match d with
    | .dict kvs => if keysK kvs = true then some (.int kvs.length) else none
    | _ => none)
theorem b_lenU : Cb1 G pn (uLenU G.K) dLenU := by
  intro U e σ H B x a c Q rl ra h q
  unfold dLenU at h
  cases hy : dLen a with
  | some y =>
    rw [hy] at h
    cases h
    exact .inl (b_len U e σ H B x a _ Q rl ra hy q)
  | none =>
    rw [hy] at h
    cases a with
    | dict kvs =>
      have h : (if keysK kvs = true then some (PyData.int kvs.length) else none) = some c := h
      split at h
      · next hk =>
        cases h
        obtain ⟨kk, hf⟩ : ∃ kk, fits kvs kk = true := by
          unfold keysK at hk
          rcases Bool.or_eq_true_iff.mp hk with hk | hk
          · exact ⟨_, hk⟩
          · exact ⟨_, hk⟩
        obtain ⟨p, rfl, n, c⟩ := dict_inv ra hf
        rcases c with ⟨ks, ds, hp, hr, rfl⟩ | ⟨ks, ds, hp, hr, rfl⟩
        · have l : ((ks.map fun k => keyD k.1).zip ds).length = ks.length := by rw [List.length_zip, ← hr.length]; simp
          exact .inr (.inl ⟨p, ks, rfl, hp.rd, q _ H B rl (Same.refl _) Keep.refl (by rw [l]; exact .int _)⟩)
        · have l : ((ks.map fun k => keyT k.1).zip ds).length = ks.length := by rw [List.length_zip, ← hr.length]; simp
          exact .inr (.inr ⟨p, ks, rfl, hp.rd, q _ H B rl (Same.refl _) Keep.refl (by rw [l]; exact .int _)⟩)
      · cases h
    | _ => cases h
end
end Fw

set_option linter.all false
set_option maxRecDepth 100000
set_option maxHeartbeats 4000000
namespace Fw
open PySem PySem.Spec PyProof.Rows L2
/-! ### repr of a list of what has no list beside a dict -/
def fitI (d : D) : Bool := !d.hasDict || noL d
def itemsI : D → Bool
  | .list ds => ds.all fitI
  | _ => false
def fitD2 (d : D) : Bool := repK d && (fitI d || itemsI d) && d.showable && decide (d.depth ≤ 64) && decide (d.shown.length ≤ 100000)
def dRepr2 (d : D) : Option D := if fitD2 d = true then some (.str (shw d)) else none
section
variable {X : Cx} {pins : List (Addr × Obj)} {σ : L2.St} {H : Hp} {s : Shared} {XC : Str → Option Addr}
theorem RzA.shows (I : Inv X pins σ H s) : ∀ {vs : List V} {ds : List D} {us : List Value}, RzA ⟨X.K, XC⟩ H vs ds → repKA ds = true → ds.all fitI = true → PyData.showableAll ds = true → (∀ t ∈ PyData.shownAll ds, t.length ≤ sizeLine) → Vals vs us →
    ∃ bs, ReadAtMost s.heap (PyData.depthAll ds) bs ∧ ReprAllK X.prog X.w bs s.heap (PyData.depthAll ds) us (PyData.shownAll ds)
  | _, _, _, .nil, _, _, _, _, r => by
    cases r
    exact ⟨[], (fun _ h => nomatch h), by simp only [PyData.shownAll]; exact .nil⟩
  | _, _, _, .cons (d := d) (ds := ds) h t, k, f, sh, sz, r => by
    obtain ⟨k1, k2⟩ := Bool.and_eq_true_iff.mp (show (repK d && repKA ds) = true from k)
    obtain ⟨f1, f2⟩ := Bool.and_eq_true_iff.mp (show (fitI d && ds.all fitI) = true from by rw [← List.all_cons]; exact f)
    obtain ⟨s1, s2⟩ : d.showable = true ∧ PyData.showableAll ds = true := by simpa [PyData.showableAll] using sh
    have m1 : d.shown.length ≤ sizeLine := sz _ (by rw [PyData.shownAll]; exact List.mem_cons_self ..)
    have m2 : ∀ t ∈ PyData.shownAll ds, t.length ≤ sizeLine := fun t ht => sz t (by rw [PyData.shownAll]; exact List.mem_cons_of_mem _ ht)
    cases r with
    | cons r1 r2 =>
      obtain ⟨as, rd, na⟩ := Rz.reads I h k1 r1
      have hsm : d.hasDict = true → sysModules ∉ as := fun y => na (by unfold fitI at f1; rw [y] at f1; simpa using f1)
      obtain ⟨b1, q1, n1⟩ := ReprK.of_reads (prog := X.prog) (w := X.w) rd s1 hsm m1
      obtain ⟨b2, q2, n2⟩ := RzA.shows I t k2 f2 s2 m2 r2
      refine ⟨b1 ++ b2, ?_, ?_⟩
      · rw [PyData.depthAll]
        exact (q1.mono (Nat.le_max_left _ _)).append (q2.mono (Nat.le_max_right _ _))
      · rw [PyData.depthAll, PyData.shownAll]
        exact .cons ((n1.more fun b hb => List.mem_append_left _ hb).level_le (Nat.le_max_left _ _)) (n2.more_le (fun b hb => List.mem_append_right _ hb) (Nat.le_max_right _ _))
end
def rRepr2 (G : Gm) : List V → Hp → VK → Prop := fun xs H Q => ∃ v d, xs = [v] ∧ Rz G H v d ∧ fitD2 d = true ∧ Q (.str (shw d)) H
theorem fitD_of {d : D} (f1 : repK d = true) (f0 : fitI d = true) (f2 : d.showable = true) (f3 : d.depth ≤ 64) (f4 : d.shown.length ≤ 100000) : fitD d = true := by
  unfold fitD
  unfold fitI at f0
  rw [f1, f0, f2, decide_eq_true f3, decide_eq_true f4]
  rfl
theorem call_repr2 {X : Cx} {XC : Str → Option Addr} (hg : X.A.guards = some []) (hu : X.A.units + 70 < cLine) : CallR X (.builtin "repr") (rRepr2 ⟨X.K, XC⟩) := by
  intro pins s σ H xs us Q I r h
  obtain ⟨v, d, e, hd, ft, q⟩ := h
  have ft' := ft
  unfold fitD2 at ft'
  simp only [Bool.and_eq_true, decide_eq_true_eq] at ft'
  obtain ⟨⟨⟨⟨f1, f0⟩, f2⟩, f3⟩, f4⟩ := ft'
  rcases Bool.or_eq_true_iff.mp f0 with f0 | f0
  · exact call_repr hg hu pins s σ H xs us Q I r ⟨v, d, e, hd, fitD_of f1 f0 f2 f3 f4, q⟩
  · subst e
    obtain ⟨u, rfl, ru⟩ := r.one
    cases hd with
    | lst h hs =>
      cases ru
      rename_i a vs ds _
      have fI : ds.all fitI = true := f0
      obtain ⟨its, rv, ⟨o, n, ho, hc, _, hdat⟩, _⟩ := I.list (SqL.of h)
      obtain ⟨l, rfl⟩ : ∃ l, its = l := ⟨_, rfl⟩
      have sz0 : (listText (PyData.shownAll ds)).length ≤ sizeLine := Nat.le_trans (by simpa only [PyData.shown] using f4) (by decide)
      obtain ⟨bs, hb, hk⟩ := RzA.shows I hs f1 fI (by simpa [PyData.showable] using f2) (fun t ht => Nat.le_trans (listText_mem_le ht) sz0) rv
      obtain ⟨as, rd, _⟩ := Rz.reads I (Rz.lst h hs) f1 (show RelV (.ref a) (.ref a) from rfl)
      have hna : a ∉ bs := not_mem_of_deeper rd (by simp only [PyData.depth]; omega) hb
      simp only [PyData.depth] at f3
      have e0 : (PyData.list ds).shown = listText (PyData.shownAll ds) := by simp only [PyData.shown]
      refine call_repr_slot (by omega) ⟨o, ho, hc⟩ F.slot_list_repr.toG ?_
      cases hI : its with
      | nil =>
        subst hI
        have e1 : PyData.shownAll ds = [] := List.length_eq_zero_iff.mp hk.length_eq
        exact call_list_repr_empty ⟨o, ho, hc⟩ ho hdat ⟨_, _, rfl, .str (shw _), H, I.tok _, ⟨_, by rw [← shw_eq, e0, e1]; rfl⟩, q⟩
      | cons x l =>
        subst hI
        exact call_list_reprK ho hc hdat hna (by simpa using hk.length_eq) (fun i y e => hk.item i y (by simpa using e)) hg (fun b _ => Clear.nil b) (by show X.A.units + 1 + (PyData.depthAll ds + 1) < cLine; omega) (fun b o e => e) (fun h' u tk kk => ⟨_, _, rfl, .str (shw _), H, I.kept kk, ⟨u, by rw [← shw_eq, e0]⟩, q⟩) sz0
    | non => cases f0
    | bl b => cases f0
    | int i => cases f0
    | str x => cases f0
    | tup h hs => cases f0
    | kt h hs => cases f0
    | dk h hs => cases f0
    | dt h hs => cases f0
    | ins h1 h2 h3 hs => cases f0
    | fn h => cases f0
section
variable {G : Gm} {U : Hp} {pn : Pn} {E : XK} {e : Ev} {σ : L2.St} {H B H' B' : Hp} {v : V} {d : D}
theorem b_repr2 : Cb1 G pn (rRepr2 G) dRepr2 := by
  intro U e σ H B v d c Q rl rb hc post
  unfold dRepr2 at hc
  split at hc
  · next hf =>
    cases hc
    exact ⟨v, d, rfl, rb.up rl.b.bh, hf, post _ H B rl (Same.refl _) Keep.refl (.str _)⟩
  · cases hc
end
end Fw

set_option linter.all false
set_option maxRecDepth 100000
set_option maxHeartbeats 4000000
namespace Sb
open PySem PySem.Spec PyProof.Rows L2 Fw
section
variable {P : Program} {w : World} {K : PySem.W.Frag} {mg : Str → Option Value} {base : Heap} {XC : Str → Option Addr}
theorem sc_BadNumber_init : FnScope ["self", "what", "number"] ["self", "what", "number"] (defScope (inClass (top 2) 0)) := ⟨rfl, rfl, rfl, by decide +kernel, rfl, by decide +kernel, by decide +kernel⟩
theorem ok_BadNumber_init {f C : Addr} {fd : FuncData} (F : Fun K "__init__" "BadNumber.__init__" (inClass (top 2) 0) f fd) (T : OexC K C) (n0 : PySem.W.findIn K (.ref C) "what" = some none) (n1 : PySem.W.findIn K (.ref C) "number" = some none) : FnOk P w K mg base CX0 1 f fd ["self", "what", "number"] (spEx C ["what", "number"]) := by
  refine F.ok sc_BadNumber_init (fun vs H Q E h => spEx_len h) (fun cdv A outer s H vs Q E hr h => ?_)
  exact ⟨_, (pss_cons (ps_ost (pv 0) (pv 1)) (pss_one (ps_ost (pv 0) (pv 2)))), ex_run2 T n0 n1 h⟩
theorem sc_BadRow_init : FnScope ["self", "row"] ["self", "row"] (defScope (inClass (top 3) 0)) := ⟨rfl, rfl, rfl, by decide +kernel, rfl, by decide +kernel, by decide +kernel⟩
theorem ok_BadRow_init {f C : Addr} {fd : FuncData} (F : Fun K "__init__" "BadRow.__init__" (inClass (top 3) 0) f fd) (T : OexC K C) (n0 : PySem.W.findIn K (.ref C) "row" = some none) : FnOk P w K mg base CX0 1 f fd ["self", "row"] (spEx C ["row"]) := by
  refine F.ok sc_BadRow_init (fun vs H Q E h => spEx_len h) (fun cdv A outer s H vs Q E hr h => ?_)
  exact ⟨_, (pss_one (ps_ost (pv 0) (pv 1))), ex_run1 T n0 h⟩
def F_is_integer : FS := (retS (andV (isiG .int (slotD 0)) (notV (isiG .bool (slotD 0)))))
theorem sc_is_integer : FnScope ["value"] ["value"] (defScope (top 5)) := ⟨rfl, rfl, rfl, by decide +kernel, rfl, by decide +kernel, by decide +kernel⟩
theorem ok_is_integer {f : Addr} {fd : FuncData} (F : Fun K "is_integer" "is_integer" (top 5) f fd) (T : Bv mg) :
    FnG P w K mg base CX0 1 f fd ["value"] (spN ⟨K, XC⟩ false 1 (defF false 1 F_is_integer)) := by
  have sc := sc_is_integer
  refine fn_n (G := ⟨K, XC⟩) F sc_is_integer (by rfl) (fun cdv A outer s H E hr => ?_)
  refine ⟨_, (pss_one (ps_ret (pe_and (pe_callB (show CallR _ _ (rIsi K) from call_isi) (by rfl) T.isinstance (by decide +kernel) (pa_cons (pv 0) (pa_cons (pe_bltn (v := .ty "int") (by rfl) T.int (by decide +kernel) rfl) pa_nil))) (pe_one (pe_not (pe_callB (show CallR _ _ (rIsi K) from call_isi) (by rfl) T.isinstance (by decide +kernel) (pa_cons (pv 0) (pa_cons (pe_bltn (v := .ty "bool") (by rfl) T.bool (by decide +kernel) rfl) pa_nil)))))))), fun pn => ?_⟩
  exact (cs_ret (ce_and (ce_isi .int (CE.b (ce_var 0))) (ce_not (ce_isi .bool (CE.b (ce_var 0))))))
def F_is_below : FS := (retS (andV (callN 1 (defF false 1 F_is_integer) (consG (slotD 0) (retG []))) (chainG dLe dLt (retG (.int 0)) (slotD 0) (slotD 1))))
theorem sc_is_below : FnScope ["value", "end"] ["value", "end"] (defScope (top 6)) := ⟨rfl, rfl, rfl, by decide +kernel, rfl, by decide +kernel, by decide +kernel⟩
theorem ok_is_below {f a_is_integer : Addr} {fd e_is_integer : FuncData} (F : Fun K "is_below" "is_below" (top 6) f fd) (T : Bv mg) (H_is_integer : Fw.Fn K mg P w base CX0 "is_integer" 1 a_is_integer e_is_integer ["value"] (spN ⟨K, XC⟩ false 1 (defF false 1 F_is_integer))) :
    FnG P w K mg base CX0 2 f fd ["value", "end"] (spN ⟨K, XC⟩ false 2 (defF false 2 F_is_below)) := by
  have sc := sc_is_below
  refine fn_n (G := ⟨K, XC⟩) F sc_is_below (by rfl) (fun cdv A outer s H E hr => ?_)
  refine ⟨_, (pss_one (ps_ret (pe_and (Fw.pe_call H_is_integer.G (hr.mono (by decide)) (by rfl) H_is_integer.g H_is_integer.k H_is_integer.b .nil pass0 (pa_cons (pv 0) pa_nil)) (pe_one (pe_chain o_le o_lt pe_int (pv 0) (pv 1)))))), fun pn => ?_⟩
  exact (cs_ret (ce_and (ce_callN (ca_cons (ce_var 0) ca_nil)) (ce_chain ob_le ob_lt ce_int (ce_var 0) (ce_var 1))))
def F_is_row : FS := (retS (isi2G .tuple .list (slotD 0)))
theorem sc_is_row : FnScope ["value"] ["value"] (defScope (top 7)) := ⟨rfl, rfl, rfl, by decide +kernel, rfl, by decide +kernel, by decide +kernel⟩
theorem ok_is_row {f : Addr} {fd : FuncData} (F : Fun K "is_row" "is_row" (top 7) f fd) (T : Bv mg) :
    FnG P w K mg base CX0 1 f fd ["value"] (spN ⟨K, XC⟩ false 1 (defF false 1 F_is_row)) := by
  have sc := sc_is_row
  refine fn_n (G := ⟨K, XC⟩) F sc_is_row (by rfl) (fun cdv A outer s H E hr => ?_)
  refine ⟨_, (pss_one (ps_ret (pe_callB (show CallR _ _ (rIsiT K) from call_isiT) (by rfl) T.isinstance (by decide +kernel) (pa_cons (pv 0) (pa_cons (pe_tup (pa_cons (pe_bltn (v := .ty "tuple") (by rfl) T.tuple (by decide +kernel) rfl) (pa_cons (pe_bltn (v := .ty "list") (by rfl) T.list (by decide +kernel) rfl) pa_nil))) pa_nil))))), fun pn => ?_⟩
  exact (cs_ret (ce_isi2 .tuple .list (ce_var 0)))
def F_is_cell : FS := (retS (andV (callN 1 (defF false 1 F_is_row) (consG (slotD 0) (retG []))) (andV (op2 dEq (op1 dLenU (slotD 0)) (retG (.int 2))) (andV (callN 1 (defF false 1 F_is_integer) (consG (op2 dIx (slotD 0) (retG (.int 0))) (retG []))) (callN 1 (defF false 1 F_is_integer) (consG (op2 dIx (slotD 0) (retG (.int 1))) (retG [])))))))
theorem sc_is_cell : FnScope ["value"] ["value"] (defScope (top 9)) := ⟨rfl, rfl, rfl, by decide +kernel, rfl, by decide +kernel, by decide +kernel⟩
theorem ok_is_cell {f a_is_row a_is_integer : Addr} {fd e_is_row e_is_integer : FuncData} (F : Fun K "is_cell" "is_cell" (top 9) f fd) (T : Bv mg) (H_is_row : Fw.Fn K mg P w base CX0 "is_row" 1 a_is_row e_is_row ["value"] (spN ⟨K, XC⟩ false 1 (defF false 1 F_is_row))) (H_is_integer : Fw.Fn K mg P w base CX0 "is_integer" 1 a_is_integer e_is_integer ["value"] (spN ⟨K, XC⟩ false 1 (defF false 1 F_is_integer))) :
    FnG P w K mg base CX0 2 f fd ["value"] (spN ⟨K, XC⟩ false 1 (defF false 1 F_is_cell)) := by
  have sc := sc_is_cell
  refine fn_n (G := ⟨K, XC⟩) F sc_is_cell (by rfl) (fun cdv A outer s H E hr => ?_)
  refine ⟨_, (pss_one (ps_ret (pe_and (Fw.pe_call H_is_row.G (hr.mono (by decide)) (by rfl) H_is_row.g H_is_row.k H_is_row.b .nil pass0 (pa_cons (pv 0) pa_nil)) (pe_and (pe_cmpR (show OpR _ (compareOp .Eq) (rEqD K) from o_eq hr.r.units) (pe_callB (show CallR _ _ (uLenU K) from c_lenU) (by rfl) T.len (by decide +kernel) (pa_cons (pv 0) pa_nil)) pe_int (nomark _)) (pe_and (Fw.pe_call H_is_integer.G (hr.mono (by decide)) (by rfl) H_is_integer.g H_is_integer.k H_is_integer.b .nil pass0 (pa_cons (pe_ix (show IxR _ (uIx K) from o_ix) (pv 0) pe_int (fun _ _ => rfl)) pa_nil)) (pe_one (Fw.pe_call H_is_integer.G (hr.mono (by decide)) (by rfl) H_is_integer.g H_is_integer.k H_is_integer.b .nil pass0 (pa_cons (pe_ix (show IxR _ (uIx K) from o_ix) (pv 0) pe_int (fun _ _ => rfl)) pa_nil)))))))), fun pn => ?_⟩
  exact (cs_ret (ce_and (ce_callN (ca_cons (ce_var 0) ca_nil)) (ce_and (ce_op ob_eq (CE.b (ce_cb1 b_lenU (CE.b (ce_var 0)))) (CE.b ce_int)) (ce_and (ce_callN (ca_cons (ce_op ob_ix (CE.b (ce_var 0)) (CE.b ce_int)) ca_nil)) (ce_callN (ca_cons (ce_op ob_ix (CE.b (ce_var 0)) (CE.b ce_int)) ca_nil))))))
def F_are_told_cells : FS := (retS (andV (isiG .tuple (slotD 0)) (op1 dAll (lcG [1] (seqI (slotD 0)) (nameT 1) (retG true) (andV (isiG .tuple (slotD 1)) (callN 1 (defF false 1 F_is_cell) (consG (slotD 1) (retG []))))))))
theorem sc_are_told_cells : FnScope ["value", "item"] ["value"] (defScope (top 10)) := ⟨rfl, rfl, rfl, by decide +kernel, rfl, by decide +kernel, by decide +kernel⟩
theorem ok_are_told_cells {f a_is_cell : Addr} {fd e_is_cell : FuncData} (F : Fun K "are_told_cells" "are_told_cells" (top 10) f fd) (T : Bv mg) (H_is_cell : Fw.Fn K mg P w base CX0 "is_cell" 2 a_is_cell e_is_cell ["value"] (spN ⟨K, XC⟩ false 1 (defF false 1 F_is_cell))) :
    FnG P w K mg base CX0 3 f fd ["value"] (spN ⟨K, XC⟩ false 1 (defF false 2 F_are_told_cells)) := by
  have sc := sc_are_told_cells
  refine fn_n (G := ⟨K, XC⟩) F sc_are_told_cells (by rfl) (fun cdv A outer s H E hr => ?_)
  refine ⟨_, (pss_one (ps_ret (pe_and (pe_callB (show CallR _ _ (rIsi K) from call_isi) (by rfl) T.isinstance (by decide +kernel) (pa_cons (pv 0) (pa_cons (pe_bltn (v := .ty "tuple") (by rfl) T.tuple (by decide +kernel) rfl) pa_nil))) (pe_one (pe_callB (show CallR _ _ (rAll K) from c_all rfl) (by rfl) T.all (by decide +kernel) (pa_cons (pe_lc (own := [("item", 1)]) (g := gName 1) (tt := tYes) rfl sc.nd (show PI _ _ _ (iSeq K _) from pi_seq (pv 0)) (blkOk_by (N := ["value", "item"]) (sc := defScope (top 10)) (by decide +kernel)) (fun _ _ _ _ _ => (pg_name (i := 1) sc.nd rfl (.inl rfl))) (fun _ _ _ _ _ => pts_nil) (fun _ _ _ _ _ => (pe_and (pe_callB (show CallR _ _ (rIsi K) from call_isi) (by rfl) T.isinstance (by decide +kernel) (pa_cons (pv 1) (pa_cons (pe_bltn (v := .ty "tuple") (by rfl) T.tuple (by decide +kernel) rfl) pa_nil))) (pe_one (Fw.pe_call H_is_cell.G (hr.mono (by decide)) (by rfl) H_is_cell.g H_is_cell.k H_is_cell.b .nil pass0 (pa_cons (pv 1) pa_nil)))))) pa_nil)))))), fun pn => ?_⟩
  exact (cs_ret (ce_and (ce_isi .tuple (CE.b (ce_var 0))) (ce_cb1 b_all (CF.b (cf_lc (ci_seq (ce_var 0)) (tw_name 1 (by decide)) (fw_name 1 (by decide)) ct_yes (ce_and (ce_isi .tuple (CE.b (ce_var 1))) (ce_callN (ca_cons (ce_var 1) ca_nil))))))))
def F__are_paths : FS := (seqS (asgO (retG (.dict [])) 1)
  (seqS (asgS (retG (.int 0)) (nameT 2))
  (seqS (forS (seqI (slotD 0)) (nameT 3) (seqS (forS (seqI (slotD 3)) (nameT 4) (seqS (asgV (slotD 2) (subU 1 (slotD 4)))
  (asgS (op2 (dI fun i j => i + j) (slotD 2) (retG (.int 1))) (nameT 2))))
  (asgS (op2 (dI fun i j => i + j) (slotD 2) (retG (.int 1))) (nameT 2))))
  (seqS (ifS (testG (op2 dNe (op1 dLenU (slotB 1)) (op1 dSum (lcG [3] (seqI (slotD 0)) (nameT 3) (retG true) (op1 dLenU (slotD 3)))))) (retS (retG (.bool false))) nextS)
  (seqS (asgS (retG (.int 0)) (nameT 5))
  (seqS (relS 1 (forIS 1 (tupT 2 (consT (nameT 4) (consT (nameT 2) nilT))) (seqS (asgV (slotD 4) (tupV 2 (consV (nameV 6) (consV (nameV 7) nilV))))
  (forS (seqI (tupG (consG (tupG (consG (slotD 6) (consG (op2 dAdd (slotD 7) (retG (.int 1))) (retG [])))) (consG (tupG (consG (op2 dAdd (slotD 6) (retG (.int 1))) (consG (op2 dSub (slotD 7) (retG (.int 1))) (retG [])))) (consG (tupG (consG (op2 dAdd (slotD 6) (retG (.int 1))) (consG (slotD 7) (retG [])))) (consG (tupG (consG (op2 dAdd (slotD 6) (retG (.int 1))) (consG (op2 dAdd (slotD 7) (retG (.int 1))) (retG [])))) (retG []))))))) (nameT 8) (ifS (testG (op2 dInU (slotD 8) (slotB 1))) (seqS (ifS (testG (op2 dNe (op1 dAbs (op2 dSub (op2 dGetU (slotB 1) (slotD 8)) (slotD 2))) (retG (.int 1)))) (retS (retG (.bool false))) nextS)
  (asgS (op2 (dI fun i j => i + j) (slotD 5) (retG (.int 1))) (nameT 5))) nextS)))))
  (retS (op2 dEq (slotD 5) (op2 dSub (op1 dLenU (slotB 1)) (op1 dLenU (slotD 0)))))))))))
theorem sc__are_paths : FnScope ["rows", "numbers", "number", "row", "cell", "side_by_side", "x", "y", "near"] ["rows"] (defScope (top 12)) := ⟨rfl, rfl, rfl, by decide +kernel, rfl, by decide +kernel, by decide +kernel⟩
theorem ok__are_paths {f : Addr} {fd : FuncData} (F : Fun K "_are_paths" "_are_paths" (top 12) f fd) (T : Bv mg) :
    FnG P w K mg base CX0 1 f fd ["rows"] (spN ⟨K, XC⟩ false 1 (defF false 9 F__are_paths)) := by
  have sc := sc__are_paths
  refine fn_n0 (G := ⟨K, XC⟩) F sc__are_paths (by rfl) (fun cdv A outer s H E hr => ?_)
  have hu := hu_of hr.r
  refine ⟨_, (pss_cons (ps_set (i := 1) sc.nd rfl (.inl rfl) pe_dnewK)
      (pss_cons (ps_set (i := 2) sc.nd rfl (.inl rfl) pe_int)
      (pss_cons (ps_for PassesOwn.never rfl (show PI _ _ _ (iSeq K _) from pi_seq (pv 0)) (pg_name (i := 3) sc.nd rfl (.inl rfl)) (pss_cons (ps_for PassesOwn.never rfl (show PI _ _ _ (iSeq K _) from pi_seq (pv 3)) (pg_name (i := 4) sc.nd rfl (.inl rfl)) (pss_cons (ps_asg (pv 2) (pg_sub (pv 1) (pv 4) (set_U (hu65 hr.r))))
      (pss_one (ps_aug (i := 2) sc.nd rfl (.inl rfl) pe_int Fw.ip_add))))
      (pss_one (ps_aug (i := 2) sc.nd rfl (.inl rfl) pe_int Fw.ip_add))))
      (pss_cons (ps_if (pt_cmpR (show OpR _ (compareOp .NotEq) (rNeD K) from o_ne hr.r.units) (pe_callB (show CallR _ _ (uLenU K) from c_lenU) (by rfl) T.len (by decide +kernel) (pa_cons (pv 1) pa_nil)) (pe_callB (show CallR _ _ (rSum K) from cr_sum rfl) (by rfl) T.sum (by decide +kernel) (pa_cons (pe_lc (own := [("row", 3)]) (g := gName 3) (tt := tYes) rfl sc.nd (show PI _ _ _ (iSeq K _) from pi_seq (pv 0)) (blkOk_by (N := ["rows", "numbers", "number", "row", "cell", "side_by_side", "x", "y", "near"]) (sc := defScope (top 12)) (by decide +kernel)) (fun _ _ _ _ _ => (pg_name (i := 3) sc.nd rfl (.inl rfl))) (fun _ _ _ _ _ => pts_nil) (fun _ _ _ _ _ => (pe_callB (show CallR _ _ (uLenU K) from c_lenU) (by rfl) T.len (by decide +kernel) (pa_cons (pv 3) pa_nil)))) pa_nil)) (nomark _)) (pss_one (ps_ret pe_bl)) pss_nil)
      (pss_cons (ps_set (i := 5) sc.nd rfl (.inl rfl) pe_int)
      (pss_cons (ps_forI (ps_for PassesOwn.never rfl (pi_itemsU (pv 1)) (show PG _ _ (gTup K 2 _) from pg_tup (by rfl) (pgs_cons (pg_name (i := 4) sc.nd rfl (.inl rfl)) (pgs_cons (pg_name (i := 2) sc.nd rfl (.inl rfl)) pgs_nil))) (pss_cons (ps_asg (pv 4) (pg_tup (by rfl) (pgs_cons (pg_name (i := 6) sc.nd rfl (.inl rfl)) (pgs_cons (pg_name (i := 7) sc.nd rfl (.inl rfl)) pgs_nil))))
      (pss_one (ps_for PassesOwn.never rfl (show PI _ _ _ (iSeq K _) from pi_seq (pe_tup (pa_cons (pe_tup (pa_cons (pv 6) (pa_cons (pe_op (show OpR _ (binaryOp .Add) (uAdd K) from o_add) (pv 7) pe_int) pa_nil))) (pa_cons (pe_tup (pa_cons (pe_op (show OpR _ (binaryOp .Add) (uAdd K) from o_add) (pv 6) pe_int) (pa_cons (pe_op o_sub (pv 7) pe_int) pa_nil))) (pa_cons (pe_tup (pa_cons (pe_op (show OpR _ (binaryOp .Add) (uAdd K) from o_add) (pv 6) pe_int) (pa_cons (pv 7) pa_nil))) (pa_cons (pe_tup (pa_cons (pe_op (show OpR _ (binaryOp .Add) (uAdd K) from o_add) (pv 6) pe_int) (pa_cons (pe_op (show OpR _ (binaryOp .Add) (uAdd K) from o_add) (pv 7) pe_int) pa_nil))) pa_nil)))))) (pg_name (i := 8) sc.nd rfl (.inl rfl)) (pss_one (ps_if (pt_cmpR (show OpR _ (compareOp .In) (uInU K) from o_inU (hu65 hr.r)) (pv 8) (pv 1) (by rfl)) (pss_cons (ps_if (pt_cmpR (show OpR _ (compareOp .NotEq) (rNeD K) from o_ne hr.r.units) (pe_callB c_abs (by rfl) T.abs (by decide +kernel) (pa_cons (pe_op o_sub (pe_dget hu (pv 1) (pv 8) (fun _ _ => rfl)) (pv 2)) pa_nil)) pe_int (nomark _)) (pss_one (ps_ret pe_bl)) pss_nil)
      (pss_one (ps_aug (i := 5) sc.nd rfl (.inl rfl) pe_int Fw.ip_add))) pss_nil)))))))
      (pss_one (ps_ret (pe_cmpR (show OpR _ (compareOp .Eq) (rEqD K) from o_eq hr.r.units) (pv 5) (pe_op o_sub (pe_callB (show CallR _ _ (uLenU K) from c_lenU) (by rfl) T.len (by decide +kernel) (pa_cons (pv 1) pa_nil)) (pe_callB (show CallR _ _ (uLenU K) from c_lenU) (by rfl) T.len (by decide +kernel) (pa_cons (pv 0) pa_nil))) (nomark _)))))))))), ?_⟩
  exact (cs_seq (cs_asgO cf_dnewK)
    (cs_seq (cs_asg ce_int (tg_name 2))
    (cs_seq (cs_for (ci_seq (ce_var 0)) (tg_name 3) (cs_seq (cs_for (ci_seq (ce_var 3)) (tg_name 4) (cs_seq (cs_asgV (ce_var 2) (v_subU (E := E0) (ce_var 4)))
    (cs_aug ob_addI ce_int)))
    (cs_aug ob_addI ce_int)))
    (cs_seq (cs_if (ct_test (ce_op ob_ne (CE.b (ce_cb1 b_lenU (cb_var 1))) (CE.b (ce_cb1 b_sum (CF.b (cf_lc (ci_seq (ce_var 0)) (tw_name 3 (by decide)) (fw_name 3 (by decide)) ct_yes (ce_cb1 b_lenU (CE.b (ce_var 3))))))))) (cs_ret ce_bl) cs_next)
    (cs_seq (cs_asg ce_int (tg_name 5))
    (cs_seq (cs_rel 1 (cs_forI (tg_tup (tg_cons (tg_name 4) (tg_cons (tg_name 2) tg_nil))) (cs_seq (cs_asgV (ce_var 4) (v_tup (v_cons (v_name 6) (v_cons (v_name 7) v_nil))))
    (cs_for (ci_seq (ce_tup (ca_cons (ce_tup (ca_cons (ce_var 6) (ca_cons (ce_op ob_add (CE.b (ce_var 7)) (CE.b ce_int)) ca_nil))) (ca_cons (ce_tup (ca_cons (ce_op ob_add (CE.b (ce_var 6)) (CE.b ce_int)) (ca_cons (ce_op ob_sub (CE.b (ce_var 7)) (CE.b ce_int)) ca_nil))) (ca_cons (ce_tup (ca_cons (ce_op ob_add (CE.b (ce_var 6)) (CE.b ce_int)) (ca_cons (ce_var 7) ca_nil))) (ca_cons (ce_tup (ca_cons (ce_op ob_add (CE.b (ce_var 6)) (CE.b ce_int)) (ca_cons (ce_op ob_add (CE.b (ce_var 7)) (CE.b ce_int)) ca_nil))) ca_nil)))))) (tg_name 8) (cs_if (ct_test (ce_op ob_inU (CE.b (ce_var 8)) (cb_var 1))) (cs_seq (cs_if (ct_test (ce_op ob_ne (CE.b (ce_cb1 b_abs (CE.b (ce_op ob_sub (CE.b (ce_dgetU (cb_var 1) (CE.b (ce_var 8)))) (CE.b (ce_var 2)))))) (CE.b ce_int))) (cs_ret ce_bl) cs_next)
    (cs_aug ob_addI ce_int)) cs_next)))))
    (cs_ret (ce_op ob_eq (CE.b (ce_var 5)) (CE.b (ce_op ob_sub (CE.b (ce_cb1 b_lenU (cb_var 1))) (CE.b (ce_cb1 b_lenU (CE.b (ce_var 0))))))))))))))
def F_is_path : FS := (retS (andV (callN 1 (defF false 2 F_are_told_cells) (consG (slotD 0) (retG []))) (andV (op2 dGt (op1 dLenU (slotD 0)) (retG (.int 0))) (callN 1 (defF false 9 F__are_paths) (consG (tupG (consG (slotD 0) (retG []))) (retG []))))))
theorem sc_is_path : FnScope ["cells"] ["cells"] (defScope (top 13)) := ⟨rfl, rfl, rfl, by decide +kernel, rfl, by decide +kernel, by decide +kernel⟩
theorem ok_is_path {f a_are_told_cells a__are_paths : Addr} {fd e_are_told_cells e__are_paths : FuncData} (F : Fun K "is_path" "is_path" (top 13) f fd) (T : Bv mg) (H_are_told_cells : Fw.Fn K mg P w base CX0 "are_told_cells" 3 a_are_told_cells e_are_told_cells ["value"] (spN ⟨K, XC⟩ false 1 (defF false 2 F_are_told_cells))) (H__are_paths : Fw.Fn K mg P w base CX0 "_are_paths" 1 a__are_paths e__are_paths ["rows"] (spN ⟨K, XC⟩ false 1 (defF false 9 F__are_paths))) :
    FnG P w K mg base CX0 4 f fd ["cells"] (spN ⟨K, XC⟩ false 1 (defF false 1 F_is_path)) := by
  have sc := sc_is_path
  refine fn_n (G := ⟨K, XC⟩) F sc_is_path (by rfl) (fun cdv A outer s H E hr => ?_)
  refine ⟨_, (pss_one (ps_ret (pe_and (Fw.pe_call H_are_told_cells.G (hr.mono (by decide)) (by rfl) H_are_told_cells.g H_are_told_cells.k H_are_told_cells.b .nil pass0 (pa_cons (pv 0) pa_nil)) (pe_and (pe_cmpR o_gt (pe_callB (show CallR _ _ (uLenU K) from c_lenU) (by rfl) T.len (by decide +kernel) (pa_cons (pv 0) pa_nil)) pe_int (nomark _)) (pe_one (Fw.pe_call H__are_paths.G (hr.mono (by decide)) (by rfl) H__are_paths.g H__are_paths.k H__are_paths.b .nil pass0 (pa_cons (pe_tup (pa_cons (pv 0) pa_nil)) pa_nil))))))), fun pn => ?_⟩
  exact (cs_ret (ce_and (ce_callN (ca_cons (ce_var 0) ca_nil)) (ce_and (ce_op ob_gt (CE.b (ce_cb1 b_lenU (CE.b (ce_var 0)))) (CE.b ce_int)) (ce_callN (ca_cons (ce_tup (ca_cons (ce_var 0) ca_nil)) ca_nil)))))
def F_most_extra : FS := (seqS (ifS (orG (testG (op2 dLt (slotD 0) (retG (.int 2)))) (testG (op2 dLt (slotD 1) (retG (.int 3))))) (retS (retG (.int 0))) nextS)
  (retS (op2 dMulU (op2 dSub (op2 dMulU (retG (.int 2)) (slotD 1)) (retG (.int 4))) (op2 dDiv (op2 dSub (slotD 0) (retG (.int 2))) (op2 dMulU (retG (.int 2)) (slotD 1))))))
theorem sc_most_extra : FnScope ["width", "height"] ["width", "height"] (defScope (top 14)) := ⟨rfl, rfl, rfl, by decide +kernel, rfl, by decide +kernel, by decide +kernel⟩
theorem ok_most_extra {f : Addr} {fd : FuncData} (F : Fun K "most_extra" "most_extra" (top 14) f fd) (T : Bv mg) :
    FnG P w K mg base CX0 1 f fd ["width", "height"] (spN ⟨K, XC⟩ false 2 (defF false 2 F_most_extra)) := by
  have sc := sc_most_extra
  refine fn_n (G := ⟨K, XC⟩) F sc_most_extra (by rfl) (fun cdv A outer s H E hr => ?_)
  refine ⟨_, (pss_cons (ps_if (PW.pt (pw_or (pt_cmpR o_lt (pv 0) pe_int (nomark _)) (pw_or1 (pt_cmpR o_lt (pv 1) pe_int (nomark _))))) (pss_one (ps_ret pe_int)) pss_nil)
      (pss_one (ps_ret (pe_op (show OpR _ (binaryOp .Mult) (uMulU K) from o_mulU) (pe_op o_sub (pe_op (show OpR _ (binaryOp .Mult) (uMulU K) from o_mulU) pe_int (pv 1)) pe_int) (pe_op o_div (pe_op o_sub (pv 0) pe_int) (pe_op (show OpR _ (binaryOp .Mult) (uMulU K) from o_mulU) pe_int (pv 1))))))), fun pn => ?_⟩
  exact (cs_seq (cs_if (ct_or (ct_test (ce_op ob_lt (CE.b (ce_var 0)) (CE.b ce_int))) (ct_test (ce_op ob_lt (CE.b (ce_var 1)) (CE.b ce_int)))) (cs_ret ce_int) cs_next)
    (cs_ret (ce_op ob_mulU (CE.b (ce_op ob_sub (CE.b (ce_op ob_mulU (CE.b ce_int) (CE.b (ce_var 1)))) (CE.b ce_int))) (CE.b (ce_op ob_div (CE.b (ce_op ob_sub (CE.b (ce_var 0)) (CE.b ce_int))) (CE.b (ce_op ob_mulU (CE.b ce_int) (CE.b (ce_var 1)))))))))
def F__bump : FS := (seqS (asgS (op2 dDiv (op2 dAdd (slotD 1) (retG (.int 5))) (retG (.int 2))) (nameT 2))
  (seqS (asgO (lcG [4] (rgI rg2D (consG (retG (.int 1)) (consG (slotD 2) (retG [])))) (nameT 4) (retG true) (tupG (consG (op2 dAdd (slotD 0) (retG (.int 1))) (consG (op1 dNeg (slotD 4)) (retG []))))) 3)
  (seqS (appS 3 (tupG (consG (op2 dAdd (slotD 0) (retG (.int 2))) (consG (op1 dNeg (slotD 2)) (retG [])))))
  (seqS (ifS (testG (op2 dEq (op2 dAnd (slotD 1) (retG (.int 1))) (retG (.int 1)))) (seqS (asgS (op2 (dI fun i j => i - j) (slotD 2) (retG (.int 1))) (nameT 2))
  (seqS (asgS (op2 (dI fun i j => i + j) (slotD 0) (retG (.int 1))) (nameT 0))
  (appS 3 (tupG (consG (op2 dAdd (slotD 0) (retG (.int 2))) (consG (op1 dNeg (slotD 2)) (retG []))))))) nextS)
  (seqS (extS 3 (lcG [4] (rgI rg3D (consG (op2 dSub (slotD 2) (retG (.int 1))) (consG (retG (.int 0)) (consG (op1 dNeg (retG (.int 1))) (retG []))))) (nameT 4) (retG true) (tupG (consG (op2 dAdd (slotD 0) (retG (.int 3))) (consG (op1 dNeg (slotD 4)) (retG []))))))
  (seqS (appS 3 (tupG (consG (op2 dAdd (slotD 0) (retG (.int 4))) (consG (retG (.int 0)) (retG [])))))
  (relS 3 (retS (slotD 3)))))))))
theorem sc__bump : FnScope ["x", "extra", "height", "cells", "y"] ["x", "extra"] (defScope (top 15)) := ⟨rfl, rfl, rfl, by decide +kernel, rfl, by decide +kernel, by decide +kernel⟩
theorem ok__bump {f : Addr} {fd : FuncData} (F : Fun K "_bump" "_bump" (top 15) f fd) (T : Bv mg) :
    FnG P w K mg base CX0 1 f fd ["x", "extra"] (spN ⟨K, XC⟩ false 2 (defF false 5 F__bump)) := by
  have sc := sc__bump
  refine fn_n (G := ⟨K, XC⟩) F sc__bump (by rfl) (fun cdv A outer s H E hr => ?_)
  refine ⟨_, (pss_cons (ps_set (i := 2) sc.nd rfl (.inl rfl) (pe_op o_div (pe_op (show OpR _ (binaryOp .Add) (uAdd K) from o_add) (pv 1) pe_int) pe_int))
      (pss_cons (ps_setLc (i := 3) (own := [("y", 4)]) (g := gName 4) (tt := tYes) rfl sc.nd rfl rfl (sw_true rfl rfl rfl (by decide +kernel)) (pi_range2 (by rfl) T.range (pa_cons pe_int (pa_cons (pv 2) pa_nil))) (blkOk_by (N := ["x", "extra", "height", "cells", "y"]) (sc := defScope (top 15)) (by decide +kernel)) (fun _ _ _ _ _ => (pg_name (i := 4) sc.nd rfl (.inl rfl))) (fun _ _ _ _ _ => pts_nil) (fun _ _ _ _ _ => (pe_tup (pa_cons (pe_op (show OpR _ (binaryOp .Add) (uAdd K) from o_add) (pv 0) pe_int) (pa_cons (pe_un o_neg (pv 4)) pa_nil)))))
      (pss_cons (ps_expr (pe_bm PySem.F.plainAttrs_list PySem.F.slot_list_append PySem.F.type_list_append mt_append (pv 3) (pa_cons (pe_tup (pa_cons (pe_op (show OpR _ (binaryOp .Add) (uAdd K) from o_add) (pv 0) pe_int) (pa_cons (pe_un o_neg (pv 2)) pa_nil))) pa_nil)))
      (pss_cons (ps_if (pt_cmpR (show OpR _ (compareOp .Eq) (rEqD K) from o_eq hr.r.units) (pe_op o_and (pv 1) pe_int) pe_int (nomark _)) (pss_cons (ps_aug (i := 2) sc.nd rfl (.inl rfl) pe_int Fw.ip_sub)
      (pss_cons (ps_aug (i := 0) sc.nd rfl (.inr rfl) pe_int Fw.ip_add)
      (pss_one (ps_expr (pe_bm PySem.F.plainAttrs_list PySem.F.slot_list_append PySem.F.type_list_append mt_append (pv 3) (pa_cons (pe_tup (pa_cons (pe_op (show OpR _ (binaryOp .Add) (uAdd K) from o_add) (pv 0) pe_int) (pa_cons (pe_un o_neg (pv 2)) pa_nil))) pa_nil)))))) pss_nil)
      (pss_cons (ps_expr (pe_bm PySem.F.plainAttrs_list PySem.F.slot_list_extend PySem.F.type_list_extend mt_ext (pv 3) (pa_cons (pe_lc (own := [("y", 4)]) (g := gName 4) (tt := tYes) rfl sc.nd (pi_range3 (by rfl) T.range (pa_cons (pe_op o_sub (pv 2) pe_int) (pa_cons pe_int (pa_cons (pe_un o_neg pe_int) pa_nil)))) (blkOk_by (N := ["x", "extra", "height", "cells", "y"]) (sc := defScope (top 15)) (by decide +kernel)) (fun _ _ _ _ _ => (pg_name (i := 4) sc.nd rfl (.inl rfl))) (fun _ _ _ _ _ => pts_nil) (fun _ _ _ _ _ => (pe_tup (pa_cons (pe_op (show OpR _ (binaryOp .Add) (uAdd K) from o_add) (pv 0) pe_int) (pa_cons (pe_un o_neg (pv 4)) pa_nil))))) pa_nil)))
      (pss_cons (ps_expr (pe_bm PySem.F.plainAttrs_list PySem.F.slot_list_append PySem.F.type_list_append mt_append (pv 3) (pa_cons (pe_tup (pa_cons (pe_op (show OpR _ (binaryOp .Add) (uAdd K) from o_add) (pv 0) pe_int) (pa_cons pe_int pa_nil))) pa_nil)))
      (pss_one (ps_ret (pv 3))))))))), fun pn => ?_⟩
  exact (cs_seq (cs_asg (ce_op ob_div (CE.b (ce_op ob_add (CE.b (ce_var 1)) (CE.b ce_int))) (CE.b ce_int)) (tg_name 2))
    (cs_seq (cs_asgO (cf_lc (ci_rg2 (ca_cons ce_int (ca_cons (ce_var 2) ca_nil))) (tw_name 4 (by decide)) (fw_name 4 (by decide)) ct_yes (ce_tup (ca_cons (ce_op ob_add (CE.b (ce_var 0)) (CE.b ce_int)) (ca_cons (ce_un ub_neg (CE.b (ce_var 4))) ca_nil)))))
    (cs_seq (cs_app (ce_tup (ca_cons (ce_op ob_add (CE.b (ce_var 0)) (CE.b ce_int)) (ca_cons (ce_un ub_neg (CE.b (ce_var 2))) ca_nil))))
    (cs_seq (cs_if (ct_test (ce_op ob_eq (CE.b (ce_op ob_and (CE.b (ce_var 1)) (CE.b ce_int))) (CE.b ce_int))) (cs_seq (cs_aug ob_sub ce_int)
    (cs_seq (cs_aug ob_addI ce_int)
    (cs_app (ce_tup (ca_cons (ce_op ob_add (CE.b (ce_var 0)) (CE.b ce_int)) (ca_cons (ce_un ub_neg (CE.b (ce_var 2))) ca_nil)))))) cs_next)
    (cs_seq (cs_ext (CF.ce (cf_lc (ci_rg3 (ca_cons (ce_op ob_sub (CE.b (ce_var 2)) (CE.b ce_int)) (ca_cons ce_int (ca_cons (ce_un ub_neg (CE.b ce_int)) ca_nil)))) (tw_name 4 (by decide)) (fw_name 4 (by decide)) ct_yes (ce_tup (ca_cons (ce_op ob_add (CE.b (ce_var 0)) (CE.b ce_int)) (ca_cons (ce_un ub_neg (CE.b (ce_var 4))) ca_nil))))))
    (cs_seq (cs_app (ce_tup (ca_cons (ce_op ob_add (CE.b (ce_var 0)) (CE.b ce_int)) (ca_cons ce_int ca_nil))))
    (cs_rel 3 (cs_ret (ce_var 3)))))))))
def F__bumped : FS := (seqS (asgO (lstG (consG (tupG (consG (retG (.int 0)) (consG (retG (.int 0)) (retG [])))) (consG (tupG (consG (retG (.int 1)) (consG (retG (.int 0)) (retG [])))) (retG [])))) 3)
  (seqS (whileL (testG (op2 dGt (slotD 2) (retG (.int 0)))) (seqS (asgS (op2 dMin2 (slotD 2) (op2 dSub (op2 dMulU (retG (.int 2)) (slotD 1)) (retG (.int 4)))) (nameT 4))
  (seqS (extS 3 (callN 2 (defF false 5 F__bump) (consG (op2 dIx (op2 dIx (slotB 3) (op1 dNeg (retG (.int 1)))) (retG (.int 0))) (consG (slotD 4) (retG [])))))
  (asgS (op2 (dI fun i j => i - j) (slotD 2) (slotD 4)) (nameT 2)))) 100000)
  (seqS (extS 3 (lcG [5] (rgI rg2D (consG (op2 dAdd (op2 dIx (op2 dIx (slotB 3) (op1 dNeg (retG (.int 1)))) (retG (.int 0))) (retG (.int 1))) (consG (op2 dAdd (slotD 0) (retG (.int 1))) (retG [])))) (nameT 5) (retG true) (tupG (consG (slotD 5) (consG (retG (.int 0)) (retG []))))))
  (retS (op1 dTup (slotB 3))))))
theorem sc__bumped : FnScope ["width", "height", "extra", "cells", "more", "x"] ["width", "height", "extra"] (defScope (top 16)) := ⟨rfl, rfl, rfl, by decide +kernel, rfl, by decide +kernel, by decide +kernel⟩
theorem ok__bumped {f a__bump : Addr} {fd e__bump : FuncData} (F : Fun K "_bumped" "_bumped" (top 16) f fd) (T : Bv mg) (H__bump : Fw.Fn K mg P w base CX0 "_bump" 1 a__bump e__bump ["x", "extra"] (spN ⟨K, XC⟩ false 2 (defF false 5 F__bump))) :
    FnG P w K mg base CX0 2 f fd ["width", "height", "extra"] (spN ⟨K, XC⟩ false 3 (defF false 6 F__bumped)) := by
  have sc := sc__bumped
  refine fn_n (G := ⟨K, XC⟩) F sc__bumped (by rfl) (fun cdv A outer s H E hr => ?_)
  refine ⟨_, (pss_cons (ps_set (i := 3) sc.nd rfl (.inl rfl) (pe_lst (pa_cons (pe_tup (pa_cons pe_int (pa_cons pe_int pa_nil))) (pa_cons (pe_tup (pa_cons pe_int (pa_cons pe_int pa_nil))) pa_nil))))
      (pss_cons (ps_while PassesOwn.never (pt_cmpR o_gt (pv 2) pe_int (nomark _)) (pss_cons (ps_set (i := 4) sc.nd rfl (.inl rfl) (pe_callB (show CallR _ _ Fw.uMin2 from Fw.c_min2 rfl) (by rfl) T.min (by decide +kernel) (pa_cons (pv 2) (pa_cons (pe_op o_sub (pe_op (show OpR _ (binaryOp .Mult) (uMulU K) from o_mulU) pe_int (pv 1)) pe_int) pa_nil))))
      (pss_cons (ps_expr (pe_bm PySem.F.plainAttrs_list PySem.F.slot_list_extend PySem.F.type_list_extend mt_ext (pv 3) (pa_cons (Fw.pe_call H__bump.G (hr.mono (by decide)) (by rfl) H__bump.g H__bump.k H__bump.b .nil pass0 (pa_cons (pe_ix (show IxR _ (uIx K) from o_ix) (pe_ix (show IxR _ (uIx K) from o_ix) (pv 3) (pe_un o_neg pe_int) (fun _ _ => rfl)) pe_int (fun _ _ => rfl)) (pa_cons (pv 4) pa_nil))) pa_nil)))
      (pss_one (ps_aug (i := 2) sc.nd rfl (.inl rfl) (pv 4) Fw.ip_sub)))))
      (pss_cons (ps_expr (pe_bm PySem.F.plainAttrs_list PySem.F.slot_list_extend PySem.F.type_list_extend mt_ext (pv 3) (pa_cons (pe_lc (own := [("x", 5)]) (g := gName 5) (tt := tYes) rfl sc.nd (pi_range2 (by rfl) T.range (pa_cons (pe_op (show OpR _ (binaryOp .Add) (uAdd K) from o_add) (pe_ix (show IxR _ (uIx K) from o_ix) (pe_ix (show IxR _ (uIx K) from o_ix) (pv 3) (pe_un o_neg pe_int) (fun _ _ => rfl)) pe_int (fun _ _ => rfl)) pe_int) (pa_cons (pe_op (show OpR _ (binaryOp .Add) (uAdd K) from o_add) (pv 0) pe_int) pa_nil))) (blkOk_by (N := ["width", "height", "extra", "cells", "more", "x"]) (sc := defScope (top 16)) (by decide +kernel)) (fun _ _ _ _ _ => (pg_name (i := 5) sc.nd rfl (.inl rfl))) (fun _ _ _ _ _ => pts_nil) (fun _ _ _ _ _ => (pe_tup (pa_cons (pv 5) (pa_cons pe_int pa_nil))))) pa_nil)))
      (pss_one (ps_ret (pe_callTy (show CallR _ _ (uTup K) from c_tuple) (by rfl) T.tuple (by decide +kernel) (pa_cons (pv 3) pa_nil))))))), fun pn => ?_⟩
  exact (cs_seq (cs_asgO (cf_lst (ca_cons (ce_tup (ca_cons ce_int (ca_cons ce_int ca_nil))) (ca_cons (ce_tup (ca_cons ce_int (ca_cons ce_int ca_nil))) ca_nil))))
    (cs_seq (cs_while 100000 (ct_test (ce_op ob_gt (CE.b (ce_var 2)) (CE.b ce_int))) (cs_seq (cs_asg (ce_cb2 b_min2 (CE.b (ce_var 2)) (CE.b (ce_op ob_sub (CE.b (ce_op ob_mulU (CE.b ce_int) (CE.b (ce_var 1)))) (CE.b ce_int)))) (tg_name 4))
    (cs_seq (cs_ext (ce_callN (ca_cons (ce_op ob_ix (CE.b (ce_op ob_ix (cb_var 3) (CE.b (ce_un ub_neg (CE.b ce_int))))) (CE.b ce_int)) (ca_cons (ce_var 4) ca_nil))))
    (cs_aug ob_sub (ce_var 4)))))
    (cs_seq (cs_ext (CF.ce (cf_lc (ci_rg2 (ca_cons (ce_op ob_add (CE.b (ce_op ob_ix (CE.b (ce_op ob_ix (cb_var 3) (CE.b (ce_un ub_neg (CE.b ce_int))))) (CE.b ce_int))) (CE.b ce_int)) (ca_cons (ce_op ob_add (CE.b (ce_var 0)) (CE.b ce_int)) ca_nil))) (tw_name 5 (by decide)) (fw_name 5 (by decide)) ct_yes (ce_tup (ca_cons (ce_var 5) (ca_cons ce_int ca_nil))))))
    (cs_ret (ce_cb1 b_tuple (cb_var 3))))))
def F_padded : FS := (seqS (ifS (notG (testG (callN 2 (defF false 2 F_is_below) (consG (slotD 2) (consG (op2 dAdd (callN 2 (defF false 2 F_most_extra) (consG (slotD 0) (consG (slotD 1) (retG [])))) (retG (.int 1))) (retG [])))))) (raiseS "BadNumber" ["what", "number"] (consG (retG (.str "extra")) (consG (slotD 2) (retG [])))) nextS)
  (retS (callN 3 (defF false 6 F__bumped) (consG (slotD 0) (consG (slotD 1) (consG (slotD 2) (retG [])))))))
theorem sc_padded : FnScope ["width", "height", "extra"] ["width", "height", "extra"] (defScope (top 17)) := ⟨rfl, rfl, rfl, by decide +kernel, rfl, by decide +kernel, by decide +kernel⟩
theorem ok_padded {f a_is_below a_most_extra a__bumped C_BadNumber i_BadNumber : Addr} {fd e_is_below e_most_extra e__bumped e_BadNumber : FuncData} (F : Fun K "padded" "padded" (top 17) f fd) (T : Bv mg) (H_is_below : Fw.Fn K mg P w base CX0 "is_below" 2 a_is_below e_is_below ["value", "end"] (spN ⟨K, XC⟩ false 2 (defF false 2 F_is_below))) (H_most_extra : Fw.Fn K mg P w base CX0 "most_extra" 1 a_most_extra e_most_extra ["width", "height"] (spN ⟨K, XC⟩ false 2 (defF false 2 F_most_extra))) (H__bumped : Fw.Fn K mg P w base CX0 "_bumped" 2 a__bumped e__bumped ["width", "height", "extra"] (spN ⟨K, XC⟩ false 3 (defF false 6 F__bumped))) (H_BadNumber : Exn K XC mg P w base "BadNumber" ["what", "number"] ["self", "what", "number"] C_BadNumber i_BadNumber e_BadNumber) :
    FnG P w K mg base (L2.CX P w) 3 f fd ["width", "height", "extra"] (spX ⟨K, XC⟩ false 3 (defF false 3 F_padded)) := by
  have sc := sc_padded
  refine fn_x (G := ⟨K, XC⟩) F sc_padded (by rfl) (fun cdv A outer s H E hr tk => ?_)
  refine ⟨_, (pss_cons (ps_if (pt_not (pt_val (Fw.pe_call H_is_below.G (hr.mono (by decide)) (by rfl) H_is_below.g H_is_below.k H_is_below.b .nil pass0 (pa_cons (pv 2) (pa_cons (pe_op (show OpR _ (binaryOp .Add) (uAdd K) from o_add) (Fw.pe_call H_most_extra.G (hr.mono (by decide)) (by rfl) H_most_extra.g H_most_extra.k H_most_extra.b .nil pass0 (pa_cons (pv 0) (pa_cons (pv 1) pa_nil))) pe_int) pa_nil))))) (pss_one (ps_raise rfl tk (pmk_oex H_BadNumber.T H_BadNumber.iC H_BadNumber.tI H_BadNumber.G (hr.r.mono (by decide)) H_BadNumber.b .nil pass0 (by rfl) H_BadNumber.m (pa_cons pe_str (pa_cons (pv 2) pa_nil))))) pss_nil)
      (pss_one (ps_ret (Fw.pe_call H__bumped.G (hr.mono (by decide)) (by rfl) H__bumped.g H__bumped.k H__bumped.b .nil pass0 (pa_cons (pv 0) (pa_cons (pv 1) (pa_cons (pv 2) pa_nil))))))), fun pn => ?_⟩
  exact (cs_seq (cs_if (ct_not (ct_B (ce_callN (ca_cons (ce_var 2) (ca_cons (ce_op ob_add (CE.b (ce_callN (ca_cons (ce_var 0) (ca_cons (ce_var 1) ca_nil)))) (CE.b ce_int)) ca_nil))))) (cs_raise H_BadNumber.X (by decide) (ca_cons ce_str (ca_cons (ce_var 2) ca_nil))) cs_next)
    (cs_ret (ce_callN (ca_cons (ce_var 0) (ca_cons (ce_var 1) (ca_cons (ce_var 2) ca_nil))))))
end
end Sb

set_option linter.all false
set_option maxRecDepth 100000
set_option maxHeartbeats 4000000
namespace Sb
open PySem PySem.Spec PyProof.Rows L2 Fw
def penO (c : Addr) (a d n f : Int) : List (Key × V) := [(.inr "cells", .ref c), (.inr "at", .int a), (.inr "digits", .int d), (.inr "count", .int n), (.inr "fold", .int f)]
theorem pen_cells {c : Addr} {a d n f : Int} : valV (penO c a d n f) (.inr "cells") = some (.ref c) := by kernel_rfl
theorem pen_at {c : Addr} {a d n f : Int} : valV (penO c a d n f) (.inr "at") = some (.int a) := by kernel_rfl
theorem pen_digits {c : Addr} {a d n f : Int} : valV (penO c a d n f) (.inr "digits") = some (.int d) := by kernel_rfl
theorem pen_count {c : Addr} {a d n f : Int} : valV (penO c a d n f) (.inr "count") = some (.int n) := by kernel_rfl
theorem pen_fold {c : Addr} {a d n f : Int} : valV (penO c a d n f) (.inr "fold") = some (.int f) := by kernel_rfl
theorem put_at {c : Addr} {a d n f v : Int} : putK (penO c a d n f) (.inr "at") (.int v) = penO c v d n f := by kernel_rfl
theorem put_digits {c : Addr} {a d n f v : Int} : putK (penO c a d n f) (.inr "digits") (.int v) = penO c a v n f := by kernel_rfl
theorem put_count {c : Addr} {a d n f v : Int} : putK (penO c a d n f) (.inr "count") (.int v) = penO c a d v f := by kernel_rfl
theorem put_fold {c : Addr} {a d n f v : Int} : putK (penO c a d n f) (.inr "fold") (.int v) = penO c a d n v := by kernel_rfl

section
variable {H : Hp} {p c : Addr} {a d n f v : Int}
theorem dg_cells (h : H p = some (.dK (penO c a d n f))) : DGet H p (.str "cells") (some (.ref c)) := pen_cells (a := a) (d := d) (n := n) (f := f) ▸ DGet.k (k := Sum.inr "cells") h
theorem dg_at (h : H p = some (.dK (penO c a d n f))) : DGet H p (.str "at") (some (.int a)) := pen_at (c := c) (d := d) (n := n) (f := f) ▸ DGet.k (k := Sum.inr "at") h
theorem dg_digits (h : H p = some (.dK (penO c a d n f))) : DGet H p (.str "digits") (some (.int d)) := pen_digits (a := a) (c := c) (n := n) (f := f) ▸ DGet.k (k := Sum.inr "digits") h
theorem dg_count (h : H p = some (.dK (penO c a d n f))) : DGet H p (.str "count") (some (.int n)) := pen_count (a := a) (d := d) (c := c) (f := f) ▸ DGet.k (k := Sum.inr "count") h
theorem dg_fold (h : H p = some (.dK (penO c a d n f))) : DGet H p (.str "fold") (some (.int f)) := pen_fold (a := a) (d := d) (n := n) (c := c) ▸ DGet.k (k := Sum.inr "fold") h
theorem len_pen : (penO c a d n f).length < sizeLine := by show 5 < sizeLine; decide
theorem dp_at (h : H p = some (.dK (penO c a d n f))) : DPut H p (.str "at") (.int v) (upd H p (.dK (penO c v d n f))) := put_at ▸ DPut.k (k := Sum.inr "at") h len_pen
theorem dp_digits (h : H p = some (.dK (penO c a d n f))) : DPut H p (.str "digits") (.int v) (upd H p (.dK (penO c a v n f))) := put_digits ▸ DPut.k (k := Sum.inr "digits") h len_pen
theorem dp_count (h : H p = some (.dK (penO c a d n f))) : DPut H p (.str "count") (.int v) (upd H p (.dK (penO c a d v f))) := put_count ▸ DPut.k (k := Sum.inr "count") h len_pen
theorem dp_fold (h : H p = some (.dK (penO c a d n f))) : DPut H p (.str "fold") (.int v) (upd H p (.dK (penO c a d n v))) := put_fold ▸ DPut.k (k := Sum.inr "fold") h len_pen
end
section
variable {P : Program} {w : World} {K : PySem.W.Frag} {mg : Str → Option Value} {base : Heap} {XC : Str → Option Addr}
theorem sc_pen : FnScope ["_law_script", "_law_fold", "_law_cell"] ["_law_script"] (defScope (top 19)) := ⟨rfl, rfl, rfl, by decide +kernel, rfl, by decide +kernel, by decide +kernel⟩
theorem ok_pen {f : Addr} {fd : FuncData} (F : Fun K "_law_pen" "_law_pen" (top 19) f fd) (T : Bv mg) : FnG P w K mg base CX0 1 f fd ["_law_script"] (Fw.spPen K) := by
  have sc := sc_pen
  refine fnG_of0 F sc_pen (fun vs H Q E h => ?_) (fun cdv A outer s H vs Q E hr h => ?_)
  · obtain ⟨a, ns, rfl, _⟩ := h
    rfl
  · obtain ⟨a, ns, rfl, hS, hlen, q⟩ := h
    refine ⟨_, (pss_cons (ps_set (i := 1) sc.nd rfl (.inl rfl) pe_int)
      (pss_cons (ps_for PassesOwn.never rfl (pi_list (pv 0)) (pg_name (i := 2) sc.nd rfl (.inl rfl)) (pss_one (ps_set (i := 1) sc.nd rfl (.inl rfl) (pe_op op_modN (pe_callTy call_int1 (by rfl) T.int (by decide +kernel) (pa_cons (pe_op op_add (pe_op op_mul (pv 1) pe_int) (pv 2)) pa_nil)) pe_int))))
      (pss_one (ps_ret (pe_disp (pps_cons pe_str (pe_callTy call_list_of (by rfl) T.list (by decide +kernel) (pa_cons (pv 0) pa_nil)) (pps_cons pe_str pe_int (pps_cons pe_str pe_int (pps_cons pe_str pe_int (pps_cons pe_str (pv 1) pps_nil))))) (by rfl) (by rfl) (fun z => by cases z) (by decide)))))), ?_⟩
    refine ⟨_, rfl, a, rfl, ⟨_, hS⟩, for_list (K := K) (a := a) (xs := ns.map V.int) (fun i σ H' => ∃ f v, σ = [some (.ref a), some (.int f), v] ∧ H' = H ∧ 0 ≤ f ∧ f < 1000000007) ⟨0, none, rfl, rfl, by decide, by decide⟩ (fun i σ H' _ hh => ?_) ?_ ?_⟩
    · obtain ⟨f, v, rfl, rfl, _⟩ := hh
      exact hS
    · rintro i y σ H' hi ⟨f, v, rfl, rfl, h1, h2⟩
      obtain ⟨z, hz, rfl⟩ : ∃ z, ns[i]? = some z ∧ y = V.int z := by
        rw [List.getElem?_map] at hi
        cases e : ns[i]? with
        | none => rw [e] at hi; cases hi
        | some z => rw [e] at hi; exact ⟨z, rfl, (Option.some.inj hi).symm⟩
      refine ⟨_, rfl, _, _, rfl, rfl, .inl ⟨by omega, by omega⟩, _, rfl, _, _, rfl, rfl, .inl ⟨_, rfl, _, _, rfl, rfl, (by show (1000000007 : Int) ≠ 0; decide), _, _, rfl, rfl, ?_, ?_⟩⟩
      · exact Int.fmod_nonneg_of_pos _ (by decide)
      · exact Int.fmod_lt_of_pos _ (by decide)
    · rintro σ H' ⟨f, v, rfl, rfl, h1, h2⟩
      intro p hp
      refine ⟨_, rfl, a, _, rfl, .inl ((same_upd hp).seq hS), fun l hl => ⟨_, rfl, ?_, [(.inr "cells", .ref l), (.inr "at", .int 0), (.inr "digits", .int 0), (.inr "count", .int 0), (.inr "fold", .int f)], rfl, (by show 5 ≤ 15; decide), ?_⟩⟩
      · have e : p ≠ l := fun e => by rw [← e, upd_same] at hl; cases hl
        rw [upd_ne e, upd_same]
      · have e : l ≠ p := fun e => by rw [e, upd_same] at hl; cases hl
        have hl0 : H' l = none := by rw [upd_ne e] at hl; exact hl
        refine q p l _ ⟨ns, 0, 0, 0, f⟩ hp hl0 e.symm (fun b o z => ?_) ⟨?_, Int.le_refl _⟩ ?_ ?_
        · rw [upd_ne (ne_of_none z hp), upd_ne (ne_of_none z hl0), upd_ne (ne_of_none z hp)]
          exact z
        · unfold okP
          simp only [Bool.and_eq_true, decide_eq_true_eq]
          exact ⟨⟨⟨⟨⟨⟨hlen, by decide⟩, by decide⟩, by decide⟩, by decide⟩, h1⟩, by omega⟩
        · rw [upd_same]
          exact congrArg (fun x => some (HO.dK x)) (by kernel_rfl)
        · rw [upd_ne e, upd_same]
theorem sc_draw : FnScope ["_law_pen_here", "_law_many", "_law_cell", "_law_digit", "_law_blend"] ["_law_pen_here", "_law_many"] (defScope (top 20)) := ⟨rfl, rfl, rfl, by decide +kernel, rfl, by decide +kernel, by decide +kernel⟩
theorem ok__law_draw {f : Addr} {fd : FuncData} (F : Fun K "_law_draw" "_law_draw" (top 20) f fd) (T : Bv mg) : FnG P w K mg base CX0 1 f fd ["_law_pen_here", "_law_many"] (spN ⟨K, XC⟩ true 1 drawF) := by
  have sc := sc_draw
  refine fnG_of0 F sc_draw (fun vs H Q E h => spN_len h) (fun cdv A outer s H vs Q E hr h => ?_)
  obtain ⟨pn, U, B, ws, ds, pp, pp', r, rfl, hpn, hn, b, ra, hF, post⟩ := h
  have hu := hu_of hr.r
  cases pn with
  | none => cases hpn
  | some pc =>
  obtain ⟨p, c, TT, ZZ, FF0, KK⟩ := pc
  obtain ⟨hBp, hUp, hp, hBc⟩ := b.pen _ rfl
  unfold drawF at hF
  split at hF
  · next m =>
    split at hF
    · next hok =>
      cases hF
      obtain ⟨hok, hm, hm2⟩ := hok
      obtain ⟨hln, ha, hd, hn0, hnk, hf, hf2⟩ := okP_eq hok
      cases ra with
      | cons r1 r2 =>
      cases r2
      cases r1.int_inv
      have npc : c ≠ p := fun z => by rw [z, hBp] at hBc; cases hBc
      have hc : H c = some (.lst (pp.ns.map V.int)) := b.bh _ _ hBc
      have fin : ∀ (q : PenS) (x : Int), q.ns = pp.ns → (x, q) = penDraw pp m → Q (.int x) (upd H p (.dK (penO c q.a q.d q.n q.f))) := by
        intro q x hq hx
        have e1 : (penDraw pp m).1 = x := by rw [← hx]
        have e2 : (penDraw pp m).2 = q := by rw [← hx]
        refine post _ _ B ?_ (Same.refl _) ?_
        · rw [e2]
          refine ⟨fun a o h => ?_, fun a o h => ?_, b.bu, fun z hz => ?_, fun z hz => ?_⟩
          · rw [upd_ne (ne_of_none h hBp)]; exact b.bh a o h
          · rw [upd_ne (ne_of_none h hUp)]; exact b.uh a o h
          · cases hz
            exact ⟨hBp, hUp, upd_same, by rw [hq]; exact hBc⟩
          · obtain ⟨h1, h2, h3, h4⟩ := b.tab z hz
            cases hz
            exact ⟨h1, tabs_mut h2 hp noC_dK, h3.mut hp noC_dK, h4⟩
        · rw [e1]; exact .int _
      refine ⟨_, (pss_cons (ps_dput hu (pv 0) pe_str (pe_op op_add (pe_dget hu (pv 0) pe_str (fun _ _ => rfl)) pe_int) rfl)
      (C8.pss_cut (ps_if (PW.pt (pw_and (pt_cmpR op_eq (pe_dget hu (pv 0) pe_str (fun _ _ => rfl)) pe_int (nomark _)) (pw_and1 (pt_cmpR op_lt (pe_dget hu (pv 0) pe_str (fun _ _ => rfl)) (pe_callB call_len (by rfl) T.len (by decide +kernel) (pa_cons (pe_dget hu (pv 0) pe_str (fun _ _ => rfl)) pa_nil)) (nomark _))))) (pss_cons (ps_set (i := 2) sc.nd rfl (.inl rfl) (pe_ix ix_list (pe_dget hu (pv 0) pe_str (fun _ _ => rfl)) (pe_dget hu (pv 0) pe_str (fun _ _ => rfl)) (fun _ _ => rfl)))
      (pss_cons (ps_dput hu (pv 0) pe_str (pe_op op_add (pe_dget hu (pv 0) pe_str (fun _ _ => rfl)) pe_int) rfl)
      (pss_one (ps_if (pt_cmpR op_ge (pv 2) (pe_op op_pow pe_int pe_int) (nomark _)) (pss_one (ps_dput hu (pv 0) pe_str (pe_op op_sub (pv 2) (pe_op op_pow pe_int pe_int)) rfl)) (pss_one (ps_dput hu (pv 0) pe_str (pe_op op_modN (pe_callTy call_int1 (by rfl) T.int (by decide +kernel) (pa_cons (pe_op op_add (pe_op op_mul (pe_dget hu (pv 0) pe_str (fun _ _ => rfl)) pe_int) (pv 2)) pa_nil)) pe_int) rfl)))))) pss_nil)
      (pss_cons (ps_if (pt_cmpR op_gt (pe_dget hu (pv 0) pe_str (fun _ _ => rfl)) pe_int (nomark _)) (pss_cons (ps_set (i := 3) sc.nd rfl (.inl rfl) (pe_op op_modN (pe_callTy call_int1 (by rfl) T.int (by decide +kernel) (pa_cons (pe_dget hu (pv 0) pe_str (fun _ _ => rfl)) pa_nil)) (pv 1)))
      (pss_cons (ps_dput hu (pv 0) pe_str (pe_op op_fdivN (pe_dget hu (pv 0) pe_str (fun _ _ => rfl)) (pv 1)) rfl)
      (pss_one (ps_ret (pv 3))))) pss_nil)
      (pss_cons (ps_set (i := 4) sc.nd rfl (.inl rfl) (pe_op op_add (pe_op op_add (pe_dget hu (pv 0) pe_str (fun _ _ => rfl)) (pe_op op_mul (pe_dget hu (pv 0) pe_str (fun _ _ => rfl)) pe_int)) pe_int))
      (pss_one (ps_ret (pe_op op_modN (pe_op op_fdivN (pe_callTy call_int1 (by rfl) T.int (by decide +kernel) (pa_cons (pe_op op_modN (pe_op op_pow (pv 4) pe_int) pe_int) pa_nil)) pe_int) (pv 1)))))))), ?_⟩
      have hp : H p = some (.dK (penO c pp.a pp.d pp.n pp.f)) := hp
      refine ⟨_, rfl, p, _, rfl, dg_count hp, _, _, rfl, rfl, _, rfl, p, _, rfl, dp_count hp, ?_⟩
      refine ⟨fun σ' H' => ∃ (v2 : Option V), σ' = [some (.ref p), some (.int m), v2, none, none] ∧ H' = upd H p (.dK (penO c (penStep pp).a (penStep pp).d (penStep pp).n (penStep pp).f)), ?_, ?_⟩
      · refine ⟨_, rfl, p, _, rfl, dg_digits upd_same, rfl, _, rfl, ?_⟩
        refine ite2 (fun e0 => ?_) (fun e0 => ?_)
        · have hd0 : pp.d = 0 := V.int.inj (of_decide_eq_true e0)
          refine ⟨_, rfl, p, _, rfl, dg_at upd_same, _, rfl, p, _, rfl, dg_cells upd_same, _, pp.ns.length, rfl, .inl ⟨_, SqL.of (by rw [upd_ne npc]; exact hc), by rw [List.length_map]⟩, _, _, rfl, rfl, _, rfl, ?_⟩
          refine ite2 (fun e => ?_) (fun e => ?_)
          · have hlt : pp.a < (pp.ns.length : Int) := of_decide_eq_true e
            have han : pp.a.toNat < pp.ns.length := by omega
            have hgd : pp.ns.getD pp.a.toNat 0 = pp.ns[pp.a.toNat] := by rw [List.getD_eq_getElem?_getD, List.getElem?_eq_getElem han]; rfl
            have hx : (pp.ns.map V.int)[pp.a.toNat]? = some (.int (pp.ns.getD pp.a.toNat 0)) := by
              rw [List.getElem?_map, List.getElem?_eq_getElem han, hgd]
              rfl
            refine ⟨_, rfl, p, _, rfl, dg_cells upd_same, _, rfl, p, _, rfl, dg_at upd_same, c, pp.ns.map V.int, pp.a, .int (pp.ns.getD pp.a.toNat 0), rfl, rfl, SqL.of (by rw [upd_ne npc]; exact hc), at_of (by omega) hx, ?_⟩
            refine ⟨_, rfl, p, _, rfl, dg_at upd_same, _, _, rfl, rfl, _, rfl, p, _, rfl, dp_at upd_same, ?_⟩
            rw [upd_upd]
            refine ⟨_, rfl, _, _, rfl, rfl, ⟨by decide, by decide, by decide⟩, _, _, rfl, rfl, _, rfl, ?_⟩
            refine ite2 (fun e2 => ?_) (fun e2 => ?_)
            · have hge : (10 : Int) ^ 18 ≤ pp.ns.getD pp.a.toNat 0 := of_decide_eq_true e2
              refine ⟨_, rfl, _, _, rfl, rfl, ⟨by decide, by decide, by decide⟩, _, _, rfl, rfl, _, rfl, p, _, rfl, dp_digits upd_same, ?_⟩
              rw [upd_upd]
              refine ⟨_, rfl, ?_⟩
              unfold penStep
              rw [if_pos ⟨hd0, hlt⟩, if_pos hge]
              rfl
            · have hge : ¬ (10 : Int) ^ 18 ≤ pp.ns.getD pp.a.toNat 0 := fun z => e2 (decide_eq_true z)
              refine ⟨_, rfl, p, _, rfl, dg_fold upd_same, _, _, rfl, rfl, .inl ⟨by omega, by omega⟩, _, rfl, _, _, rfl, rfl, .inl ⟨_, rfl, _, _, rfl, rfl, (by show (2147483587 : Int) ≠ 0; decide), _, rfl, p, _, rfl, dp_fold upd_same, ?_⟩⟩
              rw [upd_upd]
              refine ⟨_, rfl, ?_⟩
              unfold penStep
              rw [if_pos ⟨hd0, hlt⟩, if_neg hge]
          · refine ⟨none, rfl, ?_⟩
            unfold penStep
            rw [if_neg fun z => e (decide_eq_true z.2)]
        · refine ⟨none, rfl, ?_⟩
          unfold penStep
          rw [if_neg fun z => e0 (decide_eq_true (congrArg V.int z.1))]
      · rintro σ' H' ⟨v2, rfl, rfl⟩
        have hs := penStep_ok (k := pp.n) ⟨hok, Int.le_refl _⟩
        have hst : (penStep pp).ns = pp.ns := by unfold penStep; split; (· split <;> rfl); rfl
        have hgood : 0 ≤ (penStep pp).f ∧ (penStep pp).f < 2147483587 ∧ 0 ≤ (penStep pp).n ∧ (penStep pp).n ≤ 1000000000 := by
          unfold penStep
          split
          · split
            · exact ⟨hf, hf2, (by show 0 ≤ pp.n + 1; omega), (by show pp.n + 1 ≤ _; omega)⟩
            · exact ⟨fmod_lo _ (by decide), fmod_hi _ (by decide), (by show 0 ≤ pp.n + 1; omega), (by show pp.n + 1 ≤ _; omega)⟩
          · exact ⟨hf, hf2, (by show 0 ≤ pp.n + 1; omega), (by show pp.n + 1 ≤ _; omega)⟩
        obtain ⟨g1, g2, g3, g4⟩ := hgood
        refine ⟨_, rfl, p, _, rfl, dg_digits upd_same, _, _, rfl, rfl, _, rfl, ?_⟩
        refine ite2 (fun e => ?_) (fun e => ?_)
        · have hgt : 0 < (penStep pp).d := of_decide_eq_true e
          refine ⟨_, rfl, p, _, rfl, dg_digits upd_same, .inl ⟨_, rfl, _, rfl, _, _, rfl, rfl, (by show m ≠ 0; omega), ?_⟩⟩
          refine ⟨_, rfl, p, _, rfl, dg_digits upd_same, _, rfl, _, _, rfl, rfl, ⟨by omega, by omega⟩, _, rfl, p, _, rfl, dp_digits upd_same, ?_⟩
          rw [upd_upd]
          refine ⟨_, rfl, fin ⟨(penStep pp).ns, (penStep pp).a, (penStep pp).d.fdiv m, (penStep pp).n, (penStep pp).f⟩ _ hst ?_⟩
          unfold penDraw
          simp only
          rw [if_pos hgt]
        · have hgt : ¬ 0 < (penStep pp).d := fun z => e (decide_eq_true z)
          refine ⟨_, rfl, p, _, rfl, dg_fold upd_same, _, rfl, p, _, rfl, dg_count upd_same, _, _, rfl, rfl, .inl ⟨by omega, by omega⟩, _, _, rfl, rfl, _, _, rfl, rfl, ?_⟩
          refine ⟨_, rfl, _, _, rfl, rfl, ⟨by decide, by decide, by omega⟩, _, _, rfl, rfl, (by show (2305843009213693951 : Int) ≠ 0; decide), .inl ⟨_, rfl, _, _, rfl, rfl, ⟨by decide, by decide⟩, _, rfl, _, _, rfl, rfl, (by show m ≠ 0; omega), ?_⟩⟩
          refine fin (penStep pp) _ hst ?_
          unfold penDraw
          simp only
          rw [if_neg hgt]
          rfl
    · cases hF
  · cases hF
end
end Sb

set_option linter.all false
set_option maxRecDepth 100000
set_option maxHeartbeats 4000000
namespace Sb
open PySem PySem.Spec PyProof.Rows L2 Fw
section
variable {P : Program} {w : World} {K : PySem.W.Frag} {mg : Str → Option Value} {base : Heap} {XC : Str → Option Addr}
def F__law_pick : FS := (retS (op2 dIx (slotD 1) (callP 1 0 drawF (consG (op1 dLenU (slotD 1)) (retG [])))))
theorem sc__law_pick : FnScope ["_law_pen_here", "_law_some"] ["_law_pen_here", "_law_some"] (defScope (top 21)) := ⟨rfl, rfl, rfl, by decide +kernel, rfl, by decide +kernel, by decide +kernel⟩
theorem ok__law_pick {f a__law_draw : Addr} {fd e__law_draw : FuncData} (F : Fun K "_law_pick" "_law_pick" (top 21) f fd) (T : Bv mg) (H__law_draw : Fw.Fn K mg P w base CX0 "_law_draw" 1 a__law_draw e__law_draw ["_law_pen_here", "_law_many"] (spN ⟨K, XC⟩ true 1 drawF)) :
    FnG P w K mg base CX0 2 f fd ["_law_pen_here", "_law_some"] (spN ⟨K, XC⟩ true 1 (defF true 2 F__law_pick)) := by
  have sc := sc__law_pick
  refine fn_n (G := ⟨K, XC⟩) F sc__law_pick (by rfl) (fun cdv A outer s H E hr => ?_)
  refine ⟨_, (pss_one (ps_ret (pe_ix (show IxR _ (uIx K) from o_ix) (pv 1) (Fw.pe_call H__law_draw.G (hr.mono (by decide)) (by rfl) H__law_draw.g H__law_draw.k H__law_draw.b .nil pass0 (pa_cons (pv 0) (pa_cons (pe_callB (show CallR _ _ (uLenU K) from c_lenU) (by rfl) T.len (by decide +kernel) (pa_cons (pv 1) pa_nil)) pa_nil))) (fun _ _ => rfl)))), fun pn => ?_⟩
  exact (cs_ret (ce_op ob_ix (CE.b (ce_var 1)) (CE.b (ce_callP (ca_cons (ce_cb1 b_lenU (CE.b (ce_var 1))) ca_nil)))))
def F__law_is_whole : FS := (retS (andV (isiG .int (slotD 0)) (notV (isiG .bool (slotD 0)))))
theorem sc__law_is_whole : FnScope ["_law_thing"] ["_law_thing"] (defScope (top 22)) := ⟨rfl, rfl, rfl, by decide +kernel, rfl, by decide +kernel, by decide +kernel⟩
theorem ok__law_is_whole {f : Addr} {fd : FuncData} (F : Fun K "_law_is_whole" "_law_is_whole" (top 22) f fd) (T : Bv mg) :
    FnG P w K mg base CX0 1 f fd ["_law_thing"] (spN ⟨K, XC⟩ false 1 (defF false 1 F__law_is_whole)) := by
  have sc := sc__law_is_whole
  refine fn_n (G := ⟨K, XC⟩) F sc__law_is_whole (by rfl) (fun cdv A outer s H E hr => ?_)
  refine ⟨_, (pss_one (ps_ret (pe_and (pe_callB (show CallR _ _ (rIsi K) from call_isi) (by rfl) T.isinstance (by decide +kernel) (pa_cons (pv 0) (pa_cons (pe_bltn (v := .ty "int") (by rfl) T.int (by decide +kernel) rfl) pa_nil))) (pe_one (pe_not (pe_callB (show CallR _ _ (rIsi K) from call_isi) (by rfl) T.isinstance (by decide +kernel) (pa_cons (pv 0) (pa_cons (pe_bltn (v := .ty "bool") (by rfl) T.bool (by decide +kernel) rfl) pa_nil)))))))), fun pn => ?_⟩
  exact (cs_ret (ce_and (ce_isi .int (CE.b (ce_var 0))) (ce_not (ce_isi .bool (CE.b (ce_var 0))))))
def F__law_fault (g : Option (Rs D)) : FS := (seqS (asgS (tupG (consG (retG (.str "none")) (retG []))) (nameT 1))
  (seqS (tryS 3 2 ["BadNumber", "BadRow"] (dropS (actG g)) (("BadNumber", fun ns ds => asgS (tupG (consG (retG (.str "number")) (consG (exF "what" ns ds) (consG (op1 dRepr2 (exF "number" ns ds)) (retG []))))) (nameT 1)) :: (("BadRow", fun ns ds => asgS (tupG (consG (retG (.str "row")) (consG (op1 dRepr2 (exF "row" ns ds)) (retG [])))) (nameT 1)) :: [])))
  (retS (slotD 1))))
theorem sc__law_fault : FnScope ["_law_call", "_law_told", "error"] ["_law_call"] (defScope (top 23)) := ⟨rfl, rfl, rfl, by decide +kernel, rfl, by decide +kernel, by decide +kernel⟩
theorem gives__law_fault {X : Cx} {q0 : Str} {g0 : Addr} {cd0 : Value} {C_BadNumber C_BadRow : Addr} (T : Bv X.mg) (hg : X.A.guards = some []) (hu : X.A.units + 80 < cLine) (M : Exm ⟨X.K, XC⟩ ["BadNumber", "BadRow"]) (V_BadNumber : XC "BadNumber" = some C_BadNumber) (m_BadNumber : X.mg "BadNumber" = some (.ref C_BadNumber)) (X_BadNumber : XfC X.K C_BadNumber) (n_BadNumber_what : PySem.W.findIn X.K (.ref C_BadNumber) "what" = some none) (n_BadNumber_number : PySem.W.findIn X.K (.ref C_BadNumber) "number" = some none) (V_BadRow : XC "BadRow" = some C_BadRow) (m_BadRow : X.mg "BadRow" = some (.ref C_BadRow)) (X_BadRow : XfC X.K C_BadRow) (n_BadRow_row : PySem.W.findIn X.K (.ref C_BadRow) "row" = some none) :
    LamX.GivesTo X ["_law_call", "_law_told", "error"] "_law_fault" (defScope (top 23)) g0 cd0 (defBody (top 23)) "_law_call" q0 (TTw ⟨X.K, XC⟩ 3 F__law_fault) := by
  have sc := sc__law_fault
  refine why_gives (by rfl) (by decide) fun f0 c0 s0 H0 tl act => ?_
  refine ⟨_, (pss_cons (ps_set (i := 1) sc.nd rfl (.inl rfl) (pe_tup (pa_cons pe_str pa_nil)))
      (pss_cons (ps_tryL (i := 2) (m := 3) (tbE := fun E1 => tDrop (tAct f0 c0 q0 (tl E1))) rfl rfl sc.nd rfl rfl L2.takes0 rfl (fun E1 W pn xe tk hW p => pss_one (ps_expr (act W pn xe E1 _ _ tk hW))) (Clauses.cons ⟨by rfl, by decide, .inl m_BadNumber⟩ (fun a oe cls d pn hz hf => (pss_one (ps_set (i := 1) sc.nd rfl (.inl rfl) (pe_tup (pa_cons pe_str (pa_cons (pe_xf X_BadNumber n_BadNumber_what hz hf (pv 2)) (pa_cons (pe_callB (show CallR _ _ (Fw.rRepr2 ⟨X.K, XC⟩) from Fw.call_repr2 (by exact hg) (by show X.A.units + 3 + 70 < cLine; omega)) (by rfl) T.repr (by decide +kernel) (pa_cons (pe_xf X_BadNumber n_BadNumber_number hz hf (pv 2)) pa_nil)) pa_nil))))))) (Clauses.cons ⟨by rfl, by decide, .inl m_BadRow⟩ (fun a oe cls d pn hz hf => (pss_one (ps_set (i := 1) sc.nd rfl (.inl rfl) (pe_tup (pa_cons pe_str (pa_cons (pe_callB (show CallR _ _ (Fw.rRepr2 ⟨X.K, XC⟩) from Fw.call_repr2 (by exact hg) (by show X.A.units + 3 + 70 < cLine; omega)) (by rfl) T.repr (by decide +kernel) (pa_cons (pe_xf X_BadRow n_BadRow_row hz hf (pv 2)) pa_nil)) pa_nil)))))) Clauses.nil)))
      (pss_one (ps_ret (pv 1))))), fun qi g hF hZ hT => ?_⟩
  subst hF
  exact (cs_seq (cs_asg (ce_tup (ca_cons ce_str ca_nil)) (tg_name 1))
    (cs_seq (cs_try (n := 3) M (by decide) (fun E1 => cs_drop (ce_act hZ hT)) (Cls_.cons V_BadNumber (by decide) (cl_asg (j := 1) fun ns ds => (cx_tup (cxa_cons (cx_of ce_str) (cxa_cons cx_fld (cxa_cons (cx_cb1 b_repr2 cx_fld) cxa_nil))))) (Cls_.cons V_BadRow (by decide) (cl_asg (j := 1) fun ns ds => (cx_tup (cxa_cons (cx_of ce_str) (cxa_cons (cx_cb1 b_repr2 cx_fld) cxa_nil)))) Cls_.nil)))
    (cs_ret (ce_var 1))))
def F__law_is_cell : FS := (retS (andV (isiG .tuple (slotD 0)) (andV (op2 dEq (op1 dLenU (slotD 0)) (retG (.int 2))) (andV (callN 1 (defF false 1 F__law_is_whole) (consG (op2 dIx (slotD 0) (retG (.int 0))) (retG []))) (callN 1 (defF false 1 F__law_is_whole) (consG (op2 dIx (slotD 0) (retG (.int 1))) (retG [])))))))
theorem sc__law_is_cell : FnScope ["_law_value"] ["_law_value"] (defScope (top 24)) := ⟨rfl, rfl, rfl, by decide +kernel, rfl, by decide +kernel, by decide +kernel⟩
theorem ok__law_is_cell {f a__law_is_whole : Addr} {fd e__law_is_whole : FuncData} (F : Fun K "_law_is_cell" "_law_is_cell" (top 24) f fd) (T : Bv mg) (H__law_is_whole : Fw.Fn K mg P w base CX0 "_law_is_whole" 1 a__law_is_whole e__law_is_whole ["_law_thing"] (spN ⟨K, XC⟩ false 1 (defF false 1 F__law_is_whole))) :
    FnG P w K mg base CX0 2 f fd ["_law_value"] (spN ⟨K, XC⟩ false 1 (defF false 1 F__law_is_cell)) := by
  have sc := sc__law_is_cell
  refine fn_n (G := ⟨K, XC⟩) F sc__law_is_cell (by rfl) (fun cdv A outer s H E hr => ?_)
  refine ⟨_, (pss_one (ps_ret (pe_and (pe_callB (show CallR _ _ (rIsi K) from call_isi) (by rfl) T.isinstance (by decide +kernel) (pa_cons (pv 0) (pa_cons (pe_bltn (v := .ty "tuple") (by rfl) T.tuple (by decide +kernel) rfl) pa_nil))) (pe_and (pe_cmpR (show OpR _ (compareOp .Eq) (rEqD K) from o_eq hr.r.units) (pe_callB (show CallR _ _ (uLenU K) from c_lenU) (by rfl) T.len (by decide +kernel) (pa_cons (pv 0) pa_nil)) pe_int (nomark _)) (pe_and (Fw.pe_call H__law_is_whole.G (hr.mono (by decide)) (by rfl) H__law_is_whole.g H__law_is_whole.k H__law_is_whole.b .nil pass0 (pa_cons (pe_ix (show IxR _ (uIx K) from o_ix) (pv 0) pe_int (fun _ _ => rfl)) pa_nil)) (pe_one (Fw.pe_call H__law_is_whole.G (hr.mono (by decide)) (by rfl) H__law_is_whole.g H__law_is_whole.k H__law_is_whole.b .nil pass0 (pa_cons (pe_ix (show IxR _ (uIx K) from o_ix) (pv 0) pe_int (fun _ _ => rfl)) pa_nil)))))))), fun pn => ?_⟩
  exact (cs_ret (ce_and (ce_isi .tuple (CE.b (ce_var 0))) (ce_and (ce_op ob_eq (CE.b (ce_cb1 b_lenU (CE.b (ce_var 0)))) (CE.b ce_int)) (ce_and (ce_callN (ca_cons (ce_op ob_ix (CE.b (ce_var 0)) (CE.b ce_int)) ca_nil)) (ce_callN (ca_cons (ce_op ob_ix (CE.b (ce_var 0)) (CE.b ce_int)) ca_nil))))))
def F__law_near : FS := (seqS (asgV (slotD 0) (tupV 2 (consV (nameV 1) (consV (nameV 2) nilV))))
  (seqS (asgS (lstG (retG [])) (nameT 3))
  (seqS (forS (seqI (lstG (consG (op1 dNeg (retG (.int 1))) (consG (retG (.int 0)) (consG (retG (.int 1)) (retG [])))))) (nameT 4) (asgS (op2 dAdd (slotD 3) (lcG [5] (seqI (lstG (consG (op1 dNeg (retG (.int 1))) (consG (retG (.int 0)) (consG (retG (.int 1)) (retG [])))))) (nameT 5) (orG (testG (op2 dNe (slotD 4) (retG (.int 0)))) (testG (op2 dNe (slotD 5) (retG (.int 0))))) (tupG (consG (op2 dAdd (slotD 1) (slotD 4)) (consG (op2 dAdd (slotD 2) (slotD 5)) (retG [])))))) (nameT 3)))
  (retS (slotD 3)))))
theorem sc__law_near : FnScope ["_law_cell", "_law_x", "_law_y", "_law_found", "_law_dx", "_law_dy"] ["_law_cell"] (defScope (top 25)) := ⟨rfl, rfl, rfl, by decide +kernel, rfl, by decide +kernel, by decide +kernel⟩
theorem ok__law_near {f : Addr} {fd : FuncData} (F : Fun K "_law_near" "_law_near" (top 25) f fd) (T : Bv mg) :
    FnG P w K mg base CX0 1 f fd ["_law_cell"] (spN ⟨K, XC⟩ false 1 (defF false 6 F__law_near)) := by
  have sc := sc__law_near
  refine fn_n (G := ⟨K, XC⟩) F sc__law_near (by rfl) (fun cdv A outer s H E hr => ?_)
  refine ⟨_, (pss_cons (ps_asg (pv 0) (pg_tup (by rfl) (pgs_cons (pg_name (i := 1) sc.nd rfl (.inr rfl)) (pgs_cons (pg_name (i := 2) sc.nd rfl (.inr rfl)) pgs_nil))))
      (pss_cons (ps_set (i := 3) sc.nd rfl (.inl rfl) (pe_lst pa_nil))
      (pss_cons (ps_for PassesOwn.never rfl (show PI _ _ _ (iSeq K _) from pi_seq (pe_lst (pa_cons (pe_un o_neg pe_int) (pa_cons pe_int (pa_cons pe_int pa_nil))))) (pg_name (i := 4) sc.nd rfl (.inr rfl)) (pss_one (ps_set (i := 3) sc.nd rfl (.inl rfl) (pe_op (show OpR _ (binaryOp .Add) (uAdd K) from o_add) (pv 3) (pe_lc (own := [("_law_dy", 5)]) (g := gName 5) rfl sc.nd (show PI _ _ _ (iSeq K _) from pi_seq (pe_lst (pa_cons (pe_un o_neg pe_int) (pa_cons pe_int (pa_cons pe_int pa_nil))))) (blkOk_by (N := ["_law_cell", "_law_x", "_law_y", "_law_found", "_law_dx", "_law_dy"]) (sc := defScope (top 25)) (by decide +kernel)) (fun _ _ _ _ _ => (pg_name (i := 5) sc.nd rfl (.inl rfl))) (fun _ _ _ _ _ => (pts_one (PW.pt (pw_or (pt_cmpR (show OpR _ (compareOp .NotEq) (rNeD K) from o_ne hr.r.units) (pv 4) pe_int (nomark _)) (pw_or1 (pt_cmpR (show OpR _ (compareOp .NotEq) (rNeD K) from o_ne hr.r.units) (pv 5) pe_int (nomark _))))))) (fun _ _ _ _ _ => (pe_tup (pa_cons (pe_op (show OpR _ (binaryOp .Add) (uAdd K) from o_add) (pv 1) (pv 4)) (pa_cons (pe_op (show OpR _ (binaryOp .Add) (uAdd K) from o_add) (pv 2) (pv 5)) pa_nil)))))))))
      (pss_one (ps_ret (pv 3)))))), fun pn => ?_⟩
  exact (cs_seq (cs_asgV (ce_var 0) (v_tup (v_cons (v_name 1) (v_cons (v_name 2) v_nil))))
    (cs_seq (cs_asg (CF.ce (cf_lst ca_nil)) (tg_name 3))
    (cs_seq (cs_for (ci_seq (CF.ce (cf_lst (ca_cons (ce_un ub_neg (CE.b ce_int)) (ca_cons ce_int (ca_cons ce_int ca_nil)))))) (tg_name 4) (cs_asg (ce_op ob_add (CE.b (ce_var 3)) (CF.b (cf_lc (ci_seq (CF.ce (cf_lst (ca_cons (ce_un ub_neg (CE.b ce_int)) (ca_cons ce_int (ca_cons ce_int ca_nil)))))) (tw_name 5 (by decide)) (fw_name 5 (by decide)) (ct_or (ct_test (ce_op ob_ne (CE.b (ce_var 4)) (CE.b ce_int))) (ct_test (ce_op ob_ne (CE.b (ce_var 5)) (CE.b ce_int)))) (ce_tup (ca_cons (ce_op ob_add (CE.b (ce_var 1)) (CE.b (ce_var 4))) (ca_cons (ce_op ob_add (CE.b (ce_var 2)) (CE.b (ce_var 5))) ca_nil)))))) (tg_name 3)))
    (cs_ret (ce_var 3)))))
def F__law_is_path : FS := (seqS (ifS (orG (notG (testG (isiG .tuple (slotD 0)))) (orG (testG (op2 dEq (slotD 0) (tupG (retG [])))) (testG (op2 dNe (lcG [4] (seqI (slotD 0)) (nameT 4) (notG (testG (callN 1 (defF false 1 F__law_is_cell) (consG (slotD 4) (retG []))))) (retG (.int 1))) (lstG (retG [])))))) (retS (retG (.bool false))) nextS)
  (seqS (asgO (retG (.dict [])) 1)
  (seqS (forS (rgI rg1D (consG (op1 dLenU (slotD 0)) (retG []))) (nameT 2) (seqS (ifS (testG (op2 dInU (op2 dIx (slotD 0) (slotD 2)) (slotB 1))) (retS (retG (.bool false))) nextS)
  (asgV (slotD 2) (subU 1 (op2 dIx (slotD 0) (slotD 2))))))
  (seqS (forS (rgI rg1D (consG (op1 dLenU (slotD 0)) (retG []))) (nameT 2) (seqS (asgS (op1 dSort (lcG [4] (seqI (callN 1 (defF false 6 F__law_near) (consG (op2 dIx (slotD 0) (slotD 2)) (retG [])))) (nameT 4) (testG (op2 dInU (slotD 4) (slotB 1))) (op2 dGetU (slotB 1) (slotD 4)))) (nameT 3))
  (ifS (testG (op2 dNe (slotD 3) (lcG [5] (seqI (lstG (consG (op2 dSub (slotD 2) (retG (.int 1))) (consG (op2 dAdd (slotD 2) (retG (.int 1))) (retG []))))) (nameT 5) (testG (chainG dLe dLt (retG (.int 0)) (slotD 5) (op1 dLenU (slotD 0)))) (slotD 5)))) (retS (retG (.bool false))) nextS)))
  (retS (retG (.bool true)))))))
theorem sc__law_is_path : FnScope ["_law_value", "_law_places", "_law_k", "_law_near_here", "_law_cell", "_law_n"] ["_law_value"] (defScope (top 26)) := ⟨rfl, rfl, rfl, by decide +kernel, rfl, by decide +kernel, by decide +kernel⟩
theorem ok__law_is_path {f a__law_is_cell a__law_near : Addr} {fd e__law_is_cell e__law_near : FuncData} (F : Fun K "_law_is_path" "_law_is_path" (top 26) f fd) (T : Bv mg) (H__law_is_cell : Fw.Fn K mg P w base CX0 "_law_is_cell" 2 a__law_is_cell e__law_is_cell ["_law_value"] (spN ⟨K, XC⟩ false 1 (defF false 1 F__law_is_cell))) (H__law_near : Fw.Fn K mg P w base CX0 "_law_near" 1 a__law_near e__law_near ["_law_cell"] (spN ⟨K, XC⟩ false 1 (defF false 6 F__law_near))) :
    FnG P w K mg base CX0 3 f fd ["_law_value"] (spN ⟨K, XC⟩ false 1 (defF false 6 F__law_is_path)) := by
  have sc := sc__law_is_path
  refine fn_n (G := ⟨K, XC⟩) F sc__law_is_path (by rfl) (fun cdv A outer s H E hr => ?_)
  have hu := hu_of hr.r
  refine ⟨_, (pss_cons (ps_if (PW.pt (pw_or (pt_not (pt_val (pe_callB (show CallR _ _ (rIsi K) from call_isi) (by rfl) T.isinstance (by decide +kernel) (pa_cons (pv 0) (pa_cons (pe_bltn (v := .ty "tuple") (by rfl) T.tuple (by decide +kernel) rfl) pa_nil))))) (pw_or (pt_cmpR (show OpR _ (compareOp .Eq) (rEqD K) from o_eq hr.r.units) (pv 0) (pe_tup pa_nil) (nomark _)) (pw_or1 (pt_cmpR (show OpR _ (compareOp .NotEq) (rNeD K) from o_ne hr.r.units) (pe_lc (own := [("_law_cell", 4)]) (g := gName 4) rfl sc.nd (show PI _ _ _ (iSeq K _) from pi_seq (pv 0)) (blkOk_by (N := ["_law_value", "_law_places", "_law_k", "_law_near_here", "_law_cell", "_law_n"]) (sc := defScope (top 26)) (by decide +kernel)) (fun _ _ _ _ _ => (pg_name (i := 4) sc.nd rfl (.inl rfl))) (fun _ _ _ _ _ => (pts_one (pt_not (pt_val (Fw.pe_call H__law_is_cell.G (hr.mono (by decide)) (by rfl) H__law_is_cell.g H__law_is_cell.k H__law_is_cell.b .nil pass0 (pa_cons (pv 4) pa_nil)))))) (fun _ _ _ _ _ => pe_int)) (pe_lst pa_nil) (nomark _)))))) (pss_one (ps_ret pe_bl)) pss_nil)
      (pss_cons (ps_set (i := 1) sc.nd rfl (.inr rfl) pe_dnewK)
      (pss_cons (ps_for PassesOwn.never rfl (pi_range1 (by rfl) T.range (pa_cons (pe_callB (show CallR _ _ (uLenU K) from c_lenU) (by rfl) T.len (by decide +kernel) (pa_cons (pv 0) pa_nil)) pa_nil)) (pg_name (i := 2) sc.nd rfl (.inl rfl)) (pss_cons (ps_if (pt_cmpR (show OpR _ (compareOp .In) (uInU K) from o_inU (hu65 hr.r)) (pe_ix (show IxR _ (uIx K) from o_ix) (pv 0) (pv 2) (fun _ _ => rfl)) (pv 1) (by rfl)) (pss_one (ps_ret pe_bl)) pss_nil)
      (pss_one (ps_asg (pv 2) (pg_sub (pv 1) (pe_ix (show IxR _ (uIx K) from o_ix) (pv 0) (pv 2) (fun _ _ => rfl)) (set_U (hu65 hr.r)))))))
      (pss_cons (ps_for PassesOwn.never rfl (pi_range1 (by rfl) T.range (pa_cons (pe_callB (show CallR _ _ (uLenU K) from c_lenU) (by rfl) T.len (by decide +kernel) (pa_cons (pv 0) pa_nil)) pa_nil)) (pg_name (i := 2) sc.nd rfl (.inl rfl)) (pss_cons (ps_set (i := 3) sc.nd rfl (.inl rfl) (pe_callB (show CallR _ _ (uSort K) from c_sort (by exact units70 hr.r)) (by rfl) T.sorted (by decide +kernel) (pa_cons (pe_lc (own := [("_law_cell", 4)]) (g := gName 4) rfl sc.nd (show PI _ _ _ (iSeq K _) from pi_seq (Fw.pe_call H__law_near.G (hr.mono (by decide)) (by rfl) H__law_near.g H__law_near.k H__law_near.b .nil pass0 (pa_cons (pe_ix (show IxR _ (uIx K) from o_ix) (pv 0) (pv 2) (fun _ _ => rfl)) pa_nil))) (blkOk_by (N := ["_law_value", "_law_places", "_law_k", "_law_near_here", "_law_cell", "_law_n"]) (sc := defScope (top 26)) (by decide +kernel)) (fun _ _ _ _ _ => (pg_name (i := 4) sc.nd rfl (.inl rfl))) (fun _ _ _ _ _ => (pts_one (pt_cmpR (show OpR _ (compareOp .In) (uInU K) from o_inU (hu65 hr.r)) (pv 4) (pv 1) (by rfl)))) (fun _ _ _ _ _ => (pe_dget hu (pv 1) (pv 4) (fun _ _ => rfl)))) pa_nil)))
      (pss_one (ps_if (pt_cmpR (show OpR _ (compareOp .NotEq) (rNeD K) from o_ne hr.r.units) (pv 3) (pe_lc (own := [("_law_n", 5)]) (g := gName 5) rfl sc.nd (show PI _ _ _ (iSeq K _) from pi_seq (pe_lst (pa_cons (pe_op o_sub (pv 2) pe_int) (pa_cons (pe_op (show OpR _ (binaryOp .Add) (uAdd K) from o_add) (pv 2) pe_int) pa_nil)))) (blkOk_by (N := ["_law_value", "_law_places", "_law_k", "_law_near_here", "_law_cell", "_law_n"]) (sc := defScope (top 26)) (by decide +kernel)) (fun _ _ _ _ _ => (pg_name (i := 5) sc.nd rfl (.inl rfl))) (fun _ _ _ _ _ => (pts_one (pt_chain o_le o_lt pe_int (pv 5) (pe_callB (show CallR _ _ (uLenU K) from c_lenU) (by rfl) T.len (by decide +kernel) (pa_cons (pv 0) pa_nil))))) (fun _ _ _ _ _ => (pv 5))) (nomark _)) (pss_one (ps_ret pe_bl)) pss_nil))))
      (pss_one (ps_ret pe_bl)))))), fun pn => ?_⟩
  exact (cs_seq (cs_if (ct_or (ct_not (ct_B (ce_isi .tuple (CE.b (ce_var 0))))) (ct_or (ct_test (ce_op ob_eq (CE.b (ce_var 0)) (CE.b (ce_tup ca_nil)))) (ct_test (ce_op ob_ne (CF.b (cf_lc (ci_seq (ce_var 0)) (tw_name 4 (by decide)) (fw_name 4 (by decide)) (ct_not (ct_B (ce_callN (ca_cons (ce_var 4) ca_nil)))) ce_int)) (CF.b (cf_lst ca_nil)))))) (cs_ret ce_bl) cs_next)
    (cs_seq (cs_asgO cf_dnewK)
    (cs_seq (cs_for (ci_rg1 (ca_cons (ce_cb1 b_lenU (CE.b (ce_var 0))) ca_nil)) (tg_name 2) (cs_seq (cs_if (ct_test (ce_op ob_inU (CE.b (ce_op ob_ix (CE.b (ce_var 0)) (CE.b (ce_var 2)))) (cb_var 1))) (cs_ret ce_bl) cs_next)
    (cs_asgV (ce_var 2) (v_subU (E := E0) (ce_op ob_ix (CE.b (ce_var 0)) (CE.b (ce_var 2)))))))
    (cs_seq (cs_for (ci_rg1 (ca_cons (ce_cb1 b_lenU (CE.b (ce_var 0))) ca_nil)) (tg_name 2) (cs_seq (cs_asg (CF.ce (cf_cb1 f_sort (CF.b (cf_lc (ci_seq (ce_callN (ca_cons (ce_op ob_ix (CE.b (ce_var 0)) (CE.b (ce_var 2))) ca_nil))) (tw_name 4 (by decide)) (fw_name 4 (by decide)) (ct_test (ce_op ob_inU (CE.b (ce_var 4)) (cb_var 1))) (ce_dgetU (cb_var 1) (CE.b (ce_var 4))))))) (tg_name 3))
    (cs_if (ct_test (ce_op ob_ne (CE.b (ce_var 3)) (CF.b (cf_lc (ci_seq (CF.ce (cf_lst (ca_cons (ce_op ob_sub (CE.b (ce_var 2)) (CE.b ce_int)) (ca_cons (ce_op ob_add (CE.b (ce_var 2)) (CE.b ce_int)) ca_nil))))) (tw_name 5 (by decide)) (fw_name 5 (by decide)) (ct_test (ce_chain ob_le ob_lt ce_int (ce_var 5) (ce_cb1 b_lenU (CE.b (ce_var 0))))) (ce_var 5))))) (cs_ret ce_bl) cs_next)))
    (cs_ret ce_bl)))))
def F__law_most : FS := (seqS (ifS (orG (testG (op2 dLt (slotD 0) (retG (.int 2)))) (testG (op2 dLt (slotD 1) (retG (.int 3))))) (retS (retG (.int 0))) nextS)
  (retS (op2 dMulU (op2 dSub (op2 dMulU (retG (.int 2)) (slotD 1)) (retG (.int 4))) (op2 dDiv (op2 dSub (slotD 0) (retG (.int 2))) (op2 dMulU (retG (.int 2)) (slotD 1))))))
theorem sc__law_most : FnScope ["_law_width", "_law_height"] ["_law_width", "_law_height"] (defScope (top 27)) := ⟨rfl, rfl, rfl, by decide +kernel, rfl, by decide +kernel, by decide +kernel⟩
theorem ok__law_most {f : Addr} {fd : FuncData} (F : Fun K "_law_most" "_law_most" (top 27) f fd) (T : Bv mg) :
    FnG P w K mg base CX0 1 f fd ["_law_width", "_law_height"] (spN ⟨K, XC⟩ false 2 (defF false 2 F__law_most)) := by
  have sc := sc__law_most
  refine fn_n (G := ⟨K, XC⟩) F sc__law_most (by rfl) (fun cdv A outer s H E hr => ?_)
  refine ⟨_, (pss_cons (ps_if (PW.pt (pw_or (pt_cmpR o_lt (pv 0) pe_int (nomark _)) (pw_or1 (pt_cmpR o_lt (pv 1) pe_int (nomark _))))) (pss_one (ps_ret pe_int)) pss_nil)
      (pss_one (ps_ret (pe_op (show OpR _ (binaryOp .Mult) (uMulU K) from o_mulU) (pe_op o_sub (pe_op (show OpR _ (binaryOp .Mult) (uMulU K) from o_mulU) pe_int (pv 1)) pe_int) (pe_op o_div (pe_op o_sub (pv 0) pe_int) (pe_op (show OpR _ (binaryOp .Mult) (uMulU K) from o_mulU) pe_int (pv 1))))))), fun pn => ?_⟩
  exact (cs_seq (cs_if (ct_or (ct_test (ce_op ob_lt (CE.b (ce_var 0)) (CE.b ce_int))) (ct_test (ce_op ob_lt (CE.b (ce_var 1)) (CE.b ce_int)))) (cs_ret ce_int) cs_next)
    (cs_ret (ce_op ob_mulU (CE.b (ce_op ob_sub (CE.b (ce_op ob_mulU (CE.b ce_int) (CE.b (ce_var 1)))) (CE.b ce_int))) (CE.b (ce_op ob_div (CE.b (ce_op ob_sub (CE.b (ce_var 0)) (CE.b ce_int))) (CE.b (ce_op ob_mulU (CE.b ce_int) (CE.b (ce_var 1)))))))))
def F__law_padded_right : FS := (seqS (asgS (callX 3 (defF false 3 F_padded) (consG (slotD 0) (consG (slotD 1) (consG (slotD 2) (retG []))))) (nameT 3))
  (seqS (ifS (orG (notG (testG (callN 1 (defF false 6 F__law_is_path) (consG (slotD 3) (retG []))))) (orG (testG (op2 dNe (op1 dLenU (slotD 3)) (op2 dAdd (op2 dAdd (slotD 0) (slotD 2)) (retG (.int 1))))) (testG (op2 (dIsB true) (callN 1 (defF false 1 F_is_path) (consG (slotD 3) (retG []))) (retG (.bool true)))))) (retS (retG (.bool false))) nextS)
  (seqS (ifS (orG (testG (op2 dNe (slG (slotD 3) (retG none) (partG (retG (.int 2)))) (tupG (consG (tupG (consG (retG (.int 0)) (consG (retG (.int 0)) (retG [])))) (consG (tupG (consG (retG (.int 1)) (consG (retG (.int 0)) (retG [])))) (retG [])))))) (testG (op2 dNe (slG (slotD 3) (partG (op1 dNeg (retG (.int 2)))) (retG none)) (tupG (consG (tupG (consG (op2 dSub (slotD 0) (retG (.int 1))) (consG (retG (.int 0)) (retG [])))) (consG (tupG (consG (slotD 0) (consG (retG (.int 0)) (retG [])))) (retG []))))))) (retS (retG (.bool false))) nextS)
  (retS (op2 dEq (lcG [4, 5] (seqI (slotD 3)) (tupT 2 (consT (nameT 4) (consT (nameT 5) nilT))) (orG (notG (testG (chainG dLe dLe (retG (.int 0)) (slotD 4) (slotD 0)))) (notG (testG (chainG dLe dLe (op1 dNeg (slotD 1)) (slotD 5) (retG (.int 0)))))) (retG (.int 1))) (lstG (retG [])))))))
theorem sc__law_padded_right : FnScope ["_law_width", "_law_height", "_law_extra", "_law_told", "_law_x", "_law_y"] ["_law_width", "_law_height", "_law_extra"] (defScope (top 28)) := ⟨rfl, rfl, rfl, by decide +kernel, rfl, by decide +kernel, by decide +kernel⟩
theorem ok__law_padded_right {f a_padded a__law_is_path a_is_path : Addr} {fd e_padded e__law_is_path e_is_path : FuncData} (F : Fun K "_law_padded_right" "_law_padded_right" (top 28) f fd) (T : Bv mg) (H_padded : Fw.Fn K mg P w base (L2.CX P w) "padded" 3 a_padded e_padded ["width", "height", "extra"] (spX ⟨K, XC⟩ false 3 (defF false 3 F_padded))) (H__law_is_path : Fw.Fn K mg P w base CX0 "_law_is_path" 3 a__law_is_path e__law_is_path ["_law_value"] (spN ⟨K, XC⟩ false 1 (defF false 6 F__law_is_path))) (H_is_path : Fw.Fn K mg P w base CX0 "is_path" 4 a_is_path e_is_path ["cells"] (spN ⟨K, XC⟩ false 1 (defF false 1 F_is_path))) :
    FnG P w K mg base CX0 5 f fd ["_law_width", "_law_height", "_law_extra"] (spN ⟨K, XC⟩ false 3 (defF false 6 F__law_padded_right)) := by
  have sc := sc__law_padded_right
  refine fn_n (G := ⟨K, XC⟩) F sc__law_padded_right (by rfl) (fun cdv A outer s H E hr => ?_)
  refine ⟨_, (pss_cons (ps_set (i := 3) sc.nd rfl (.inl rfl) (Fw.pe_call H_padded.G (hr.mono (by decide)) (by rfl) H_padded.g H_padded.k H_padded.b .nil pass_false (pa_cons (pv 0) (pa_cons (pv 1) (pa_cons (pv 2) pa_nil)))))
      (pss_cons (ps_if (PW.pt (pw_or (pt_not (pt_val (Fw.pe_call H__law_is_path.G (hr.mono (by decide)) (by rfl) H__law_is_path.g H__law_is_path.k H__law_is_path.b .nil pass0 (pa_cons (pv 3) pa_nil)))) (pw_or (pt_cmpR (show OpR _ (compareOp .NotEq) (rNeD K) from o_ne hr.r.units) (pe_callB (show CallR _ _ (uLenU K) from c_lenU) (by rfl) T.len (by decide +kernel) (pa_cons (pv 3) pa_nil)) (pe_op (show OpR _ (binaryOp .Add) (uAdd K) from o_add) (pe_op (show OpR _ (binaryOp .Add) (uAdd K) from o_add) (pv 0) (pv 2)) pe_int) (nomark _)) (pw_or1 (pt_cmpR op_isnB (Fw.pe_call H_is_path.G (hr.mono (by decide)) (by rfl) H_is_path.g H_is_path.k H_is_path.b .nil pass0 (pa_cons (pv 3) pa_nil)) pe_bl (nomark _)))))) (pss_one (ps_ret pe_bl)) pss_nil)
      (pss_cons (ps_if (PW.pt (pw_or (pt_cmpR (show OpR _ (compareOp .NotEq) (rNeD K) from o_ne hr.r.units) (pe_slice (show SlR _ (uSl K) from o_sl) (pv 3) po_none (po_some pe_int)) (pe_tup (pa_cons (pe_tup (pa_cons pe_int (pa_cons pe_int pa_nil))) (pa_cons (pe_tup (pa_cons pe_int (pa_cons pe_int pa_nil))) pa_nil))) (nomark _)) (pw_or1 (pt_cmpR (show OpR _ (compareOp .NotEq) (rNeD K) from o_ne hr.r.units) (pe_slice (show SlR _ (uSl K) from o_sl) (pv 3) (po_some (pe_un o_neg pe_int)) po_none) (pe_tup (pa_cons (pe_tup (pa_cons (pe_op o_sub (pv 0) pe_int) (pa_cons pe_int pa_nil))) (pa_cons (pe_tup (pa_cons (pv 0) (pa_cons pe_int pa_nil))) pa_nil))) (nomark _))))) (pss_one (ps_ret pe_bl)) pss_nil)
      (pss_one (ps_ret (pe_cmpR (show OpR _ (compareOp .Eq) (rEqD K) from o_eq hr.r.units) (pe_lc (own := [("_law_x", 4), ("_law_y", 5)]) rfl sc.nd (show PI _ _ _ (iSeq K _) from pi_seq (pv 3)) (blkOk_by (N := ["_law_width", "_law_height", "_law_extra", "_law_told", "_law_x", "_law_y"]) (sc := defScope (top 28)) (by decide +kernel)) (fun _ _ _ _ _ => (show PG _ _ (gTup K 2 _) from pg_tup (by rfl) (pgs_cons (pg_name (i := 4) sc.nd rfl (.inl rfl)) (pgs_cons (pg_name (i := 5) sc.nd rfl (.inl rfl)) pgs_nil)))) (fun _ _ _ _ _ => (pts_one (PW.pt (pw_or (pt_not (pt_chain o_le o_le pe_int (pv 4) (pv 0))) (pw_or1 (pt_not (pt_chain o_le o_le (pe_un o_neg (pv 1)) (pv 5) pe_int))))))) (fun _ _ _ _ _ => pe_int)) (pe_lst pa_nil) (nomark _))))))), fun pn => ?_⟩
  exact (cs_seq (cs_asg (ce_callX (ca_cons (ce_var 0) (ca_cons (ce_var 1) (ca_cons (ce_var 2) ca_nil)))) (tg_name 3))
    (cs_seq (cs_if (ct_or (ct_not (ct_B (ce_callN (ca_cons (ce_var 3) ca_nil)))) (ct_or (ct_test (ce_op ob_ne (CE.b (ce_cb1 b_lenU (CE.b (ce_var 3)))) (CE.b (ce_op ob_add (CE.b (ce_op ob_add (CE.b (ce_var 0)) (CE.b (ce_var 2)))) (CE.b ce_int))))) (ct_test (ce_op ob_isB (CE.b (ce_callN (ca_cons (ce_var 3) ca_nil))) (CE.b ce_bl))))) (cs_ret ce_bl) cs_next)
    (cs_seq (cs_if (ct_or (ct_test (ce_op ob_ne (CE.b (ce_sl (CE.b (ce_var 3)) co_none (co_some ce_int))) (CE.b (ce_tup (ca_cons (ce_tup (ca_cons ce_int (ca_cons ce_int ca_nil))) (ca_cons (ce_tup (ca_cons ce_int (ca_cons ce_int ca_nil))) ca_nil)))))) (ct_test (ce_op ob_ne (CE.b (ce_sl (CE.b (ce_var 3)) (co_some (ce_un ub_neg (CE.b ce_int))) co_none)) (CE.b (ce_tup (ca_cons (ce_tup (ca_cons (ce_op ob_sub (CE.b (ce_var 0)) (CE.b ce_int)) (ca_cons ce_int ca_nil))) (ca_cons (ce_tup (ca_cons (ce_var 0) (ca_cons ce_int ca_nil))) ca_nil))))))) (cs_ret ce_bl) cs_next)
    (cs_ret (ce_op ob_eq (CF.b (cf_lc (ci_seq (ce_var 3)) (tw_tup (tw_cons (tw_name 4 (by decide)) (tw_cons (tw_name 5 (by decide)) tw_nil))) (fw_tup (fw_cons (fw_name 4 (by decide)) (fw_cons (fw_name 5 (by decide)) fw_nil))) (ct_or (ct_not (ct_test (ce_chain ob_le ob_le ce_int (ce_var 4) (ce_var 0)))) (ct_not (ct_test (ce_chain ob_le ob_le (ce_un ub_neg (CE.b (ce_var 1))) (ce_var 5) ce_int)))) ce_int)) (CF.b (cf_lst ca_nil)))))))
def F__law_bent : FS := (seqS (parOD 2 3 (op1 dListK (slotD 1)) (callP 1 0 drawF (consG (retG (.int 7)) (retG []))))
  (seqS (asgS (callP 1 0 drawF (consG (op1 dLenU (slotB 2)) (retG []))) (nameT 4))
  (seqS (asgV (op2 dIx (slotB 2) (slotD 4)) (tupV 2 (consV (nameV 5) (consV (nameV 6) nilV))))
  (seqS (ifS (testG (op2 dEq (slotD 3) (retG (.int 0)))) (asgV (tupG (consG (op2 dAdd (slotD 5) (callP 1 0 (defF true 2 F__law_pick) (consG (lstG (consG (op1 dNeg (retG (.int 1))) (consG (retG (.int 0)) (consG (retG (.int 1)) (retG []))))) (retG [])))) (consG (op2 dAdd (slotD 6) (callP 1 0 (defF true 2 F__law_pick) (consG (lstG (consG (op1 dNeg (retG (.int 1))) (consG (retG (.int 1)) (retG [])))) (retG [])))) (retG [])))) (subU 2 (slotD 4))) nextS)
  (seqS (ifS (testG (op2 dEq (slotD 3) (retG (.int 1)))) (popAtS 2 (slotD 4)) nextS)
  (seqS (ifS (testG (op2 dEq (slotD 3) (retG (.int 2)))) (insS 2 (slotD 4) (op2 dIx (slotB 2) (slotD 4))) nextS)
  (seqS (ifS (andG (testG (op2 dEq (slotD 3) (retG (.int 3)))) (testG (op2 dLt (op2 dAdd (slotD 4) (retG (.int 1))) (op1 dLenU (slotB 2))))) (asgV (tupG (consG (op2 dIx (slotB 2) (op2 dAdd (slotD 4) (retG (.int 1)))) (consG (op2 dIx (slotB 2) (slotD 4)) (retG [])))) (tupV 2 (consV (subU 2 (slotD 4)) (consV (subU 2 (op2 dAdd (slotD 4) (retG (.int 1)))) nilV)))) nextS)
  (seqS (ifS (testG (op2 dEq (slotD 3) (retG (.int 4)))) (asgV (callP 1 0 (defF true 2 F__law_pick) (consG (lstG (consG (tupG (consG (slotD 5) (retG []))) (consG (retG .none) (consG (tupG (consG (slotD 5) (consG (retG (.bool true)) (retG [])))) (consG (lstG (consG (slotD 5) (consG (slotD 6) (retG [])))) (consG (tupG (consG (slotD 5) (consG (slotD 6) (consG (retG (.int 0)) (retG []))))) (consG (tupG (consG (slotD 5) (consG (retG (.str "0")) (retG [])))) (retG [])))))))) (retG []))) (subU 2 (slotD 4))) nextS)
  (seqS (ifS (testG (op2 dEq (slotD 3) (retG (.int 5)))) (asgO (op1 dRevL (slotB 2)) 2) nextS)
  (relS 2 (retS (callP 1 0 (defF true 2 F__law_pick) (consG (lstG (consG (op1 dTup (slotB 2)) (consG (op1 dTup (slotB 2)) (consG (op1 dTup (slotB 2)) (consG (slotD 2) (retG [])))))) (retG []))))))))))))))
theorem sc__law_bent : FnScope ["_law_pen_here", "_law_path", "_law_cells", "_law_way", "_law_k", "_law_x", "_law_y"] ["_law_pen_here", "_law_path"] (defScope (top 29)) := ⟨rfl, rfl, rfl, by decide +kernel, rfl, by decide +kernel, by decide +kernel⟩
theorem ok__law_bent {f a__law_draw a__law_pick : Addr} {fd e__law_draw e__law_pick : FuncData} (F : Fun K "_law_bent" "_law_bent" (top 29) f fd) (T : Bv mg) (H__law_draw : Fw.Fn K mg P w base CX0 "_law_draw" 1 a__law_draw e__law_draw ["_law_pen_here", "_law_many"] (spN ⟨K, XC⟩ true 1 drawF)) (H__law_pick : Fw.Fn K mg P w base CX0 "_law_pick" 2 a__law_pick e__law_pick ["_law_pen_here", "_law_some"] (spN ⟨K, XC⟩ true 1 (defF true 2 F__law_pick))) :
    FnG P w K mg base CX0 3 f fd ["_law_pen_here", "_law_path"] (spN ⟨K, XC⟩ true 1 (defF true 7 F__law_bent)) := by
  have sc := sc__law_bent
  refine fn_n (G := ⟨K, XC⟩) F sc__law_bent (by rfl) (fun cdv A outer s H E hr => ?_)
  refine ⟨_, (pss_cons (ps_par (i := 2) (j := 3) (by rfl) sc.nd rfl rfl (by decide) rfl rfl (pa_cons (pe_callTy (show CallR _ _ (uListK K) from c_listK rfl) (by rfl) T.list (by decide +kernel) (pa_cons (pv 1) pa_nil)) (pa_cons (Fw.pe_call H__law_draw.G (hr.mono (by decide)) (by rfl) H__law_draw.g H__law_draw.k H__law_draw.b .nil pass0 (pa_cons (pv 0) (pa_cons pe_int pa_nil))) pa_nil)) (by rfl))
      (pss_cons (ps_set (i := 4) sc.nd rfl (.inl rfl) (Fw.pe_call H__law_draw.G (hr.mono (by decide)) (by rfl) H__law_draw.g H__law_draw.k H__law_draw.b .nil pass0 (pa_cons (pv 0) (pa_cons (pe_callB (show CallR _ _ (uLenU K) from c_lenU) (by rfl) T.len (by decide +kernel) (pa_cons (pv 2) pa_nil)) pa_nil))))
      (pss_cons (ps_asg (pe_ix (show IxR _ (uIx K) from o_ix) (pv 2) (pv 4) (fun _ _ => rfl)) (pg_tup (by rfl) (pgs_cons (pg_name (i := 5) sc.nd rfl (.inl rfl)) (pgs_cons (pg_name (i := 6) sc.nd rfl (.inl rfl)) pgs_nil))))
      (pss_cons (ps_if (pt_cmpR (show OpR _ (compareOp .Eq) (rEqD K) from o_eq hr.r.units) (pv 3) pe_int (nomark _)) (pss_one (ps_asg (pe_tup (pa_cons (pe_op (show OpR _ (binaryOp .Add) (uAdd K) from o_add) (pv 5) (Fw.pe_call H__law_pick.G (hr.mono (by decide)) (by rfl) H__law_pick.g H__law_pick.k H__law_pick.b .nil pass0 (pa_cons (pv 0) (pa_cons (pe_lst (pa_cons (pe_un o_neg pe_int) (pa_cons pe_int (pa_cons pe_int pa_nil)))) pa_nil)))) (pa_cons (pe_op (show OpR _ (binaryOp .Add) (uAdd K) from o_add) (pv 6) (Fw.pe_call H__law_pick.G (hr.mono (by decide)) (by rfl) H__law_pick.g H__law_pick.k H__law_pick.b .nil pass0 (pa_cons (pv 0) (pa_cons (pe_lst (pa_cons (pe_un o_neg pe_int) (pa_cons pe_int pa_nil))) pa_nil)))) pa_nil))) (pg_sub (pv 2) (pv 4) (set_U (hu65 hr.r))))) pss_nil)
      (pss_cons (ps_if (pt_cmpR (show OpR _ (compareOp .Eq) (rEqD K) from o_eq hr.r.units) (pv 3) pe_int (nomark _)) (pss_one (ps_expr (pe_bm PySem.F.plainAttrs_list PySem.F.slot_list_pop PySem.F.type_list_pop mt_popAt (pv 2) (pa_cons (pv 4) pa_nil)))) pss_nil)
      (pss_cons (ps_if (pt_cmpR (show OpR _ (compareOp .Eq) (rEqD K) from o_eq hr.r.units) (pv 3) pe_int (nomark _)) (pss_one (ps_expr (pe_bm PySem.F.plainAttrs_list PySem.F.slot_list_insert PySem.F.type_list_insert mt_insert (pv 2) (pa_cons (pv 4) (pa_cons (pe_ix (show IxR _ (uIx K) from o_ix) (pv 2) (pv 4) (fun _ _ => rfl)) pa_nil))))) pss_nil)
      (pss_cons (ps_if (PW.pt (pw_and (pt_cmpR (show OpR _ (compareOp .Eq) (rEqD K) from o_eq hr.r.units) (pv 3) pe_int (nomark _)) (pw_and1 (pt_cmpR o_lt (pe_op (show OpR _ (binaryOp .Add) (uAdd K) from o_add) (pv 4) pe_int) (pe_callB (show CallR _ _ (uLenU K) from c_lenU) (by rfl) T.len (by decide +kernel) (pa_cons (pv 2) pa_nil)) (nomark _))))) (pss_one (ps_asg (pe_tup (pa_cons (pe_ix (show IxR _ (uIx K) from o_ix) (pv 2) (pe_op (show OpR _ (binaryOp .Add) (uAdd K) from o_add) (pv 4) pe_int) (fun _ _ => rfl)) (pa_cons (pe_ix (show IxR _ (uIx K) from o_ix) (pv 2) (pv 4) (fun _ _ => rfl)) pa_nil))) (pg_tup (by rfl) (pgs_cons (pg_sub (pv 2) (pv 4) (set_U (hu65 hr.r))) (pgs_cons (pg_sub (pv 2) (pe_op (show OpR _ (binaryOp .Add) (uAdd K) from o_add) (pv 4) pe_int) (set_U (hu65 hr.r))) pgs_nil))))) pss_nil)
      (pss_cons (ps_if (pt_cmpR (show OpR _ (compareOp .Eq) (rEqD K) from o_eq hr.r.units) (pv 3) pe_int (nomark _)) (pss_one (ps_asg (Fw.pe_call H__law_pick.G (hr.mono (by decide)) (by rfl) H__law_pick.g H__law_pick.k H__law_pick.b .nil pass0 (pa_cons (pv 0) (pa_cons (pe_lst (pa_cons (pe_tup (pa_cons (pv 5) pa_nil)) (pa_cons pe_non (pa_cons (pe_tup (pa_cons (pv 5) (pa_cons pe_bl pa_nil))) (pa_cons (pe_lst (pa_cons (pv 5) (pa_cons (pv 6) pa_nil))) (pa_cons (pe_tup (pa_cons (pv 5) (pa_cons (pv 6) (pa_cons pe_int pa_nil)))) (pa_cons (pe_tup (pa_cons (pv 5) (pa_cons pe_str pa_nil))) pa_nil))))))) pa_nil))) (pg_sub (pv 2) (pv 4) (set_U (hu65 hr.r))))) pss_nil)
      (pss_cons (ps_if (pt_cmpR (show OpR _ (compareOp .Eq) (rEqD K) from o_eq hr.r.units) (pv 3) pe_int (nomark _)) (pss_one (ps_set (i := 2) sc.nd rfl (.inl rfl) (pe_revL (pv 2)))) pss_nil)
      (pss_one (ps_ret (Fw.pe_call H__law_pick.G (hr.mono (by decide)) (by rfl) H__law_pick.g H__law_pick.k H__law_pick.b .nil pass0 (pa_cons (pv 0) (pa_cons (pe_lst (pa_cons (pe_callTy (show CallR _ _ (uTup K) from c_tuple) (by rfl) T.tuple (by decide +kernel) (pa_cons (pv 2) pa_nil)) (pa_cons (pe_callTy (show CallR _ _ (uTup K) from c_tuple) (by rfl) T.tuple (by decide +kernel) (pa_cons (pv 2) pa_nil)) (pa_cons (pe_callTy (show CallR _ _ (uTup K) from c_tuple) (by rfl) T.tuple (by decide +kernel) (pa_cons (pv 2) pa_nil)) (pa_cons (pv 2) pa_nil))))) pa_nil)))))))))))))), fun pn => ?_⟩
  exact (cs_seq (cs_parOD (cf_cb1 f_listK (CE.b (ce_var 1))) (ce_callP (ca_cons ce_int ca_nil)))
    (cs_seq (cs_asg (ce_callP (ca_cons (ce_cb1 b_lenU (cb_var 2)) ca_nil)) (tg_name 4))
    (cs_seq (cs_asgV (ce_op ob_ix (cb_var 2) (CE.b (ce_var 4))) (v_tup (v_cons (v_name 5) (v_cons (v_name 6) v_nil))))
    (cs_seq (cs_if (ct_test (ce_op ob_eq (CE.b (ce_var 3)) (CE.b ce_int))) (cs_asgV (ce_tup (ca_cons (ce_op ob_add (CE.b (ce_var 5)) (CE.b (ce_callP (ca_cons (CF.ce (cf_lst (ca_cons (ce_un ub_neg (CE.b ce_int)) (ca_cons ce_int (ca_cons ce_int ca_nil))))) ca_nil)))) (ca_cons (ce_op ob_add (CE.b (ce_var 6)) (CE.b (ce_callP (ca_cons (CF.ce (cf_lst (ca_cons (ce_un ub_neg (CE.b ce_int)) (ca_cons ce_int ca_nil)))) ca_nil)))) ca_nil))) (v_subU (E := E0) (ce_var 4))) cs_next)
    (cs_seq (cs_if (ct_test (ce_op ob_eq (CE.b (ce_var 3)) (CE.b ce_int))) (cs_popAt (ce_var 4)) cs_next)
    (cs_seq (cs_if (ct_test (ce_op ob_eq (CE.b (ce_var 3)) (CE.b ce_int))) (cs_ins (ce_var 4) (ce_op ob_ix (cb_var 2) (CE.b (ce_var 4)))) cs_next)
    (cs_seq (cs_if (ct_and (ct_test (ce_op ob_eq (CE.b (ce_var 3)) (CE.b ce_int))) (ct_test (ce_op ob_lt (CE.b (ce_op ob_add (CE.b (ce_var 4)) (CE.b ce_int))) (CE.b (ce_cb1 b_lenU (cb_var 2)))))) (cs_asgV (ce_tup (ca_cons (ce_op ob_ix (cb_var 2) (CE.b (ce_op ob_add (CE.b (ce_var 4)) (CE.b ce_int)))) (ca_cons (ce_op ob_ix (cb_var 2) (CE.b (ce_var 4))) ca_nil))) (v_tup (v_cons (v_subU (E := E0) (ce_var 4)) (v_cons (v_subU (E := E0) (ce_op ob_add (CE.b (ce_var 4)) (CE.b ce_int))) v_nil)))) cs_next)
    (cs_seq (cs_if (ct_test (ce_op ob_eq (CE.b (ce_var 3)) (CE.b ce_int))) (cs_asgV (ce_callP (ca_cons (CF.ce (cf_lst (ca_cons (ce_tup (ca_cons (ce_var 5) ca_nil)) (ca_cons ce_non (ca_cons (ce_tup (ca_cons (ce_var 5) (ca_cons ce_bl ca_nil))) (ca_cons (CF.ce (cf_lst (ca_cons (ce_var 5) (ca_cons (ce_var 6) ca_nil)))) (ca_cons (ce_tup (ca_cons (ce_var 5) (ca_cons (ce_var 6) (ca_cons ce_int ca_nil)))) (ca_cons (ce_tup (ca_cons (ce_var 5) (ca_cons ce_str ca_nil))) ca_nil)))))))) ca_nil)) (v_subU (E := E0) (ce_var 4))) cs_next)
    (cs_seq (cs_if (ct_test (ce_op ob_eq (CE.b (ce_var 3)) (CE.b ce_int))) (cs_asgO (cf_revL (cb_var 2))) cs_next)
    (cs_rel 2 (cs_ret (ce_callP (ca_cons (CF.ce (cf_lst (ca_cons (ce_cb1 b_tuple (cb_var 2)) (ca_cons (ce_cb1 b_tuple (cb_var 2)) (ca_cons (ce_cb1 b_tuple (cb_var 2)) (ca_cons (ce_var 2) ca_nil)))))) ca_nil)))))))))))))
end
end Sb

set_option linter.all false
set_option maxRecDepth 100000
set_option maxHeartbeats 4000000
namespace Sb
open PySem PySem.Spec PyProof.Rows L2 Fw
section
variable {P : Program} {w : World} {K : PySem.W.Frag} {mg : Str → Option Value} {base : Heap} {XC : Str → Option Addr}
def W10 : FS := (retS (retG (.bool true)))
def W9_3 : FS := (ifS (orG (notG (testG (isiG .bool (slotD 7)))) (testG (op2 dNe (slotD 7) (callN 1 (defF false 6 F__law_is_path) (consG (slotD 5) (retG [])))))) (retS (retG (.bool false))) nextS)
def W9_2 : FS := (asgS (callN 1 (defF false 1 F_is_path) (consG (slotD 5) (retG []))) (nameT 7))
def W9_1 : FS := (asgS (callP 1 1 (defF true 7 F__law_bent) (consG (slotD 4) (retG []))) (nameT 5))
def W9_B : FS := (seqS W9_1
  (seqS W9_2
  W9_3))
def W9 : FS := (forS (rgI rg1D (consG (retG (.int 12)) (retG []))) (nameT 6) W9_B)
def W8_1 : FS := (ifS (testG (op2 dNe (callN 1 (defF false 1 F_is_path) (consG (slotD 5) (retG []))) (callN 1 (defF false 6 F__law_is_path) (consG (slotD 5) (retG []))))) (retS (retG (.bool false))) nextS)
def W8_B : FS := W8_1
def W8 : FS := (forS (seqI (lstG (consG (retG .none) (consG (retG (.int 5)) (consG (tupG (retG [])) (consG (retG (.str "ab")) (consG (tupG (consG (tupG (consG (retG (.int 0)) (consG (retG (.int 0)) (retG [])))) (retG []))) (consG (tupG (consG (tupG (consG (retG (.int 0)) (consG (retG (.int 0)) (retG [])))) (consG (tupG (consG (retG (.int 1)) (consG (retG (.int 0)) (retG [])))) (consG (tupG (consG (retG (.int 1)) (consG (retG (.int 1)) (retG [])))) (retG []))))) (consG (tupG (consG (tupG (consG (retG (.int 0)) (consG (retG (.int 0)) (retG [])))) (consG (tupG (consG (retG (.int 0)) (consG (retG (.int 0)) (retG [])))) (retG [])))) (retG [])))))))))) (nameT 5) W8_B)
def W7 : FS := (asgS (callX 3 (defF false 3 F_padded) (consG (slotD 10) (consG (slotD 8) (consG (callP 1 1 drawF (consG (op2 dAdd (slotD 2) (retG (.int 1))) (retG []))) (retG []))))) (nameT 4))
def W6_1 : FS := (ifS (testG (op2 dNe (whyG 3 F__law_fault (callX 3 (defF false 3 F_padded) (consG (slotD 10) (consG (slotD 8) (consG (slotD 9) (retG [])))))) (tupG (consG (retG (.str "number")) (consG (retG (.str "extra")) (consG (op1 dRepr2 (slotD 9)) (retG []))))))) (retS (retG (.bool false))) nextS)
def W6_B : FS := W6_1
def W6 : FS := (forS (seqI (lstG (consG (op2 dAdd (slotD 2) (retG (.int 1))) (consG (op1 dNeg (retG (.int 1))) (consG (retG .none) (consG (retG (.bool true)) (consG (retG (.str "1")) (consG (op2 dAdd (slotD 2) (op2 dPow (retG (.int 10)) (retG (.int 9)))) (retG []))))))))) (nameT 9) W6_B)
def W5_1 : FS := (ifS (notG (testG (callN 3 (defF false 6 F__law_padded_right) (consG (slotD 10) (consG (slotD 8) (consG (slotD 3) (retG []))))))) (retS (retG (.bool false))) nextS)
def W5_B : FS := W5_1
def W5 : FS := (forS (rgI rg1D (consG (op2 dAdd (slotD 2) (retG (.int 1))) (retG []))) (nameT 3) W5_B)
def W4 : FS := (ifS (orG (testG (op2 dNe (callN 2 (defF false 2 F_most_extra) (consG (slotD 10) (consG (slotD 8) (retG [])))) (slotD 2))) (testG (op2 dNe (callN 2 (defF false 2 F_most_extra) (consG (callP 1 1 drawF (consG (retG (.int 2)) (retG []))) (consG (slotD 8) (retG [])))) (retG (.int 0))))) (retS (retG (.bool false))) nextS)
def W3 : FS := (asgS (callN 2 (defF false 2 F__law_most) (consG (slotD 10) (consG (slotD 8) (retG [])))) (nameT 2))
def W2 : FS := (ifS (testG (op2 dEq (callP 1 1 drawF (consG (retG (.int 4)) (retG []))) (retG (.int 0)))) (asgS (callP 1 1 drawF (consG (retG (.int 4)) (retG []))) (nameT 8)) nextS)
def W1 : FS := (asgV (tupG (consG (op2 dAdd (retG (.int 3)) (callP 1 1 drawF (consG (retG (.int 10)) (retG [])))) (consG (op2 dAdd (retG (.int 2)) (callP 1 1 drawF (consG (retG (.int 89)) (retG [])))) (retG [])))) (tupV 2 (consV (nameV 8) (consV (nameV 10) nilV))))
def F_law : FS := (seqS W1
  (seqS W2
  (seqS W3
  (seqS W4
  (seqS W5
  (seqS W6
  (seqS W7
  (seqS W8
  (seqS W9
  W10)))))))))
theorem sc_law : FnScope ["_law_script", "_law_pen_here", "_law_most_here", "_law_extra", "_law_path", "_law_value", "_law_turn", "_law_answer", "_law_height", "_law_odd", "_law_width"] ["_law_script"] (defScope (top 30)) := ⟨rfl, rfl, rfl, by decide +kernel, rfl, by decide +kernel, by decide +kernel⟩
theorem ok_law {f cL PT a__law_pen a__law_draw a__law_most a_most_extra a__law_padded_right a_padded a_is_path a__law_is_path a__law_bent g__law_fault : Addr} {e__law_pen e__law_draw e__law_most e_most_extra e__law_padded_right e_padded e_is_path e__law_is_path e__law_bent : FuncData} {oc kV doc pm ct : Value} {od an : Option Addr} {osl : Array (Option Value)} (lk : K.lookup f = some ⟨oc, od, .func (PySem.W.fnOf "law" "law" (defArgs (top 30)) (defBody (top 30)) (defScope (top 30)) .none kV doc pm an (.ref cL) ct), osl⟩) (cd : PySem.W.codeIn K (.ref cL) "law" = true) (T : Bv mg) {nm : Str} (hn : nm = (("law" : Str) ++ (".<locals>." : Str)) ++ ("<lambda>" : Str)) (TB : LamX.TabB base mg cL PT) (H__law_pen : Fw.Fn K mg P w base CX0 "_law_pen" 1 a__law_pen e__law_pen ["_law_script"] (spPen K)) (H__law_draw : Fw.Fn K mg P w base CX0 "_law_draw" 1 a__law_draw e__law_draw ["_law_pen_here", "_law_many"] (spN ⟨K, XC⟩ true 1 drawF)) (H__law_most : Fw.Fn K mg P w base CX0 "_law_most" 1 a__law_most e__law_most ["_law_width", "_law_height"] (spN ⟨K, XC⟩ false 2 (defF false 2 F__law_most))) (H_most_extra : Fw.Fn K mg P w base CX0 "most_extra" 1 a_most_extra e_most_extra ["width", "height"] (spN ⟨K, XC⟩ false 2 (defF false 2 F_most_extra))) (H__law_padded_right : Fw.Fn K mg P w base CX0 "_law_padded_right" 5 a__law_padded_right e__law_padded_right ["_law_width", "_law_height", "_law_extra"] (spN ⟨K, XC⟩ false 3 (defF false 6 F__law_padded_right))) (H_padded : Fw.Fn K mg P w base (L2.CX P w) "padded" 3 a_padded e_padded ["width", "height", "extra"] (spX ⟨K, XC⟩ false 3 (defF false 3 F_padded))) (H_is_path : Fw.Fn K mg P w base CX0 "is_path" 4 a_is_path e_is_path ["cells"] (spN ⟨K, XC⟩ false 1 (defF false 1 F_is_path))) (H__law_is_path : Fw.Fn K mg P w base CX0 "_law_is_path" 3 a__law_is_path e__law_is_path ["_law_value"] (spN ⟨K, XC⟩ false 1 (defF false 6 F__law_is_path))) (H__law_bent : Fw.Fn K mg P w base CX0 "_law_bent" 3 a__law_bent e__law_bent ["_law_pen_here", "_law_path"] (spN ⟨K, XC⟩ true 1 (defF true 7 F__law_bent))) (W__law_fault : WhyAt K mg "_law_fault" "_law_call" (top 23) g__law_fault) (Y__law_fault : ∀ (X : Cx), X.K = K → X.mg = mg → X.A.guards = some [] → X.A.units + 80 < cLine → ∀ (q0 : Str) (cd0 : Value), LamX.GivesTo X ["_law_call", "_law_told", "error"] "_law_fault" (defScope (top 23)) g__law_fault cd0 (defBody (top 23)) "_law_call" q0 (TTw ⟨K, XC⟩ 3 F__law_fault))
    (hf : ∀ pp, GoodP 0 pp → ∃ e', F_law ⟨lawSl 11, pp⟩ = some (.rt (.bool true), e')) :
    LawG P w K mg base f (PySem.W.fnOf "law" "law" (defArgs (top 30)) (defBody (top 30)) (defScope (top 30)) .none kV doc pm an (.ref cL) ct) "_law_script" (spLaw K [(PT, nm)]) := by
  have sc := sc_law
  obtain ⟨oc__law_fault, od__law_fault, kV__law_fault, doc__law_fault, pm__law_fault, an__law_fault, cdv__law_fault, ct__law_fault, osl__law_fault, lk__law_fault, cg__law_fault, bi__law_fault⟩ := W__law_fault.ex
  refine lawG_of (k := 9) lk cd sc_law ⟨⟨rfl, by decide, by decide⟩, rfl⟩ (fun s H v Q hr h => ?_)
  refine ⟨_, (pss_cons (ps_set (i := 1) sc.nd rfl (.inl rfl) (Fw.pe_call H__law_pen.G (hr.mono (by decide)) (by rfl) H__law_pen.g H__law_pen.k H__law_pen.b .nil pass0 (pa_cons (pv 0) pa_nil)))
      (pss_cons (ps_asg (pe_tup (pa_cons (pe_op (show OpR _ (binaryOp .Add) (uAdd K) from o_add) pe_int (Fw.pe_call H__law_draw.G (hr.mono (by decide)) (by rfl) H__law_draw.g H__law_draw.k H__law_draw.b .nil pass0 (pa_cons (pv 1) (pa_cons pe_int pa_nil)))) (pa_cons (pe_op (show OpR _ (binaryOp .Add) (uAdd K) from o_add) pe_int (Fw.pe_call H__law_draw.G (hr.mono (by decide)) (by rfl) H__law_draw.g H__law_draw.k H__law_draw.b .nil pass0 (pa_cons (pv 1) (pa_cons pe_int pa_nil)))) pa_nil))) (pg_tup (by rfl) (pgs_cons (pg_name (i := 8) sc.nd rfl (.inr rfl)) (pgs_cons (pg_name (i := 10) sc.nd rfl (.inr rfl)) pgs_nil))))
      (pss_cons (ps_if (pt_cmpR (show OpR _ (compareOp .Eq) (rEqD K) from o_eq hr.r.units) (Fw.pe_call H__law_draw.G (hr.mono (by decide)) (by rfl) H__law_draw.g H__law_draw.k H__law_draw.b .nil pass0 (pa_cons (pv 1) (pa_cons pe_int pa_nil))) pe_int (nomark _)) (pss_one (ps_set (i := 8) sc.nd rfl (.inr rfl) (Fw.pe_call H__law_draw.G (hr.mono (by decide)) (by rfl) H__law_draw.g H__law_draw.k H__law_draw.b .nil pass0 (pa_cons (pv 1) (pa_cons pe_int pa_nil))))) pss_nil)
      (pss_cons (ps_set (i := 2) sc.nd rfl (.inl rfl) (Fw.pe_call H__law_most.G (hr.mono (by decide)) (by rfl) H__law_most.g H__law_most.k H__law_most.b .nil pass0 (pa_cons (pv 10) (pa_cons (pv 8) pa_nil))))
      (pss_cons (ps_if (PW.pt (pw_or (pt_cmpR (show OpR _ (compareOp .NotEq) (rNeD K) from o_ne hr.r.units) (Fw.pe_call H_most_extra.G (hr.mono (by decide)) (by rfl) H_most_extra.g H_most_extra.k H_most_extra.b .nil pass0 (pa_cons (pv 10) (pa_cons (pv 8) pa_nil))) (pv 2) (nomark _)) (pw_or1 (pt_cmpR (show OpR _ (compareOp .NotEq) (rNeD K) from o_ne hr.r.units) (Fw.pe_call H_most_extra.G (hr.mono (by decide)) (by rfl) H_most_extra.g H_most_extra.k H_most_extra.b .nil pass0 (pa_cons (Fw.pe_call H__law_draw.G (hr.mono (by decide)) (by rfl) H__law_draw.g H__law_draw.k H__law_draw.b .nil pass0 (pa_cons (pv 1) (pa_cons pe_int pa_nil))) (pa_cons (pv 8) pa_nil))) pe_int (nomark _))))) (pss_one (ps_ret pe_bl)) pss_nil)
      (pss_cons (ps_for PassesOwn.never rfl (pi_range1 (by rfl) T.range (pa_cons (pe_op (show OpR _ (binaryOp .Add) (uAdd K) from o_add) (pv 2) pe_int) pa_nil)) (pg_name (i := 3) sc.nd rfl (.inl rfl)) (pss_one (ps_if (pt_not (pt_val (Fw.pe_call H__law_padded_right.G (hr.mono (by decide)) (by rfl) H__law_padded_right.g H__law_padded_right.k H__law_padded_right.b .nil pass0 (pa_cons (pv 10) (pa_cons (pv 8) (pa_cons (pv 3) pa_nil)))))) (pss_one (ps_ret pe_bl)) pss_nil)))
      (pss_cons (ps_for PassesOwn.never rfl (show PI _ _ _ (iSeq K _) from pi_seq (pe_lst (pa_cons (pe_op (show OpR _ (binaryOp .Add) (uAdd K) from o_add) (pv 2) pe_int) (pa_cons (pe_un o_neg pe_int) (pa_cons pe_non (pa_cons pe_bl (pa_cons pe_str (pa_cons (pe_op (show OpR _ (binaryOp .Add) (uAdd K) from o_add) (pv 2) (pe_op op_pow pe_int pe_int)) pa_nil)))))))) (pg_name (i := 9) sc.nd rfl (.inr rfl)) (pss_one (ps_if (pt_cmpR (show OpR _ (compareOp .NotEq) (rNeD K) from o_ne hr.r.units) (pe_lamP (T := [(PT, nm)]) (k := 7) (P := PT) (c := cL) (by rfl) W__law_fault.m W__law_fault.k lk__law_fault cg__law_fault bi__law_fault sc__law_fault rfl (.inl rfl) (Y__law_fault _ rfl rfl hr.g (by exact units80 hr.r) _ _) TB rfl (by exact name_in rfl hn) (by exact name_one rfl hn) (hr.mono (by decide)) (LamX.lamS_by (sc := defScope (top 30)) (by decide +kernel)) rfl (fun _ _ _ _ _ => rfl) (by exact fun A outer s H E f c' hr => (Fw.pe_call H_padded.G (hr.mono (by decide)) (by rfl) H_padded.g H_padded.k H_padded.b .nil (passes_call (takes_of rfl rfl rfl rfl) (fun _ _ _ _ h => h)) (pa_cons (pv 10) (pa_cons (pv 8) (pa_cons (pv 9) pa_nil)))))) (pe_tup (pa_cons pe_str (pa_cons pe_str (pa_cons (pe_callB (show CallR _ _ (Fw.rRepr2 ⟨K, XC⟩) from Fw.call_repr2 (by exact hr.g) (by exact units70 hr.r)) (by rfl) T.repr (by decide +kernel) (pa_cons (pv 9) pa_nil)) pa_nil)))) (nomark _)) (pss_one (ps_ret pe_bl)) pss_nil)))
      (pss_cons (ps_set (i := 4) sc.nd rfl (.inl rfl) (Fw.pe_call H_padded.G (hr.mono (by decide)) (by rfl) H_padded.g H_padded.k H_padded.b .nil pass_false (pa_cons (pv 10) (pa_cons (pv 8) (pa_cons (Fw.pe_call H__law_draw.G (hr.mono (by decide)) (by rfl) H__law_draw.g H__law_draw.k H__law_draw.b .nil pass0 (pa_cons (pv 1) (pa_cons (pe_op (show OpR _ (binaryOp .Add) (uAdd K) from o_add) (pv 2) pe_int) pa_nil))) pa_nil)))))
      (pss_cons (ps_for PassesOwn.never rfl (show PI _ _ _ (iSeq K _) from pi_seq (pe_lst (pa_cons pe_non (pa_cons pe_int (pa_cons (pe_tup pa_nil) (pa_cons pe_str (pa_cons (pe_tup (pa_cons (pe_tup (pa_cons pe_int (pa_cons pe_int pa_nil))) pa_nil)) (pa_cons (pe_tup (pa_cons (pe_tup (pa_cons pe_int (pa_cons pe_int pa_nil))) (pa_cons (pe_tup (pa_cons pe_int (pa_cons pe_int pa_nil))) (pa_cons (pe_tup (pa_cons pe_int (pa_cons pe_int pa_nil))) pa_nil)))) (pa_cons (pe_tup (pa_cons (pe_tup (pa_cons pe_int (pa_cons pe_int pa_nil))) (pa_cons (pe_tup (pa_cons pe_int (pa_cons pe_int pa_nil))) pa_nil))) pa_nil))))))))) (pg_name (i := 5) sc.nd rfl (.inl rfl)) (pss_one (ps_if (pt_cmpR (show OpR _ (compareOp .NotEq) (rNeD K) from o_ne hr.r.units) (Fw.pe_call H_is_path.G (hr.mono (by decide)) (by rfl) H_is_path.g H_is_path.k H_is_path.b .nil pass0 (pa_cons (pv 5) pa_nil)) (Fw.pe_call H__law_is_path.G (hr.mono (by decide)) (by rfl) H__law_is_path.g H__law_is_path.k H__law_is_path.b .nil pass0 (pa_cons (pv 5) pa_nil)) (nomark _)) (pss_one (ps_ret pe_bl)) pss_nil)))
      (pss_cons (ps_for PassesOwn.never rfl (pi_range1 (by rfl) T.range (pa_cons pe_int pa_nil)) (pg_name (i := 6) sc.nd rfl (.inl rfl)) (pss_cons (ps_set (i := 5) sc.nd rfl (.inl rfl) (Fw.pe_call H__law_bent.G (hr.mono (by decide)) (by rfl) H__law_bent.g H__law_bent.k H__law_bent.b .nil pass0 (pa_cons (pv 1) (pa_cons (pv 4) pa_nil))))
      (pss_cons (ps_set (i := 7) sc.nd rfl (.inl rfl) (Fw.pe_call H_is_path.G (hr.mono (by decide)) (by rfl) H_is_path.g H_is_path.k H_is_path.b .nil pass0 (pa_cons (pv 5) pa_nil)))
      (pss_one (ps_if (PW.pt (pw_or (pt_not (pt_val (pe_callB (show CallR _ _ (rIsi K) from call_isi) (by rfl) T.isinstance (by decide +kernel) (pa_cons (pv 7) (pa_cons (pe_bltn (v := .ty "bool") (by rfl) T.bool (by decide +kernel) rfl) pa_nil))))) (pw_or1 (pt_cmpR (show OpR _ (compareOp .NotEq) (rNeD K) from o_ne hr.r.units) (pv 7) (Fw.pe_call H__law_is_path.G (hr.mono (by decide)) (by rfl) H__law_is_path.g H__law_is_path.k H__law_is_path.b .nil pass0 (pa_cons (pv 5) pa_nil)) (nomark _))))) (pss_one (ps_ret pe_bl)) pss_nil)))))
      (pss_one (ps_ret pe_bl)))))))))))), ?_⟩
  refine law_run (G := ⟨K, XC⟩) (f := F_law) (fun qL hT => ?_) (by decide) hf h
  exact (cs_seq (cs_asgV (ce_tup (ca_cons (ce_op ob_add (CE.b ce_int) (CE.b (ce_callP (ca_cons ce_int ca_nil)))) (ca_cons (ce_op ob_add (CE.b ce_int) (CE.b (ce_callP (ca_cons ce_int ca_nil)))) ca_nil))) (v_tup (v_cons (v_name 8) (v_cons (v_name 10) v_nil))))
    (cs_seq (cs_if (ct_test (ce_op ob_eq (CE.b (ce_callP (ca_cons ce_int ca_nil))) (CE.b ce_int))) (cs_asg (ce_callP (ca_cons ce_int ca_nil)) (tg_name 8)) cs_next)
    (cs_seq (cs_asg (ce_callN (ca_cons (ce_var 10) (ca_cons (ce_var 8) ca_nil))) (tg_name 2))
    (cs_seq (cs_if (ct_or (ct_test (ce_op ob_ne (CE.b (ce_callN (ca_cons (ce_var 10) (ca_cons (ce_var 8) ca_nil)))) (CE.b (ce_var 2)))) (ct_test (ce_op ob_ne (CE.b (ce_callN (ca_cons (ce_callP (ca_cons ce_int ca_nil)) (ca_cons (ce_var 8) ca_nil)))) (CE.b ce_int)))) (cs_ret ce_bl) cs_next)
    (cs_seq (cs_for (ci_rg1 (ca_cons (ce_op ob_add (CE.b (ce_var 2)) (CE.b ce_int)) ca_nil)) (tg_name 3) (cs_if (ct_not (ct_B (ce_callN (ca_cons (ce_var 10) (ca_cons (ce_var 8) (ca_cons (ce_var 3) ca_nil)))))) (cs_ret ce_bl) cs_next))
    (cs_seq (cs_for (ci_seq (CF.ce (cf_lst (ca_cons (ce_op ob_add (CE.b (ce_var 2)) (CE.b ce_int)) (ca_cons (ce_un ub_neg (CE.b ce_int)) (ca_cons ce_non (ca_cons ce_bl (ca_cons ce_str (ca_cons (ce_op ob_add (CE.b (ce_var 2)) (CE.b (ce_op ob_pow (CE.b ce_int) (CE.b ce_int)))) ca_nil))))))))) (tg_name 9) (cs_if (ct_test (ce_op ob_ne (CE.b (ce_lam hT (.head _) (fun E => (ce_callX (ca_cons (ce_var 10) (ca_cons (ce_var 8) (ca_cons (ce_var 9) ca_nil))))))) (CE.b (ce_tup (ca_cons ce_str (ca_cons ce_str (ca_cons (ce_cb1 b_repr2 (CE.b (ce_var 9))) ca_nil))))))) (cs_ret ce_bl) cs_next))
    (cs_seq (cs_asg (ce_callX (ca_cons (ce_var 10) (ca_cons (ce_var 8) (ca_cons (ce_callP (ca_cons (ce_op ob_add (CE.b (ce_var 2)) (CE.b ce_int)) ca_nil)) ca_nil)))) (tg_name 4))
    (cs_seq (cs_for (ci_seq (CF.ce (cf_lst (ca_cons ce_non (ca_cons ce_int (ca_cons (ce_tup ca_nil) (ca_cons ce_str (ca_cons (ce_tup (ca_cons (ce_tup (ca_cons ce_int (ca_cons ce_int ca_nil))) ca_nil)) (ca_cons (ce_tup (ca_cons (ce_tup (ca_cons ce_int (ca_cons ce_int ca_nil))) (ca_cons (ce_tup (ca_cons ce_int (ca_cons ce_int ca_nil))) (ca_cons (ce_tup (ca_cons ce_int (ca_cons ce_int ca_nil))) ca_nil)))) (ca_cons (ce_tup (ca_cons (ce_tup (ca_cons ce_int (ca_cons ce_int ca_nil))) (ca_cons (ce_tup (ca_cons ce_int (ca_cons ce_int ca_nil))) ca_nil))) ca_nil)))))))))) (tg_name 5) (cs_if (ct_test (ce_op ob_ne (CE.b (ce_callN (ca_cons (ce_var 5) ca_nil))) (CE.b (ce_callN (ca_cons (ce_var 5) ca_nil))))) (cs_ret ce_bl) cs_next))
    (cs_seq (cs_for (ci_rg1 (ca_cons ce_int ca_nil)) (tg_name 6) (cs_seq (cs_asg (ce_callP (ca_cons (ce_var 4) ca_nil)) (tg_name 5))
    (cs_seq (cs_asg (ce_callN (ca_cons (ce_var 5) ca_nil)) (tg_name 7))
    (cs_if (ct_or (ct_not (ct_B (ce_isi .bool (CE.b (ce_var 7))))) (ct_test (ce_op ob_ne (CE.b (ce_var 7)) (CE.b (ce_callN (ca_cons (ce_var 5) ca_nil)))))) (cs_ret ce_bl) cs_next))))
    (cs_ret ce_bl))))))))))
end
end Sb

set_option linter.all false
set_option maxRecDepth 100000
set_option maxHeartbeats 4000000
namespace Fw
open PySem PySem.Spec PyProof.Rows L2
/-! ### what does not draw: the pen is handed on -/
def withP {α : Type} (p : PenS) (r : α × PenS) : α × PenS := (r.1, p)
def withS {α : Type} (p : PenS) (r : α × Ev) : α × Ev := (r.1, ⟨r.2.sl, p⟩)
def Pg {α : Type} (f : FG α) : Prop := ∀ sl p, f ⟨sl, p⟩ = (f ⟨sl, pen0⟩).map (withP p)
def Ps (f : FS) : Prop := ∀ sl p, f ⟨sl, p⟩ = (f ⟨sl, pen0⟩).map (withS p)
def Pv (f : D → Ev → Option Ev) : Prop := ∀ d sl p, f d ⟨sl, p⟩ = (f d ⟨sl, pen0⟩).map fun e => ⟨e.sl, p⟩
def Pvs (f : List D → Ev → Option Ev) : Prop := ∀ d sl p, f d ⟨sl, p⟩ = (f d ⟨sl, pen0⟩).map fun e => ⟨e.sl, p⟩
section
variable {α β : Type}
theorem pg_ret {a : α} : Pg (retG a) := fun _ _ => rfl
theorem pg_opt {o : Option α} : Pg (optG o) := fun _ _ => by cases o <;> rfl
theorem pg_none : Pg (fun _ => none : FG α) := fun _ _ => rfl
theorem pg_bind {f : FG α} {g : α → FG β} (h1 : Pg f) (h2 : ∀ a, Pg (g a)) : Pg (Fw.bindG f g) := fun sl p => by
  unfold Fw.bindG
  rw [h1 sl p]
  cases hf : f ⟨sl, pen0⟩ with
  | none => rfl
  | some r =>
    obtain ⟨r, q⟩ := r
    cases r with
    | x c ns ds => rfl
    | v a =>
      show g a ⟨sl, p⟩ = (g a ⟨sl, q⟩).map (withP p)
      rw [h2 a sl p, h2 a sl q]
      cases g a ⟨sl, pen0⟩ <;> rfl
theorem pg_slotD {i : Nat} : Pg (slotD i) := fun sl p => by
  unfold slotD
  dsimp only
  split <;> rfl
theorem pg_slotB {i : Nat} : Pg (slotB i) := fun sl p => by
  unfold slotB
  dsimp only
  split <;> rfl
theorem pg_if {c : Prop} [Decidable c] {f g : FG α} (h1 : Pg f) (h2 : Pg g) : Pg (if c then f else g) := by
  split <;> assumption
theorem pg_callN {n : Nat} {F : FF} {f : FG (List D)} (h : Pg f) : Pg (callN n F f) := by
  refine pg_bind h fun ds sl p => ?_
  dsimp only
  split
  · split <;> rfl
  · rfl
theorem pg_callX {n : Nat} {F : FF} {f : FG (List D)} (h : Pg f) : Pg (callX n F f) := by
  refine pg_bind h fun ds sl p => ?_
  dsimp only
  split
  · split <;> rfl
  · rfl
theorem lcL_pen {slw : List Slot} {ft : FT} {test : FG Bool} {elt : FG D} (h1 : Pg test) (h2 : Pg elt) : ∀ (ds : List D) (p : PenS), lcL slw ft test elt ds p = (lcL slw ft test elt ds pen0).map (withP p)
  | [], p => rfl
  | d :: ds, p => by
    unfold lcL
    split
    · rfl
    · next sl hs =>
      rw [h1 sl p]
      cases ht : test ⟨sl, pen0⟩ with
      | none => rfl
      | some r =>
        obtain ⟨r, q⟩ := r
        cases r with
        | x c ns es => rfl
        | v b =>
          cases b with
          | false =>
            show lcL slw ft test elt ds p = (lcL slw ft test elt ds q).map (withP p)
            rw [lcL_pen h1 h2 ds p, lcL_pen h1 h2 ds q]
            cases lcL slw ft test elt ds pen0 <;> rfl
          | true =>
            show (match elt ⟨sl, p⟩ with
              | some (.v x, p2) => (lcL slw ft test elt ds p2).map fun (r : List D × PenS) => (x :: r.1, r.2)
              | _ => none) = (match elt ⟨sl, q⟩ with
              | some (.v x, p2) => (lcL slw ft test elt ds p2).map fun (r : List D × PenS) => (x :: r.1, r.2)
              | _ => none).map (withP p)
            rw [h2 sl p, h2 sl q]
            cases he : elt ⟨sl, pen0⟩ with
            | none => rfl
            | some r =>
              obtain ⟨r, q2⟩ := r
              cases r with
              | x c ns es => rfl
              | v y =>
                show (lcL slw ft test elt ds p).map _ = ((lcL slw ft test elt ds q).map _).map _
                rw [lcL_pen h1 h2 ds p, lcL_pen h1 h2 ds q]
                cases lcL slw ft test elt ds pen0 <;> rfl
theorem pg_lc {vs : List Nat} {fi : FG (List D)} {ft : FT} {test : FG Bool} {elt : FG D} (h0 : Pg fi) (h1 : Pg test) (h2 : Pg elt) : Pg (lcG vs fi ft test elt) := by
  refine pg_bind h0 fun ds sl p => ?_
  dsimp only
  split
  · rfl
  · rw [lcL_pen h1 h2 ds p]
    cases lcL (wipeS sl vs) ft test elt ds pen0 with
    | none => rfl
    | some r =>
      obtain ⟨xs, q⟩ := r
      show (if xs.length ≤ 1000000 then _ else _) = (if xs.length ≤ 1000000 then _ else _ : Option (Rs D × PenS)).map _
      split <;> rfl
theorem pg_pairs : ∀ {fs : List (Key × FG D)}, (∀ f ∈ fs, Pg f.2) → Pg (pairsG fs)
  | [], _ => pg_ret
  | f :: fs, h => pg_bind (h f (.head _)) fun _ => pg_bind (pg_pairs fun g hg => h g (.tail _ hg)) fun _ => pg_ret
theorem pg_disp {fs : List (Key × FG D)} (h : ∀ f ∈ fs, Pg f.2) : Pg (dispG fs) := by
  refine pg_bind (pg_pairs h) fun ds => ?_
  split
  · exact pg_ret
  · exact pg_none
theorem ps_next : Ps nextS := fun _ _ => rfl
theorem ps_brk : Ps breakS := fun _ _ => rfl
theorem ps_cnt : Ps contS := fun _ _ => rfl
theorem ps_none : Ps (fun _ => none) := fun _ _ => rfl
theorem ps_seq {f g : FS} (h1 : Ps f) (h2 : Ps g) : Ps (seqS f g) := fun sl p => by
  unfold seqS
  rw [h1 sl p]
  cases hf : f ⟨sl, pen0⟩ with
  | none => rfl
  | some r =>
    obtain ⟨r, e⟩ := r
    cases r with
    | nx =>
      show g ⟨e.sl, p⟩ = (g e).map (withS p)
      rw [h2 e.sl p, show g e = _ from h2 e.sl e.pen]
      cases g ⟨e.sl, pen0⟩ <;> rfl
    | _ => rfl
theorem ps_then {f : FG α} {g : α → FS} (h1 : Pg f) (h2 : ∀ a, Ps (g a)) : Ps (thenS f g) := fun sl p => by
  unfold thenS
  rw [h1 sl p]
  cases hf : f ⟨sl, pen0⟩ with
  | none => rfl
  | some r =>
    obtain ⟨r, q⟩ := r
    cases r with
    | x c ns ds => rfl
    | v a =>
      show g a ⟨sl, p⟩ = (g a ⟨sl, q⟩).map (withS p)
      rw [h2 a sl p, h2 a sl q]
      cases g a ⟨sl, pen0⟩ <;> rfl
theorem ps_ite {c : Prop} [Decidable c] {f g : FS} (h1 : Ps f) (h2 : Ps g) : Ps (if c then f else g) := by
  split <;> assumption
theorem ps_ifS {c : FG Bool} {f g : FS} (h0 : Pg c) (h1 : Ps f) (h2 : Ps g) : Ps (ifS c f g) := ps_then h0 fun _ => ps_ite h1 h2
theorem ps_retS {f : FG D} (h : Pg f) : Ps (retS f) := ps_then h fun _ _ _ => rfl
theorem ps_dropS {f : FG D} (h : Pg f) : Ps (dropS f) := ps_then h fun _ _ _ => rfl
theorem ps_asgS {f : FG D} {t : FT} (h : Pg f) : Ps (asgS f t) := ps_then h fun d sl p => by
  dsimp only
  cases t d sl <;> rfl
theorem ps_asgO {f : FG D} {i : Nat} (h : Pg f) : Ps (asgO f i) := ps_then h fun d sl p => by
  dsimp only
  split <;> rfl
theorem ps_asgV {f : FG D} {t : FV} (h : Pg f) (ht : Pv t) : Ps (asgV f t) := ps_then h fun d sl p => by
  rw [ht d sl p]
  cases t d ⟨sl, pen0⟩ <;> rfl
theorem pv_name {i : Nat} : Pv (nameV i) := fun _ _ _ => rfl
theorem pv_nil : Pvs nilV := fun d sl p => by cases d <;> rfl
theorem pv_cons {f : FV} {g : FVs} (h1 : Pv f) (h2 : Pvs g) : Pvs (consV f g) := fun d sl p => by
  cases d with
  | nil => rfl
  | cons d r =>
    show (f d ⟨sl, p⟩).bind (g r) = ((f d ⟨sl, pen0⟩).bind (g r)).map _
    rw [h1 d sl p]
    cases f d ⟨sl, pen0⟩ with
    | none => rfl
    | some e =>
      show g r ⟨e.sl, p⟩ = (g r e).map _
      rw [h2 r e.sl p, show g r e = _ from h2 r e.sl e.pen]
      cases g r ⟨e.sl, pen0⟩ <;> rfl
theorem pv_tup {n : Nat} {f : FVs} (h : Pvs f) : Pv (tupV n f) := fun d sl p => by
  unfold tupV
  split
  · split
    · exact h _ sl p
    · rfl
  · split
    · exact h _ sl p
    · rfl
  · rfl
theorem ps_parS {i j : Nat} {f : FG (List D)} (h : Pg f) : Ps (parS i j f) := ps_then h fun d sl p => by
  dsimp only
  split <;> rfl
theorem ps_par3S {i j l : Nat} {f : FG (List D)} (h : Pg f) : Ps (par3S i j l f) := ps_then h fun d sl p => by
  dsimp only
  split <;> rfl
theorem ps_parOO {i j : Nat} {f g : FG D} (h1 : Pg f) (h2 : Pg g) : Ps (parOO i j f g) := ps_then h1 fun a => ps_then h2 fun b sl p => by
  dsimp only
  split <;> rfl
theorem ps_rel {i : Nat} {f : FS} (h : Ps f) : Ps (relS i f) := fun sl p => by
  unfold relS
  dsimp only
  split
  · exact h _ p
  · exact h _ p
  · rfl
theorem ownL_pen {i : Nat} {sl : List Slot} {p : PenS} : ownL i ⟨sl, p⟩ = ownL i ⟨sl, pen0⟩ := rfl
theorem ps_app {i : Nat} {f : FG D} (h : Pg f) : Ps (appS i f) := fun sl p => by
  unfold appS
  rw [ownL_pen]
  cases ownL i ⟨sl, pen0⟩ with
  | none => rfl
  | some ds =>
    rw [Option.bind_some, Option.bind_some]
    refine ps_then h (fun d sl p => ?_) sl p
    rw [ownL_pen]
    cases ownL i ⟨sl, pen0⟩ with
    | none => rfl
    | some ds =>
      show few ds _ = (few ds _).map _
      unfold few
      split <;> rfl
theorem ps_ext {i : Nat} {f : FG D} (h : Pg f) : Ps (extS i f) := fun sl p => by
  unfold extS
  rw [ownL_pen]
  cases ownL i ⟨sl, pen0⟩ with
  | none => rfl
  | some ds =>
    rw [Option.bind_some, Option.bind_some]
    refine ps_then h (fun d sl p => ?_) sl p
    dsimp only
    split
    · rw [ownL_pen]
      cases ownL i ⟨sl, pen0⟩ with
      | none => rfl
      | some ds =>
        show few _ _ = (few _ _).map _
        unfold few
        split <;> rfl
    · rw [ownL_pen]
      cases ownL i ⟨sl, pen0⟩ with
      | none => rfl
      | some ds =>
        show few _ _ = (few _ _).map _
        unfold few
        split <;> rfl
    · rfl
theorem ps_forL {ft : FT} {body : FS} (h : Ps body) : ∀ ds, Ps (forL ft body ds)
  | [] => fun _ _ => rfl
  | d :: ds => fun sl p => by
    unfold forL
    dsimp only
    split
    · rfl
    · next sl' hs =>
      rw [h sl' p]
      cases hb : body ⟨sl', pen0⟩ with
      | none => rfl
      | some r =>
        obtain ⟨r, e⟩ := r
        cases r with
        | nx =>
          show forL ft body ds ⟨e.sl, p⟩ = (forL ft body ds e).map (withS p)
          rw [ps_forL h ds e.sl p, show forL ft body ds e = _ from ps_forL h ds e.sl e.pen]
          cases forL ft body ds ⟨e.sl, pen0⟩ <;> rfl
        | ct =>
          show forL ft body ds ⟨e.sl, p⟩ = (forL ft body ds e).map (withS p)
          rw [ps_forL h ds e.sl p, show forL ft body ds e = _ from ps_forL h ds e.sl e.pen]
          cases forL ft body ds ⟨e.sl, pen0⟩ <;> rfl
        | _ => rfl
theorem ps_for {fi : FG (List D)} {ft : FT} {body : FS} (h0 : Pg fi) (h : Ps body) : Ps (forS fi ft body) := ps_then h0 fun ds => ps_forL h ds
end
/-- some slots forgotten: nothing runs -/
def wipS (vs : List Nat) (f : FS) : FS := fun e => f ⟨wipeS e.sl vs, e.pen⟩
theorem Rl.forget {G : Gm} {U : Hp} {pn : Pn} {e : Ev} {σ : L2.St} {H B : Hp} (r : Rl G U pn e σ H B) (i : Nat) : Rl G U pn ⟨e.sl.set i .u, e.pen⟩ σ H B := by
  have z := r.setU (w := (σ[i]?).getD none) i
  have e1 : σ.set i ((σ[i]?).getD none) = σ := by
    refine List.ext_getElem? fun j => ?_
    rw [List.getElem?_set]
    split
    · next h =>
      subst h
      split
      · next hl => rw [List.getElem?_eq_getElem hl]; rfl
      · next hl => rw [List.getElem?_eq_none (by omega)]
    · rfl
  rw [e1] at z
  exact z
theorem cs_wip {G : Gm} {pn : Pn} {E : XK} {t : TS} {f : FS} (vs : List Nat) (h : CS G pn E t f) : CS G pn E t (wipS vs f) := by
  intro U e σ H B r e' Dn rl hf post
  have : ∀ vs : List Nat, Rl G U pn ⟨wipeS e.sl vs, e.pen⟩ σ H B := by
    intro vs
    induction vs with
    | nil => exact rl
    | cons v vs ih => exact ih.forget v
  exact h U _ σ H B r e' Dn (this vs) hf post
end Fw

set_option linter.all false
set_option maxRecDepth 100000
set_option maxHeartbeats 4000000
/-! comprehensions and loops over encoded lists -/
namespace Fw
open PySem PySem.Spec PyProof.Rows L2
section
variable {α β σ : Type} {sl : List Slot} {p : PenS}
theorem lcL_of {slw : List Slot} {ft : FT} {test : FG Bool} {elt : FG D} {e : α → D} {t : α → Bool} {g : α → D} {p : PenS} : ∀ (xs : List α),
    (∀ x ∈ xs, ∃ sl, ft (e x) slw = some sl ∧ test ⟨sl, p⟩ = some (.v (t x), p) ∧ (t x = true → elt ⟨sl, p⟩ = some (.v (g x), p))) →
    lcL slw ft test elt (xs.map e) p = some ((xs.filter t).map g, p)
  | [], _ => rfl
  | x :: xs, h => by
    obtain ⟨sl, h1, h2, h3⟩ := h x (.head _)
    have ih := lcL_of xs fun y hy => h y (.tail _ hy)
    rw [List.map_cons]
    unfold lcL
    rw [h1]
    dsimp only
    rw [h2]
    cases ht : t x with
    | true =>
      dsimp only
      rw [h3 ht]
      dsimp only
      rw [ih, List.filter_cons_of_pos ht]
      rfl
    | false =>
      dsimp only
      rw [ih, List.filter_cons_of_neg (by rw [ht]; exact Bool.false_ne_true)]
theorem lcG_of {vs : List Nat} {fi : FG (List D)} {ft : FT} {test : FG Bool} {elt : FG D} {e : α → D} {t : α → Bool} {g : α → D} {xs : List α} (hi : fi ⟨sl, p⟩ = some (.v (xs.map e), p)) (ho : vs.any (fun v => isO sl[v]?) = false) (hl : xs.length ≤ 1000000)
    (h : ∀ x ∈ xs, ∃ sl', ft (e x) (wipeS sl vs) = some sl' ∧ test ⟨sl', p⟩ = some (.v (t x), p) ∧ (t x = true → elt ⟨sl', p⟩ = some (.v (g x), p))) :
    lcG vs fi ft test elt ⟨sl, p⟩ = some (.v (.list ((xs.filter t).map g)), p) := by
  unfold lcG Fw.bindG
  rw [hi]
  dsimp only
  rw [if_neg (by rw [ho]; exact Bool.false_ne_true), lcL_of xs h]
  dsimp only
  rw [if_pos]
  rw [List.length_map]
  exact Nat.le_trans (List.length_filter_le _ _) hl
theorem lcG_all {vs : List Nat} {fi : FG (List D)} {ft : FT} {elt : FG D} {e : α → D} {g : α → D} {xs : List α} (hi : fi ⟨sl, p⟩ = some (.v (xs.map e), p)) (ho : vs.any (fun v => isO sl[v]?) = false) (hl : xs.length ≤ 1000000)
    (h : ∀ x ∈ xs, ∃ sl', ft (e x) (wipeS sl vs) = some sl' ∧ elt ⟨sl', p⟩ = some (.v (g x), p)) :
    lcG vs fi ft (retG true) elt ⟨sl, p⟩ = some (.v (.list (xs.map g)), p) := by
  have z := lcG_of (t := fun _ => true) (test := retG true) (elt := elt) (g := g) hi ho hl fun x hx => by
    obtain ⟨sl', h1, h2⟩ := h x hx
    exact ⟨sl', h1, rfl, fun _ => h2⟩
  rw [List.filter_eq_self.mpr (fun _ _ => rfl)] at z
  exact z
/-- a loop that always goes on: its slots by a state; P: what holds of what is left and the state -/
theorem forL_of {ft : FT} {body : FS} {e : α → D} {sl : σ → List Slot} {step : σ → α → σ} (P : List α → σ → Prop) (h : ∀ x xs s, P (x :: xs) s → P xs (step s x) ∧ ∃ sl1, ft (e x) (sl s) = some sl1 ∧ (body ⟨sl1, p⟩ = some (.nx, ⟨sl (step s x), p⟩) ∨ body ⟨sl1, p⟩ = some (.ct, ⟨sl (step s x), p⟩))) :
    ∀ (xs : List α) (s : σ), P xs s → forL ft body (xs.map e) ⟨sl s, p⟩ = some (.nx, ⟨sl (xs.foldl step s), p⟩)
  | [], s, _ => rfl
  | x :: xs, s, h0 => by
    obtain ⟨hp, sl1, h1, h2⟩ := h x xs s h0
    have ih := forL_of P h xs (step s x) hp
    rw [List.map_cons]
    unfold forL
    dsimp only
    rw [h1]
    dsimp only
    rcases h2 with h2 | h2 <;> rw [h2] <;> exact ih
theorem forS_of {fi : FG (List D)} {ft : FT} {body : FS} {e : α → D} {sl : σ → List Slot} {step : σ → α → σ} {xs : List α} {s : σ} (P : List α → σ → Prop) (hi : fi ⟨sl s, p⟩ = some (.v (xs.map e), p)) (h0 : P xs s)
    (h : ∀ x xs s, P (x :: xs) s → P xs (step s x) ∧ ∃ sl1, ft (e x) (sl s) = some sl1 ∧ (body ⟨sl1, p⟩ = some (.nx, ⟨sl (step s x), p⟩) ∨ body ⟨sl1, p⟩ = some (.ct, ⟨sl (step s x), p⟩))) :
    forS fi ft body ⟨sl s, p⟩ = some (.nx, ⟨sl (xs.foldl step s), p⟩) := by
  unfold forS thenS
  rw [hi]
  exact forL_of P h xs s h0
theorem callN_at {n : Nat} {F : FF} {f : FG (List D)} {ds : List D} {x : D} (hf : f ⟨sl, p⟩ = some (.v ds, p)) (hn : ds.length = n) (hF : ∀ p, F ds p = some (.v x, p)) : callN n F f ⟨sl, p⟩ = some (.v x, p) := by
  unfold callN Fw.bindG; rw [hf]; dsimp only; rw [if_pos hn, hF]
theorem callX_at {n : Nat} {F : FF} {f : FG (List D)} {ds : List D} {x : D} (hf : f ⟨sl, p⟩ = some (.v ds, p)) (hn : ds.length = n) (hF : ∀ p, F ds p = some (.v x, p)) : callX n F f ⟨sl, p⟩ = some (.v x, p) := by
  unfold callX Fw.bindG; rw [hf]; dsimp only; rw [if_pos hn, hF]
theorem op1_at {f : FG D} {φ : D → Option D} {a c : D} (hf : f ⟨sl, p⟩ = some (.v a, p)) (h : φ a = some c) : op1 φ f ⟨sl, p⟩ = some (.v c, p) := by
  unfold op1 Fw.bindG; rw [hf]; dsimp only; unfold optG; rw [h]; rfl
theorem op2_p {f g : FG D} {φ : D → D → Option D} {a b c : D} (hf : f ⟨sl, p⟩ = some (.v a, p)) (hg : g ⟨sl, p⟩ = some (.v b, p)) (h : φ a b = some c) : op2 φ f g ⟨sl, p⟩ = some (.v c, p) := op2_at hf hg h
theorem test_at {f : FG D} {b : Bool} (hf : f ⟨sl, p⟩ = some (.v (.bool b), p)) : testG f ⟨sl, p⟩ = some (.v b, p) := by
  unfold testG Fw.bindG; rw [hf]; rfl
theorem if_at {c : FG Bool} {f g : FS} {b : Bool} {r : Option (Fl × Ev)} (hc : c ⟨sl, p⟩ = some (.v b, p)) (h1 : b = true → f ⟨sl, p⟩ = r) (h2 : b = false → g ⟨sl, p⟩ = r) : ifS c f g ⟨sl, p⟩ = r := by
  unfold ifS thenS; rw [hc]; dsimp only
  cases b with
  | true => exact h1 rfl
  | false => exact h2 rfl
theorem seqI_at {f : FG D} {d : D} {ds : List D} (hf : f ⟨sl, p⟩ = some (.v d, p)) (h : seqD d = some ds) : seqI f ⟨sl, p⟩ = some (.v ds, p) := by
  unfold seqI Fw.bindG; rw [hf]; dsimp only; unfold optG; rw [h]; rfl
theorem ofFl_rt {f : FS} {e e' : Ev} {d : D} (h : f e = some (.rt d, e')) : ofFl (f e) = some (.v d, e'.pen) := by rw [h]; rfl
end
/-! ### pairs of ints -/
open PySem.W (Datum DatumOrd)
/-- a cell, a pair of cells -/
abbrev cd (c : I2) : D := Datum.toD c
abbrev cd2 (c : I2 × I2) : D := Datum.toD c
theorem cd_eq (c : I2) : cd c = .tuple [.int c.1, .int c.2] := rfl
section
variable {α : Type} {e : α → D}
/-- data that is plain -/
structure PlainE (e : α → D) : Prop where
  nrm : ∀ x, nrm (e x) = e x
  ok : ∀ x, okD (e x) = true
theorem nrmA_map (h : PlainE e) : ∀ xs : List α, nrmA (xs.map e) = xs.map e
  | [] => rfl
  | x :: xs => by
    show nrm (e x) :: nrmA (xs.map e) = _
    rw [h.nrm, nrmA_map h xs]
    rfl
theorem fits_many {kvs : List (D × D)} {ks : List Key} : fits kvs (.many ks) = kvs.all fun p => isMany p.1 := rfl
end
/-- a dict of cells that says True of each -/
def setD (l : List I2) : D := .dict (l.map fun c => (cd c, .bool true))
theorem kk_cd (c : I2) : kkOf (cd c) = some (.many [.inl c.1, .inl c.2]) := rfl
theorem kEq_cd (a b : I2) : kEq (cd a) (cd b) = decide (a = b) := by
  show (decide (a.1 = b.1) && (decide (a.2 = b.2) && true)) = _
  rw [Bool.and_true, ← Bool.decide_and]
  exact decide_eq_decide.mpr ⟨fun h => Prod.ext h.1 h.2, fun h => by rw [h]; exact ⟨rfl, rfl⟩⟩
theorem fits_set (l : List I2) (ks : List Key) : fits (l.map fun c => (cd c, PyData.bool true)) (.many ks) = true := by
  show (l.map fun c => (cd c, PyData.bool true)).all (fun p => isMany p.1) = true
  rw [List.all_map]
  exact List.all_eq_true.mpr fun _ _ => rfl
theorem getD_set (c : I2) : ∀ l : List I2, (getD' (l.map fun c => (cd c, PyData.bool true)) (cd c)).isSome = decide (c ∈ l)
  | [] => by simp [getD']
  | b :: l => by
    have ih := getD_set c l
    unfold getD' at ih ⊢
    rw [List.map_cons, List.find?_cons]
    dsimp only
    rw [kEq_cd]
    by_cases h : b = c
    · rw [decide_eq_true h, h]
      simp
    · rw [decide_eq_false h]
      dsimp only
      rw [ih]
      exact decide_eq_decide.mpr ⟨fun m => .tail _ m, fun m => by cases m with | head => exact absurd rfl h | tail _ m => exact m⟩
theorem dIn_set (c : I2) (l : List I2) : dInU (cd c) (setD l) = some (.bool (decide (c ∈ l))) := by
  have e1 : dIn (cd c) (setD l) = none := by
    match l with
    | [] => rfl
    | [b] => rfl
    | _ :: _ :: _ => rfl
  unfold dInU
  rw [e1]
  show (dAt (setD l) (cd c)).map _ = _
  unfold dAt setD
  dsimp only
  rw [kk_cd]
  dsimp only [Option.bind_some]
  rw [if_pos (fits_set l _)]
  show some (PyData.bool _) = _
  rw [getD_set]
theorem put_set (c : I2) (l : List I2) : putD (l.map fun c => (cd c, PyData.bool true)) (cd c) (.bool true) = (if c ∈ l then l else l ++ [c]).map fun c => (cd c, PyData.bool true) := by
  unfold putD
  have e1 : (l.map fun c => (cd c, PyData.bool true)).any (fun p => kEq p.1 (cd c)) = decide (c ∈ l) := by
    rw [List.any_map]
    have : ((fun p : D × D => kEq p.1 (cd c)) ∘ fun c => (cd c, PyData.bool true)) = fun b => decide (b = c) := funext fun b => kEq_cd b c
    rw [this, Bool.eq_iff_iff, List.any_eq_true, decide_eq_true_eq]
    exact ⟨fun ⟨x, hx, h⟩ => (of_decide_eq_true h) ▸ hx, fun h => ⟨c, h, decide_eq_true rfl⟩⟩
  rw [e1]
  by_cases h : c ∈ l
  · rw [if_pos (decide_eq_true h), if_pos h, List.map_map]
    apply List.map_congr_left
    intro b _
    show (if kEq (cd b) (cd c) = true then (cd b, PyData.bool true) else (cd b, PyData.bool true)) = _
    split <;> rfl
  · rw [if_neg (by rw [decide_eq_false h]; exact Bool.false_ne_true), if_neg h, List.map_append]
    rfl
end Fw

set_option linter.all false
set_option maxRecDepth 100000
set_option maxHeartbeats 4000000
/-! ==, in, of typed data -/
namespace Fw
open PySem PySem.Spec PyProof.Rows L2
open PySem.W (Datum DatumOrd Tup)
/-- typed data is plain -/
class Okd (α : Type) [DecidableEq α] [Datum α] : Prop where
  nr : ∀ a : α, nrm (Datum.toD a) = Datum.toD a
  pl : ∀ a : α, plain (Datum.toD a) = true
  cl : ∀ a : α, (Datum.toD a).canLay0 = true
instance : Okd Int := ⟨fun _ => rfl, fun _ => rfl, fun _ => rfl⟩
instance : Okd Bool := ⟨fun _ => rfl, fun _ => rfl, fun _ => rfl⟩
instance : Okd Unit := ⟨fun _ => rfl, fun _ => rfl, fun _ => rfl⟩
section
variable {α β : Type} [DecidableEq α] [Datum α] [Okd α] [DecidableEq β] [Datum β] [Okd β]
theorem nrmA_toD : ∀ xs : List α, nrmA (xs.map Datum.toD) = xs.map Datum.toD
  | [] => rfl
  | x :: xs => by
    show nrm (Datum.toD x) :: nrmA (xs.map Datum.toD) = _
    rw [Okd.nr, nrmA_toD xs]
    rfl
theorem plainA_toD : ∀ xs : List α, plainA (xs.map Datum.toD) = true
  | [] => rfl
  | x :: xs => by
    show (plain (Datum.toD x) && plainA (xs.map Datum.toD)) = _
    rw [Okd.pl, plainA_toD xs]
    rfl
theorem canA_toD : ∀ xs : List α, PyData.canLayAll0 (xs.map Datum.toD) = true
  | [] => rfl
  | x :: xs => by
    show ((Datum.toD x).canLay0 && PyData.canLayAll0 (xs.map Datum.toD)) = _
    rw [Okd.cl, canA_toD xs]
    rfl
instance : Okd (List α) := ⟨fun xs => congrArg PyData.list (nrmA_toD xs), fun xs => plainA_toD xs, fun xs => canA_toD xs⟩
instance : Okd (Tup α) := ⟨fun xs => congrArg PyData.tuple (nrmA_toD xs.items), fun xs => plainA_toD xs.items, fun xs => canA_toD xs.items⟩
instance : Okd (α × β) where
  nr a := by
    show PyData.tuple [nrm (Datum.toD a.1), nrm (Datum.toD a.2)] = _
    rw [Okd.nr, Okd.nr]
    rfl
  pl a := by
    show (plain (Datum.toD a.1) && (plain (Datum.toD a.2) && true)) = true
    rw [Okd.pl, Okd.pl]
    rfl
  cl a := by
    show ((Datum.toD a.1).canLay0 && ((Datum.toD a.2).canLay0 && true)) = true
    rw [Okd.cl, Okd.cl]
    rfl
theorem okD_toD (hd : Datum.depth α ≤ 64) (a : α) : okD (Datum.toD a) = true := by
  unfold okD SeqAt.shaped
  rw [Okd.nr, Okd.pl, Okd.cl, decide_eq_true (Nat.le_trans (Datum.depth_le a) hd)]
  rfl
theorem dEq_toD (hd : Datum.depth α ≤ 64) (a b : α) : dEq (Datum.toD a) (Datum.toD b) = some (.bool (decide (a = b))) := by
  unfold dEq
  rw [if_pos ⟨okD_toD hd a, okD_toD hd b⟩, Okd.nr, Okd.nr, Datum.eqv]
theorem dNe_toD (hd : Datum.depth α ≤ 64) (a b : α) : dNe (Datum.toD a) (Datum.toD b) = some (.bool (!decide (a = b))) := by
  unfold dNe
  rw [if_pos ⟨okD_toD hd a, okD_toD hd b⟩, Okd.nr, Okd.nr, Datum.eqv]
theorem any_toD (a : α) (xs : List α) : ((xs.map Datum.toD).any fun z => PyData.eqv z (Datum.toD a)) = decide (a ∈ xs) := by
  rw [List.any_map, Bool.eq_iff_iff, List.any_eq_true, decide_eq_true_eq]
  refine ⟨fun ⟨x, hx, h⟩ => ?_, fun h => ⟨a, h, ?_⟩⟩
  · rw [Function.comp_apply, Datum.eqv] at h
    exact (of_decide_eq_true h) ▸ hx
  · rw [Function.comp_apply, Datum.eqv]
    exact decide_eq_true rfl
theorem dIn_tup (hd : Datum.depth α ≤ 63) (a : α) (xs : List α) : dInU (Datum.toD a) (.tuple (xs.map Datum.toD)) = some (.bool (decide (a ∈ xs))) := by
  have h : dIn (Datum.toD a) (.tuple (xs.map Datum.toD)) = some (.bool (decide (a ∈ xs))) := by
    show (if okD (Datum.toD a) = true ∧ okD (.tuple (xs.map Datum.toD)) = true then _ else none) = _
    rw [if_pos ⟨okD_toD (by omega) a, okD_toD (α := Tup α) (by show Datum.depth α + 1 ≤ 64; omega) ⟨xs⟩⟩, nrmA_toD, Okd.nr, any_toD]
  unfold dInU
  rw [h]
theorem dIn_lst (hd : Datum.depth α ≤ 63) (a : α) (xs : List α) : dInU (Datum.toD a) (.list (xs.map Datum.toD)) = some (.bool (decide (a ∈ xs))) := by
  have h : dIn (Datum.toD a) (.list (xs.map Datum.toD)) = some (.bool (decide (a ∈ xs))) := by
    show (if okD (Datum.toD a) = true ∧ okD (.list (xs.map Datum.toD)) = true then _ else none) = _
    rw [if_pos ⟨okD_toD (by omega) a, okD_toD (α := List α) (by show Datum.depth α + 1 ≤ 64; omega) xs⟩, nrmA_toD, Okd.nr, any_toD]
  unfold dInU
  rw [h]
end
/-! ### sorted of typed data -/
theorem allO_toD {α : Type} {f : D → Option α} {e : α → D} (h : ∀ a, f (e a) = some a) : ∀ xs : List α, allO f (xs.map e) = some xs
  | [] => rfl
  | x :: xs => by
    show (f (e x)).bind _ = _
    rw [h x]
    dsimp only [Option.bind_some]
    rw [allO_toD h xs]
    rfl
theorem dSort_cells (c : I2) (xs : List I2) : dSort (.list ((c :: xs).map Datum.toD)) = some (.list ((SrtD.sortO (c :: xs)).map Datum.toD)) := by
  show (match intsD ((c :: xs).map Datum.toD) with
    | some ns => some (PyData.list ((sortI ns).map PyData.int))
    | none => (sortD2 ((c :: xs).map Datum.toD)).map PyData.list) = _
  rw [show intsD ((c :: xs).map Datum.toD) = none from rfl]
  dsimp only
  unfold sortD2
  rw [allO_toD (f := i2D) (e := Datum.toD) (fun a => rfl)]
  rfl
theorem dSort_pairs (c : I2 × I2) (xs : List (I2 × I2)) : dSort (.list ((c :: xs).map Datum.toD)) = some (.list ((SrtD.sortO (c :: xs)).map Datum.toD)) := by
  show (match intsD ((c :: xs).map Datum.toD) with
    | some ns => some (PyData.list ((sortI ns).map PyData.int))
    | none => (sortD2 ((c :: xs).map Datum.toD)).map PyData.list) = _
  rw [show intsD ((c :: xs).map Datum.toD) = none from rfl]
  dsimp only
  unfold sortD2
  rw [show allO i2D ((c :: xs).map Datum.toD) = none from rfl]
  dsimp only
  rw [allO_toD (f := i22D) (e := Datum.toD) (fun a => rfl)]
  rfl
theorem dSort_nil : dSort (.list []) = some (.list []) := rfl
end Fw

set_option linter.all false
set_option maxRecDepth 100000
/-! lists of cells: which of them are paths -/
namespace Sc
abbrev C2 := Int × Int
def ahead (c : C2) : List C2 := [(c.1, c.2 + 1), (c.1 + 1, c.2 - 1), (c.1 + 1, c.2), (c.1 + 1, c.2 + 1)]
def near8 (c : C2) : List C2 := [(c.1 + -1, c.2 + -1), (c.1 + -1, c.2 + 0), (c.1 + -1, c.2 + 1), (c.1 + 0, c.2 + -1), (c.1 + 0, c.2 + 1), (c.1 + 1, c.2 + -1), (c.1 + 1, c.2 + 0), (c.1 + 1, c.2 + 1)]
def adj (a b : C2) : Prop := -1 ≤ b.1 - a.1 ∧ b.1 - a.1 ≤ 1 ∧ -1 ≤ b.2 - a.2 ∧ b.2 - a.2 ≤ 1 ∧ ¬ (b.1 = a.1 ∧ b.2 = a.2)
instance (a b : C2) : Decidable (adj a b) := by unfold adj; exact inferInstance
theorem adj_symm {a b : C2} (h : adj a b) : adj b a := by
  unfold adj at *
  omega
theorem ext2 {a b : C2} (h1 : a.1 = b.1) (h2 : a.2 = b.2) : a = b := Prod.ext h1 h2
theorem pair_eq {x y : Int} {c : C2} : c = (x, y) ↔ c.1 = x ∧ c.2 = y := ⟨fun h => by rw [h]; exact ⟨rfl, rfl⟩, fun h => ext2 h.1 h.2⟩
theorem mem_near8 {c n : C2} : n ∈ near8 c ↔ adj c n := by
  unfold near8 adj
  simp only [List.mem_cons, List.not_mem_nil, or_false, pair_eq]
  omega
theorem mem_ahead {c n : C2} : n ∈ ahead c ↔ (n.1 = c.1 ∧ n.2 = c.2 + 1) ∨ (n.1 = c.1 + 1 ∧ -1 ≤ n.2 - c.2 ∧ n.2 - c.2 ≤ 1) := by
  unfold ahead
  simp only [List.mem_cons, List.not_mem_nil, or_false, pair_eq]
  omega
theorem adj_ahead {a b : C2} : adj a b ↔ b ∈ ahead a ∨ a ∈ ahead b := by
  rw [mem_ahead, mem_ahead]
  unfold adj
  omega
theorem near8_nodup (c : C2) : (near8 c).Nodup := by
  unfold near8
  simp only [List.nodup_cons, List.mem_cons, List.not_mem_nil, or_false, not_false_eq_true, List.nodup_nil, and_true, Prod.mk.injEq, not_or]
  omega
theorem ahead_nodup (c : C2) : (ahead c).Nodup := by
  unfold ahead
  simp only [List.nodup_cons, List.mem_cons, List.not_mem_nil, or_false, not_false_eq_true, List.nodup_nil, and_true, Prod.mk.injEq, not_or]
  omega
/-- next to each other are those that follow each other, and no others -/
def P (l : List C2) : Prop := ∀ i j (hi : i < l.length) (hj : j < l.length), adj l[i] l[j] ↔ (j = i + 1 ∨ i = j + 1)
/-! ### the count -/
theorem countP_or {α : Type} {p q r : α → Bool} : ∀ xs : List α, (∀ x ∈ xs, p x = (q x || r x) ∧ (q x && r x) = false) → xs.countP p = xs.countP q + xs.countP r
  | [], _ => rfl
  | x :: xs, h => by
    rw [List.countP_cons, List.countP_cons, List.countP_cons, countP_or xs fun y hy => h y (.tail _ hy)]
    obtain ⟨h1, h2⟩ := h x (.head _)
    rw [h1]
    revert h2
    cases q x <;> cases r x <;> intro h2 <;> first | (cases h2; done) | (simp only [Bool.or_false, Bool.or_true, Bool.false_or, Bool.true_or, if_true, Bool.false_eq_true, if_false]; omega)
def g (c : C2) (o : Option C2) : Nat := (ahead c).countP fun n => decide (o = some n)
theorem g_none (c : C2) : g c none = 0 := rfl
theorem count_one {d : C2} : ∀ xs : List C2, xs.Nodup → (xs.countP fun n => decide (some d = some n)) = if d ∈ xs then 1 else 0
  | [], _ => rfl
  | x :: xs, h => by
    obtain ⟨h1, h2⟩ := List.nodup_cons.mp h
    rw [List.countP_cons, count_one xs h2]
    by_cases e : d = x
    · subst e
      rw [if_neg h1]
      simp
    · have z : ¬ some d = some x := fun z => e (by cases z; rfl)
      simp [e]
theorem g_some (c d : C2) : g c (some d) = if d ∈ ahead c then 1 else 0 := count_one _ (ahead_nodup c)
def steps : List C2 → Nat
  | c :: d :: r => (g c (some d) + g d (some c)) + steps (d :: r)
  | _ => 0
def S (o : Option C2) : List C2 → Nat
  | [] => 0
  | c :: r => g c o + g c r.head? + S (some c) r
theorem S_eq : ∀ (r : List C2) (o : Option C2) (c : C2), S o (c :: r) = g c o + steps (c :: r)
  | [], o, c => by simp [S, steps, g_none]
  | d :: r, o, c => by
    rw [S, S_eq r (some c) d, steps, List.head?_cons]
    omega
theorem gg (c d : C2) : g c (some d) + g d (some c) = if adj c d then 1 else 0 := by
  rw [g_some, g_some]
  by_cases h1 : d ∈ ahead c
  · have h2 : c ∉ ahead d := by
      rw [mem_ahead] at h1 ⊢
      omega
    rw [if_pos h1, if_neg h2, if_pos (adj_ahead.mpr (.inl h1))]
  · by_cases h2 : c ∈ ahead d
    · rw [if_neg h1, if_pos h2, if_pos (adj_ahead.mpr (.inr h2))]
    · rw [if_neg h1, if_neg h2, if_neg fun h => (adj_ahead.mp h).elim h1 h2]
def Chn : List C2 → Prop
  | c :: d :: r => adj c d ∧ Chn (d :: r)
  | _ => True
theorem steps_le : ∀ (r : List C2) (c : C2), steps (c :: r) ≤ r.length
  | [], c => Nat.le_refl 0
  | d :: r, c => by
    have := steps_le r d
    rw [steps, gg, List.length_cons]
    split <;> omega
theorem steps_chn : ∀ (r : List C2) (c : C2), steps (c :: r) = r.length ↔ Chn (c :: r)
  | [], c => ⟨fun _ => trivial, fun _ => rfl⟩
  | d :: r, c => by
    have h1 := steps_le r d
    have h2 := steps_chn r d
    rw [steps, gg, List.length_cons, Chn, ← h2]
    split
    · next h => exact ⟨fun e => ⟨h, by omega⟩, fun e => by omega⟩
    · next h => exact ⟨fun e => by omega, fun e => absurd e.1 h⟩
theorem chn_iff : ∀ l : List C2, Chn l ↔ ∀ i (h : i + 1 < l.length), adj l[i] l[i + 1]
  | [] => ⟨fun _ i h => by simp at h, fun _ => trivial⟩
  | [c] => ⟨fun _ i h => by simp at h, fun _ => trivial⟩
  | c :: d :: r => by
    rw [Chn, chn_iff (d :: r)]
    constructor
    · intro ⟨h1, h2⟩ i h
      cases i with
      | zero => exact h1
      | succ i => exact h2 i (by simpa using h)
    · intro h
      exact ⟨h 0 (by simp), fun i hi => h (i + 1) (by simpa using hi)⟩
/-- what the program counts -/
def cnt (l : List C2) (c : C2) : Nat := (ahead c).countP fun n => decide (n ∈ l)
def close (l : List C2) : Prop := ∀ i j (hi : i < l.length) (hj : j < l.length), adj l[i] l[j] → j = i + 1 ∨ i = j + 1
theorem cnt_sum {l : List C2} (hn : l.Nodup) (hc : close l) : ∀ (r pre : List C2), l = pre ++ r → (r.map (cnt l)).sum = S pre.getLast? r
  | [], pre, _ => rfl
  | c :: r, pre, e => by
    have ih := cnt_sum hn hc r (pre ++ [c]) (by rw [e]; simp)
    rw [List.map_cons, List.sum_cons, ih, S, List.getLast?_append]
    simp only [List.getLast?_singleton, Option.some_or]
    have hi : pre.length < l.length := by rw [e]; simp
    have hci : l[pre.length] = c := by simp [e]
    have k1 : cnt l c = g c pre.getLast? + g c r.head? := by
      unfold cnt g
      refine countP_or _ fun n hna => ?_
      have key : n ∈ l → pre.getLast? = some n ∨ r.head? = some n := fun hnl => by
        obtain ⟨j, hj, hjn⟩ := List.getElem_of_mem hnl
        have ha : adj l[pre.length] l[j] := by
          rw [hci, hjn]
          exact adj_ahead.mpr (.inl hna)
        rcases hc _ _ hi hj ha with h | h
        · right
          rw [List.head?_eq_getElem?]
          have : l[j]? = some n := by rw [List.getElem?_eq_getElem hj, hjn]
          rw [e, h, List.getElem?_append_right (by omega)] at this
          rw [show pre.length + 1 - pre.length = 0 + 1 by omega, List.getElem?_cons_succ] at this
          exact this
        · left
          rw [List.getLast?_eq_getElem?]
          have : l[j]? = some n := by rw [List.getElem?_eq_getElem hj, hjn]
          rw [e, List.getElem?_append_left (by omega)] at this
          rw [show pre.length - 1 = j by omega]
          exact this
      have k2 : pre.getLast? = some n → n ∈ pre := fun h => List.mem_of_getLast? h
      have k3 : r.head? = some n → n ∈ r := fun h => List.mem_of_head? h
      have nd : ¬ (n ∈ pre ∧ n ∈ r) := fun ⟨a, b⟩ => by
        rw [e] at hn
        exact (List.nodup_append.mp hn).2.2 n a n (.tail _ b) rfl
      refine ⟨?_, ?_⟩
      · by_cases h : n ∈ l
        · rw [decide_eq_true h]
          rcases key h with h | h <;> simp [h]
        · rw [decide_eq_false h]
          have a : ¬ pre.getLast? = some n := fun z => h (by rw [e]; exact List.mem_append_left _ (k2 z))
          have b : ¬ r.head? = some n := fun z => h (by rw [e]; exact List.mem_append_right _ (.tail _ (k3 z)))
          simp [a, b]
      · by_cases a : pre.getLast? = some n
        · have b : ¬ r.head? = some n := fun z => nd ⟨k2 a, k3 z⟩
          simp [b]
        · simp [a]
    omega
/-- what the program asks of unlike cells -/
def progP (l : List C2) : Prop := (∀ i (hi : i < l.length), ∀ n ∈ ahead l[i], n ∈ l → l.idxOf n = i + 1 ∨ i = l.idxOf n + 1) ∧ (l.map (cnt l)).sum + 1 = l.length
theorem prog_close {l : List C2} (hn : l.Nodup) : (∀ i (hi : i < l.length), ∀ n ∈ ahead l[i], n ∈ l → l.idxOf n = i + 1 ∨ i = l.idxOf n + 1) ↔ close l := by
  constructor
  · intro h i j hi hj ha
    rcases adj_ahead.mp ha with ha | ha
    · have z := h i hi _ ha (List.getElem_mem hj)
      rw [hn.idxOf_getElem j hj] at z
      exact z
    · have z := h j hj _ ha (List.getElem_mem hi)
      rw [hn.idxOf_getElem i hi] at z
      exact z.symm
  · intro h i hi n hna hnl
    obtain ⟨j, hj, rfl⟩ := List.getElem_of_mem hnl
    rw [hn.idxOf_getElem j hj]
    exact h i j hi hj (adj_ahead.mpr (.inl hna))
theorem prog_iff {l : List C2} (hn : l.Nodup) (h0 : l ≠ []) : progP l ↔ P l := by
  unfold progP
  rw [prog_close hn]
  have hs : close l → ((l.map (cnt l)).sum + 1 = l.length ↔ Chn l) := fun hc => by
    rw [cnt_sum hn hc l [] rfl]
    cases l with
    | nil => exact absurd rfl h0
    | cons c r =>
      rw [← steps_chn, List.getLast?_nil, S_eq, g_none, List.length_cons]
      omega
  constructor
  · intro ⟨h1, h2⟩ i j hi hj
    have h3 := (chn_iff l).mp ((hs h1).mp h2)
    refine ⟨h1 i j hi hj, fun h => ?_⟩
    rcases h with h | h
    · subst h
      exact h3 i hj
    · subst h
      exact adj_symm (h3 j hi)
  · intro h
    have hc : close l := fun i j hi hj ha => (h i j hi hj).mp ha
    exact ⟨hc, (hs hc).mpr ((chn_iff l).mpr fun i hi => (h i (i + 1) (by omega) hi).mpr (.inl rfl))⟩
end Sc

set_option linter.all false
set_option maxRecDepth 100000
/-! lists of cells: what the law asks of them; paths put together -/
namespace Sc
/-- what the law compares the neighbours' numbers with -/
def due (n k : Nat) : List Int := [(k : Int) - 1, (k : Int) + 1].filter fun m => decide (0 ≤ m ∧ m < (n : Int))
def nbs (l : List C2) (c : C2) : List Int := ((near8 c).filter fun n => decide (n ∈ l)).map fun n => ((l.idxOf n : Nat) : Int)
def lawP (srt : List Int → List Int) (l : List C2) : Prop := ∀ k (hk : k < l.length), srt (nbs l l[k]) = due l.length k
theorem due_lt (n k : Nat) : (due n k).Pairwise (· < ·) := by
  unfold due
  refine List.Pairwise.filter _ ?_
  simp only [List.pairwise_cons, List.mem_singleton, List.not_mem_nil, List.Pairwise.nil, and_true, forall_eq, false_implies, implies_true]
  omega
theorem mem_due {n k : Nat} {m : Int} : m ∈ due n k ↔ (m = k - 1 ∨ m = k + 1) ∧ 0 ≤ m ∧ m < n := by
  unfold due
  simp only [List.mem_filter, List.mem_cons, List.not_mem_nil, or_false, decide_eq_true_eq]
theorem mem_nbs {l : List C2} {c : C2} {m : Int} : m ∈ nbs l c ↔ ∃ n, adj c n ∧ n ∈ l ∧ ((l.idxOf n : Nat) : Int) = m := by
  unfold nbs
  simp only [List.mem_map, List.mem_filter, mem_near8, decide_eq_true_eq, and_assoc]
theorem nbs_nodup (l : List C2) (c : C2) : (nbs l c).Nodup := by
  unfold nbs
  refine List.pairwise_map.mpr ?_
  refine List.Pairwise.imp_of_mem ?_ (List.Pairwise.filter _ (near8_nodup c))
  intro a b ha hb hne e
  have ha := of_decide_eq_true (List.mem_filter.mp ha).2
  have hb := of_decide_eq_true (List.mem_filter.mp hb).2
  have e : l.idxOf a = l.idxOf b := by omega
  apply hne
  have h1 := List.getElem_idxOf (List.idxOf_lt_length_iff.mpr ha)
  have h2 := List.getElem_idxOf (List.idxOf_lt_length_iff.mpr hb)
  rw [← h1, ← h2]
  congr 1
theorem law_iff {srt : List Int → List Int} (hp : ∀ xs, (srt xs).Perm xs) (hs : ∀ xs, (srt xs).Pairwise (· ≤ ·)) {l : List C2} (hn : l.Nodup) : lawP srt l ↔ P l := by
  have key : ∀ k (hk : k < l.length), srt (nbs l l[k]) = due l.length k ↔ ∀ j (hj : j < l.length), adj l[k] l[j] ↔ (j = k + 1 ∨ k = j + 1) := by
    intro k hk
    have mem : ∀ j (hj : j < l.length), ((j : Nat) : Int) ∈ nbs l l[k] ↔ adj l[k] l[j] := by
      intro j hj
      rw [mem_nbs]
      constructor
      · intro ⟨n, h1, h2, h3⟩
        obtain ⟨i, hi, rfl⟩ := List.getElem_of_mem h2
        rw [hn.idxOf_getElem i hi] at h3
        have e : i = j := by omega
        subst e
        exact h1
      · intro h
        exact ⟨l[j], h, List.getElem_mem hj, by rw [hn.idxOf_getElem j hj]⟩
    have big : ∀ m, m ∈ nbs l l[k] → ∃ j : Nat, j < l.length ∧ m = (j : Int) := by
      intro m h
      obtain ⟨n, h1, h2, h3⟩ := mem_nbs.mp h
      exact ⟨_, List.idxOf_lt_length_iff.mpr h2, h3.symm⟩
    have dm : ∀ j : Nat, j < l.length → (((j : Nat) : Int) ∈ due l.length k ↔ (j = k + 1 ∨ k = j + 1)) := by
      intro j hj
      rw [mem_due]
      omega
    constructor
    · intro h j hj
      rw [← mem j hj, ← dm j hj, ← h]
      exact (hp _).mem_iff.symm
    · intro h
      refine List.Perm.eq_of_pairwise (le := (· ≤ ·)) (fun a b _ _ h1 h2 => by omega) (hs _) ((due_lt _ _).imp fun h => by omega) ?_
      refine (hp _).trans ?_
      refine (List.perm_ext_iff_of_nodup (nbs_nodup _ _) ((due_lt _ _).imp fun h => by omega)).mpr fun m => ?_
      constructor
      · intro hm
        obtain ⟨j, hj, rfl⟩ := big m hm
        exact (dm j hj).mpr ((h j hj).mp ((mem j hj).mp hm))
      · intro hm
        obtain ⟨h1, h2, h3⟩ := mem_due.mp hm
        obtain ⟨j, rfl⟩ : ∃ j : Nat, m = (j : Int) := ⟨m.toNat, by omega⟩
        have hj : j < l.length := by omega
        exact (mem j hj).mpr ((h j hj).mpr ((dm j hj).mp hm))
  exact ⟨fun h i j hi hj => (key i hi).mp (h i hi) j hj, fun h k hk => (key k hk).mpr fun j hj => h k j hk hj⟩
/-! ### paths put together -/
def apart (a b : C2) : Prop := 2 ≤ b.1 - a.1 ∨ 2 ≤ a.1 - b.1 ∨ 2 ≤ b.2 - a.2 ∨ 2 ≤ a.2 - b.2
instance (a b : C2) : Decidable (apart a b) := by unfold apart; exact inferInstance
def R : List C2 → Prop
  | c :: d :: r => adj c d ∧ (∀ e ∈ r, apart c e) ∧ R (d :: r)
  | _ => True
def decR : (l : List C2) → Decidable (R l)
  | [] => isTrue trivial
  | [_] => isTrue trivial
  | c :: d :: r =>
    have := decR (d :: r)
    inferInstanceAs (Decidable (adj c d ∧ (∀ e ∈ r, apart c e) ∧ R (d :: r)))
instance (l : List C2) : Decidable (R l) := decR l
theorem R_get : ∀ {l : List C2}, R l → ∀ i j (hi : i < l.length) (hj : j < l.length), i < j → if j = i + 1 then adj l[i] l[j] else apart l[i] l[j]
  | [], _, i, j, hi, hj, h => by simp at hi
  | [_], _, i, j, hi, hj, h => by simp at hi hj; omega
  | c :: d :: r, ⟨h1, h2, h3⟩, i, j, hi, hj, h => by
    cases i with
    | zero =>
      cases j with
      | zero => omega
      | succ j =>
        cases j with
        | zero => exact h1
        | succ j =>
          rw [if_neg (by omega)]
          exact h2 _ (List.getElem_mem _)
    | succ i =>
      cases j with
      | zero => omega
      | succ j =>
        have := R_get h3 i j (by simpa using hi) (by simpa using hj) (by omega)
        by_cases e : j = i + 1
        · rw [if_pos e] at this
          rw [if_pos (by omega)]
          exact this
        · rw [if_neg e] at this
          rw [if_neg (by omega)]
          exact this
theorem apart_adj {a b : C2} (h : apart a b) : ¬ adj a b := by
  unfold apart adj at *
  omega
theorem R_P {l : List C2} (h : R l) : P l := by
  intro i j hi hj
  rcases Nat.lt_trichotomy i j with c | c | c
  · have := R_get h i j hi hj c
    by_cases e : j = i + 1
    · rw [if_pos e] at this
      exact ⟨fun _ => .inl e, fun _ => this⟩
    · rw [if_neg e] at this
      exact ⟨fun z => absurd z (apart_adj this), fun z => by omega⟩
  · subst c
    refine ⟨fun z => ?_, fun z => by omega⟩
    unfold adj at z
    omega
  · have := R_get h j i hj hi c
    by_cases e : i = j + 1
    · rw [if_pos e] at this
      exact ⟨fun _ => .inr e, fun _ => adj_symm this⟩
    · rw [if_neg e] at this
      exact ⟨fun z => absurd (adj_symm z) (apart_adj this), fun z => by omega⟩
theorem R_nodup {l : List C2} (h : R l) : l.Nodup := by
  refine List.pairwise_iff_getElem.mpr fun i j hi hj c => ?_
  have := R_get h i j hi hj c
  intro e
  rw [e] at this
  split at this
  · unfold adj at this
    omega
  · unfold apart at this
    omega
theorem R_join : ∀ {l1 : List C2} {j : C2} {l2 : List C2}, R (l1 ++ [j]) → R (j :: l2) → (∀ a ∈ l1, ∀ b ∈ l2, apart a b) → R (l1 ++ j :: l2)
  | [], j, l2, _, h, _ => h
  | [a], j, l2, h1, h2, h3 => ⟨h1.1, fun e he => h3 a (.head _) e he, h2⟩
  | a :: b :: l1, j, l2, h1, h2, h3 => by
    obtain ⟨k1, k2, k3⟩ := h1
    refine ⟨k1, fun e he => ?_, R_join (l1 := b :: l1) k3 h2 fun x hx => h3 x (.tail _ hx)⟩
    rcases List.mem_append.mp he with he | he
    · exact k2 e (List.mem_append_left _ he)
    · rcases List.mem_cons.mp he with he | he
      · exact k2 e (List.mem_append_right _ (by rw [he]; exact .head _))
      · exact h3 a (.head _) e he
def mv (x : Int) (c : C2) : C2 := (c.1 + x, c.2)
theorem R_mv (x : Int) : ∀ {l : List C2}, R l → R (l.map (mv x))
  | [], _ => trivial
  | [_], _ => trivial
  | c :: d :: r, ⟨h1, h2, h3⟩ => by
    refine ⟨?_, fun e he => ?_, R_mv x h3⟩
    · unfold adj mv at *
      dsimp only
      omega
    · obtain ⟨e0, h0, rfl⟩ := List.mem_map.mp he
      have := h2 e0 h0
      unfold apart mv at *
      dsimp only
      omega
end Sc

set_option linter.all false
set_option maxRecDepth 100000
/-! a padded wire -/
namespace Sc
/-- the cells behind (x, 0) of a bump, the even and the odd ones -/
def bumpN (x : Int) (e : Nat) : List C2 :=
  let h : Int := ((e : Int) + 5).fdiv 2
  let x1 : Int := if e % 2 = 1 then x + 1 else x
  let h1 : Int := if e % 2 = 1 then h - 1 else h
  ((List.range (h - 1).toNat).map fun (k : Nat) => ((x + 1, -(1 + (k : Int))) : C2)) ++ [(x + 2, -h)] ++ (if e % 2 = 1 then [(x1 + 2, -h1)] else []) ++
    ((List.range (h1 - 1).toNat).map fun (k : Nat) => ((x1 + 3, -(h1 - 1 + (k : Int) * -1)) : C2)) ++ [(x1 + 4, 0)]
def wide (e : Nat) : Nat := 4 + e % 2
/-- what is asked of a bump at (0, 0) -/
def bumpOk (e : Nat) : Bool := decide (R ((0, 0) :: bumpN 0 e)) && (bumpN 0 e).all (fun c => decide (0 < c.1 ∧ -(((e : Int) + 5) / 2) ≤ c.2 ∧ c.2 ≤ 0)) && decide (bumpN 0 e = (bumpN 0 e).dropLast ++ [(((wide e : Nat) : Int), (0 : Int))]) &&
  (bumpN 0 e).dropLast.all (fun c => decide (c.1 < (wide e : Nat))) && decide ((bumpN 0 e).length = wide e + e)
theorem bump_ok : ∀ e < 21, 1 ≤ e → bumpOk e = true := by decide +kernel
theorem bump_mv (x : Int) (e : Nat) : bumpN x e = (bumpN 0 e).map (mv x) := by
  unfold bumpN
  by_cases c : e % 2 = 1
  · simp only [if_pos c, List.map_append, List.map_map, List.map_cons, List.map_nil, mv]
    congr 1
    · congr 1
      · congr 1
        · congr 1
          · apply List.map_congr_left
            intro k _
            exact ext2 (by dsimp only [Function.comp_apply, mv]; omega) rfl
          · exact congrArg (fun z => [z]) (ext2 (by dsimp only; omega) rfl)
        · exact congrArg (fun z => [z]) (ext2 (by dsimp only; omega) rfl)
      · apply List.map_congr_left
        intro k _
        exact ext2 (by dsimp only [Function.comp_apply, mv]; omega) rfl
    · exact congrArg (fun z => [z]) (ext2 (by dsimp only; omega) rfl)
  · simp only [if_neg c, List.map_append, List.map_map, List.map_cons, List.map_nil, mv]
    congr 1
    · congr 1
      · congr 1
        · congr 1
          · apply List.map_congr_left
            intro k _
            exact ext2 (by dsimp only [Function.comp_apply, mv]; omega) rfl
          · exact congrArg (fun z => [z]) (ext2 (by dsimp only; omega) rfl)
      · apply List.map_congr_left
        intro k _
        exact ext2 (by dsimp only [Function.comp_apply, mv]; omega) rfl
    · exact congrArg (fun z => [z]) (ext2 (by dsimp only; omega) rfl)
/-- a beginning of a padded wire that has come to (x, 0), with a steps more than a straight one -/
structure Beg (h : Int) (l : List C2) (x : Int) (a : Nat) : Prop where
  r : R l
  len : (l.length : Int) = x + 1 + a
  fst : ∃ mid, l = (0, 0) :: (1, 0) :: mid
  lst : ∃ pre, l = pre ++ [(x, 0)] ∧ ∀ c ∈ pre, c.1 < x
  bnd : ∀ c ∈ l, 0 ≤ c.1 ∧ c.1 ≤ x ∧ -h ≤ c.2 ∧ c.2 ≤ 0
  one : 1 ≤ x
theorem beg0 {h : Int} (h0 : 0 ≤ h) : Beg h [(0, 0), (1, 0)] 1 0 where
  r := by decide
  len := rfl
  fst := ⟨[], rfl⟩
  lst := ⟨[(0, 0)], rfl, fun c hc => by
    cases List.mem_singleton.mp hc
    decide⟩
  bnd c hc := by
    rcases List.mem_cons.mp hc with e | hc
    · subst e; dsimp only; omega
    · cases List.mem_singleton.mp hc
      dsimp only
      omega
  one := by decide
/-- more of it: q is what comes behind (x, 0) -/
theorem Beg.more {h : Int} {l q : List C2} {x y : Int} {a b : Nat} (B : Beg h l x a) (hr : R ((x, 0) :: q)) (hl : (q.length : Int) = y - x + b) (hq : ∃ pre, q = pre ++ [(y, 0)] ∧ ∀ c ∈ pre, c.1 < y) (hb : ∀ c ∈ q, x < c.1 ∧ c.1 ≤ y ∧ -h ≤ c.2 ∧ c.2 ≤ 0) : Beg h (l ++ q) y (a + b) := by
  obtain ⟨r, len, ⟨mid, fst⟩, ⟨pre, e, lt⟩, bnd, one⟩ := B
  obtain ⟨pq, eq, lq⟩ := hq
  have xy : x < y := (hb (y, 0) (by rw [eq]; simp)).1
  refine ⟨?_, ?_, ⟨mid ++ q, by rw [fst]; rfl⟩, ⟨l ++ pq, by rw [eq, List.append_assoc], fun c hc => ?_⟩, fun c hc => ?_, by omega⟩
  · rw [e, List.append_assoc]
    refine R_join (by rw [← e]; exact r) hr fun c hc d hd => ?_
    have h1 := lt c hc
    have h2 := (hb d hd).1
    unfold apart
    omega
  · rw [List.length_append]
    omega
  · rcases List.mem_append.mp hc with hc | hc
    · have := bnd c hc
      omega
    · exact lq c hc
  · rcases List.mem_append.mp hc with hc | hc
    · have := bnd c hc
      omega
    · have := hb c hc
      omega
theorem bump_facts {e : Nat} (h1 : 1 ≤ e) (h2 : e < 21) (x : Int) : R ((x, 0) :: bumpN x e) ∧ (∀ c ∈ bumpN x e, x < c.1 ∧ c.1 ≤ x + (wide e : Nat) ∧ -(((e : Int) + 5) / 2) ≤ c.2 ∧ c.2 ≤ 0) ∧ (∃ pre, bumpN x e = pre ++ [(x + (wide e : Nat), 0)] ∧ ∀ c ∈ pre, c.1 < x + (wide e : Nat)) ∧ (bumpN x e).length = wide e + e := by
  have ok := bump_ok e h2 h1
  unfold bumpOk at ok
  simp only [Bool.and_eq_true, decide_eq_true_eq, List.all_eq_true] at ok
  obtain ⟨⟨⟨⟨k1, k2⟩, k3⟩, k4⟩, k5⟩ := ok
  have k6 : ∀ c ∈ bumpN 0 e, c.1 ≤ (wide e : Nat) := fun c hc => by
    rw [k3] at hc
    rcases List.mem_append.mp hc with hc | hc
    · have := k4 c hc
      omega
    · cases List.mem_singleton.mp hc
      exact Int.le_refl _
  rw [bump_mv x e]
  refine ⟨?_, fun c hc => ?_, ⟨(bumpN 0 e).dropLast.map (mv x), ?_, fun c hc => ?_⟩, by rw [List.length_map]; exact k5⟩
  · have := R_mv x k1
    rw [List.map_cons] at this
    rw [show mv x (0, 0) = (x, 0) from ext2 (by show 0 + x = x; omega) rfl] at this
    exact this
  · obtain ⟨d, hd, rfl⟩ := List.mem_map.mp hc
    have a := k2 d hd
    have b := k6 d hd
    show x < d.1 + x ∧ d.1 + x ≤ _ ∧ _ ≤ d.2 ∧ d.2 ≤ 0
    omega
  · have z := congrArg (List.map (mv x)) k3
    rw [List.map_append] at z
    rw [z]
    exact congrArg (fun z => _ ++ [z]) (ext2 (by show ((wide e : Nat) : Int) + x = _; omega) rfl)
  · obtain ⟨d, hd, rfl⟩ := List.mem_map.mp hc
    have a := k4 d hd
    show d.1 + x < _
    omega
theorem Beg.bump {h : Int} {l : List C2} {x : Int} {a e : Nat} (B : Beg h l x a) (h1 : 1 ≤ e) (h2 : e < 21) (h3 : ((e : Int) + 5) / 2 ≤ h) : Beg h (l ++ bumpN x e) (x + (wide e : Nat)) (a + e) := by
  obtain ⟨f1, f2, f3, f4⟩ := bump_facts h1 h2 x
  refine B.more f1 (by rw [f4]; omega) f3 fun c hc => ?_
  have := f2 c hc
  omega
theorem Beg.on {h : Int} {l : List C2} {x : Int} {a : Nat} (h0 : 0 ≤ h) (B : Beg h l x a) : Beg h (l ++ [(x + 1, 0)]) (x + 1) a := by
  refine B.more (b := 0) ⟨?_, fun e he => (List.not_mem_nil he).elim, trivial⟩ ?_ ⟨[], rfl, fun c hc => (List.not_mem_nil hc).elim⟩ fun c hc => ?_
  · unfold adj
    dsimp only
    omega
  · rw [List.length_singleton]
    omega
  · cases List.mem_singleton.mp hc
    dsimp only
    omega
/-- the rest of the way -/
def rest (x : Int) (n : Nat) : List C2 := (List.range n).map fun (k : Nat) => (x + 1 + (k : Int), 0)
theorem Beg.rest {h : Int} {l : List C2} {x : Int} {a : Nat} (h0 : 0 ≤ h) (B : Beg h l x a) : ∀ n : Nat, Beg h (l ++ rest x n) (x + n) a
  | 0 => by
    rw [show Sc.rest x 0 = [] from rfl, List.append_nil, show x + ((0 : Nat) : Int) = x by omega]
    exact B
  | n + 1 => by
    have ih := (Beg.rest h0 B n).on h0
    rw [List.append_assoc] at ih
    rw [show Sc.rest x (n + 1) = Sc.rest x n ++ [(x + n + 1, 0)] by
      unfold Sc.rest
      rw [List.range_succ, List.map_append]
      exact congrArg (fun z => _ ++ [z]) (ext2 (by dsimp only; omega) rfl)]
    rw [show x + ((n + 1 : Nat) : Int) = x + n + 1 by omega]
    exact ih
/-- a padded wire -/
structure Padded (w h : Int) (e : Nat) (l : List C2) : Prop where
  r : R l
  len : (l.length : Int) = w + e + 1
  fst : ∃ mid, l = (0, 0) :: (1, 0) :: mid
  lst : ∃ pre, l = pre ++ [(w - 1, 0), (w, 0)]
  bnd : ∀ c ∈ l, 0 ≤ c.1 ∧ c.1 ≤ w ∧ -h ≤ c.2 ∧ c.2 ≤ 0
theorem Beg.padded {h w : Int} {l : List C2} {x : Int} {a : Nat} (h0 : 0 ≤ h) (B : Beg h l x a) (hw : x + 1 ≤ w) : Padded w h a (l ++ Sc.rest x (w - x).toNat) := by
  obtain ⟨n, e⟩ : ∃ n : Nat, (w - x).toNat = n + 1 := ⟨(w - x).toNat - 1, by omega⟩
  have c := Beg.rest h0 B (n + 1)
  have d := Beg.rest h0 B n
  have ew : x + ((n + 1 : Nat) : Int) = w := by omega
  rw [e]
  rw [ew] at c
  obtain ⟨r, len, fst, lst, bnd, one⟩ := c
  obtain ⟨pre, e1, _⟩ := d.lst
  refine ⟨r, by omega, fst, ⟨pre, ?_⟩, bnd⟩
  have e2 : l ++ Sc.rest x (n + 1) = (l ++ Sc.rest x n) ++ [(x + n + 1, 0)] := by
    rw [List.append_assoc]
    unfold Sc.rest
    have e5 : ((x + 1 + (n : Int), (0 : Int)) : C2) = (x + n + 1, 0) := ext2 (by dsimp only; omega) rfl
    rw [List.range_succ, List.map_append, List.map_singleton, e5]
  rw [e2, e1, List.append_assoc]
  have e3 : (x + n, (0 : Int)) = (w - 1, 0) := ext2 (by dsimp only; omega) rfl
  have e4 : (x + n + 1, (0 : Int)) = (w, 0) := ext2 (by dsimp only; omega) rfl
  rw [e3, e4]
  rfl
end Sc

set_option linter.all false
set_option maxRecDepth 100000
set_option maxHeartbeats 8000000
/-! dicts that number cells; loops that may return -/
namespace Sb
open PySem PySem.Spec PyProof.Rows L2 Fw
open PySem.W (Datum DatumOrd Tup)
open Sc (C2 ahead near8)
def cellL (l : List C2) : List D := l.map cd
/-- numbered from k on -/
def kvN (l : List C2) (k : Nat) : List (C2 × Nat) := l.zipIdx k
def kvD (kvs : List (C2 × Nat)) : List (D × D) := kvs.map fun p => (cd p.1, PyData.int (p.2 : Int))
def putN (kvs : List (C2 × Nat)) (c : C2) (n : Nat) : List (C2 × Nat) := if c ∈ kvs.map Prod.fst then kvs.map (fun p => if p.1 = c then (p.1, n) else p) else kvs ++ [(c, n)]
theorem keys_put (kvs : List (C2 × Nat)) (c : C2) (n : Nat) : (putN kvs c n).map Prod.fst = if c ∈ kvs.map Prod.fst then kvs.map Prod.fst else kvs.map Prod.fst ++ [c] := by
  unfold putN
  split
  · rw [List.map_map]
    apply List.map_congr_left
    intro p _
    show (if p.1 = c then (p.1, n) else p).1 = p.1
    split <;> rfl
  · rw [List.map_append]
    rfl
theorem put_len (kvs : List (C2 × Nat)) (c : C2) (n : Nat) : (putN kvs c n).length = kvs.length + if c ∈ kvs.map Prod.fst then 0 else 1 := by
  have z := congrArg List.length (keys_put kvs c n)
  rw [List.length_map] at z
  rw [z]
  split
  · rw [List.length_map]; rfl
  · rw [List.length_append, List.length_map]; rfl
theorem fits_kv (kvs : List (C2 × Nat)) (ks : List Key) : fits (kvD kvs) (.many ks) = true := by
  show (kvD kvs).all (fun p => isMany p.1) = true
  unfold kvD
  rw [List.all_map]
  exact List.all_eq_true.mpr fun _ _ => rfl
theorem keysK_kv (kvs : List (C2 × Nat)) : keysK (kvD kvs) = true := by
  unfold keysK
  rw [fits_kv, Bool.or_true]
theorem any_kv (c : C2) (kvs : List (C2 × Nat)) : (kvD kvs).any (fun p => kEq p.1 (cd c)) = decide (c ∈ kvs.map Prod.fst) := by
  unfold kvD
  rw [List.any_map, Bool.eq_iff_iff, List.any_eq_true, decide_eq_true_eq, List.mem_map]
  constructor
  · intro ⟨x, hx, h⟩
    rw [Function.comp_apply, kEq_cd] at h
    exact ⟨x, hx, of_decide_eq_true h⟩
  · intro ⟨x, hx, h⟩
    refine ⟨x, hx, ?_⟩
    rw [Function.comp_apply, kEq_cd]
    exact decide_eq_true h
theorem putD_kv (kvs : List (C2 × Nat)) (c : C2) (n : Nat) : putD (kvD kvs) (cd c) (.int (n : Int)) = kvD (putN kvs c n) := by
  unfold putD
  rw [any_kv]
  unfold putN
  by_cases h : c ∈ kvs.map Prod.fst
  · rw [if_pos (decide_eq_true h), if_pos h]
    unfold kvD
    rw [List.map_map, List.map_map]
    apply List.map_congr_left
    intro p _
    show (if kEq (cd p.1) (cd c) = true then (cd p.1, PyData.int (n : Int)) else (cd p.1, PyData.int (p.2 : Int))) = (cd (if p.1 = c then (p.1, n) else p).1, PyData.int ((if p.1 = c then (p.1, n) else p).2 : Nat))
    rw [kEq_cd]
    by_cases e : p.1 = c
    · rw [if_pos (decide_eq_true e), if_pos e]
    · rw [if_neg (by rw [decide_eq_false e]; exact Bool.false_ne_true), if_neg e]
  · rw [if_neg (by rw [decide_eq_false h]; exact Bool.false_ne_true), if_neg h]
    unfold kvD
    rw [List.map_append]
    rfl
theorem getD_kv (c : C2) : ∀ (l : List C2) (k : Nat), getD' (kvD (kvN l k)) (cd c) = if c ∈ l then some (.int ((k + l.idxOf c : Nat) : Int)) else none
  | [], k => rfl
  | b :: l, k => by
    have ih := getD_kv c l (k + 1)
    unfold getD' kvD kvN at ih ⊢
    rw [List.zipIdx_cons, List.map_cons, List.find?_cons]
    dsimp only
    rw [kEq_cd]
    by_cases h : b = c
    · subst h
      rw [decide_eq_true rfl, if_pos (.head _), List.idxOf_cons_self]
      rfl
    · rw [decide_eq_false h]
      dsimp only
      rw [ih]
      by_cases m : c ∈ l
      · rw [if_pos m, if_pos (.tail _ m), List.idxOf_cons, beq_eq_false_iff_ne.mpr h, cond_false]
        have e : k + 1 + l.idxOf c = k + (l.idxOf c + 1) := by omega
        rw [e]
      · rw [if_neg m, if_neg fun z => by cases z with | head => exact h rfl | tail _ z => exact m z]
theorem dIn_none (c : C2) (kvs : List (C2 × Nat)) : dIn (cd c) (.dict (kvD kvs)) = none := by
  match kvs with
  | [] => rfl
  | [b] => rfl
  | _ :: _ :: _ => rfl
theorem dIn_kv (c : C2) (l : List C2) : dInU (cd c) (.dict (kvD (kvN l 0))) = some (.bool (decide (c ∈ l))) := by
  unfold dInU
  rw [dIn_none]
  show (dAt (.dict (kvD (kvN l 0))) (cd c)).map _ = _
  unfold dAt
  dsimp only
  rw [kk_cd]
  dsimp only [Option.bind_some]
  rw [if_pos (fits_kv _ _), getD_kv]
  by_cases h : c ∈ l
  · rw [if_pos h, decide_eq_true h]; rfl
  · rw [if_neg h, decide_eq_false h]; rfl
theorem dGet_kv {c : C2} {l : List C2} (h : c ∈ l) : dGetU (.dict (kvD (kvN l 0))) (cd c) = some (.int ((l.idxOf c : Nat) : Int)) := by
  unfold dGetU dAt
  dsimp only
  rw [kk_cd]
  dsimp only [Option.bind_some]
  rw [if_pos (fits_kv _ _), getD_kv, if_pos h, Nat.zero_add]
theorem dLen_kv (kvs : List (C2 × Nat)) : dLenU (.dict (kvD kvs)) = some (.int (kvs.length : Int)) := by
  have e1 : dLen (.dict (kvD kvs)) = none := by
    match kvs with
    | [] => rfl
    | [b] => rfl
    | _ :: _ :: _ => rfl
  unfold dLenU
  rw [e1]
  dsimp only
  rw [if_pos (keysK_kv _)]
  unfold kvD
  rw [List.length_map]
theorem dLen_tup (l : List C2) : dLenU (.tuple (cellL l)) = some (.int (l.length : Int)) := by
  show some (PyData.int ((cellL l).length : Nat)) = _
  unfold cellL
  rw [List.length_map]
theorem asgV_at {sl sl' : List Slot} {p p1 : PenS} {f : FG D} {x : D} {t : FV} (hf : f ⟨sl, p⟩ = some (.v x, p1)) (ht : t x ⟨sl, p1⟩ = some ⟨sl', p1⟩) : asgV f t ⟨sl, p⟩ = some (.nx, ⟨sl', p1⟩) := by
  unfold asgV thenS; rw [hf]; dsimp only; rw [ht]; rfl
theorem upd_kv (i : Nat) (c : C2) (n : Nat) (kvs : List (C2 × Nat)) (sl : List Slot) (fk f : FG D) (p : PenS) (hf : f ⟨sl, p⟩ = some (.v (.int (n : Int)), p)) (hk : fk ⟨sl, p⟩ = some (.v (cd c), p)) (hs : sl[i]? = some (.o (.dict (kvD kvs)))) (hl : kvs.length ≤ 1000000) :
    asgV f (subU i fk) ⟨sl, p⟩ = some (.nx, ⟨sl.set i (.o (.dict (kvD (putN kvs c n)))), p⟩) := by
  refine asgV_at (x := .int (n : Int)) hf ?_
  have ho : ∀ q, ownK i ⟨sl, q⟩ = some (kvD kvs) := fun q => by
    unfold ownK
    rw [hs]
  unfold subU
  rw [ho]
  dsimp only
  rw [hk]
  dsimp only
  rw [ho]
  dsimp only [Option.bind_some]
  rw [kk_cd]
  dsimp only [Option.bind_some]
  rw [if_pos ⟨fits_kv kvs _, by unfold kvD; rw [List.length_map]; exact hl⟩, putD_kv]
/-- what a loop over cells makes of a dict -/
def fill : List C2 → List (C2 × Nat) × Nat → List (C2 × Nat) × Nat
  | [], s => s
  | c :: l, s => fill l (putN s.1 c s.2, s.2 + 1)
theorem fill_le : ∀ (l : List C2) (s : List (C2 × Nat) × Nat), (fill l s).1.length ≤ s.1.length + l.length ∧ ((fill l s).1.length = s.1.length + l.length → l.Nodup ∧ ∀ c ∈ l, c ∉ s.1.map Prod.fst)
  | [], s => ⟨Nat.le_refl _, fun _ => ⟨List.nodup_nil, fun c h => (List.not_mem_nil h).elim⟩⟩
  | c :: l, s => by
    obtain ⟨h1, h2⟩ := fill_le l (putN s.1 c s.2, s.2 + 1)
    have e := put_len s.1 c s.2
    unfold fill
    rw [List.length_cons]
    dsimp only at h1 h2
    by_cases h : c ∈ s.1.map Prod.fst
    · rw [if_pos h] at e
      exact ⟨by omega, fun z => by omega⟩
    · rw [if_neg h] at e
      refine ⟨by omega, fun z => ?_⟩
      obtain ⟨h3, h4⟩ := h2 (by omega)
      have k : (putN s.1 c s.2).map Prod.fst = s.1.map Prod.fst ++ [c] := by rw [keys_put, if_neg h]
      refine ⟨List.nodup_cons.mpr ⟨fun m => h4 c m (by rw [k]; simp), h3⟩, fun d hd => ?_⟩
      rcases List.mem_cons.mp hd with e | hd
      · rw [e]; exact h
      · exact fun m => h4 d hd (by rw [k]; exact List.mem_append_left _ m)
theorem kvN_fst (l : List C2) (k : Nat) : (kvN l k).map Prod.fst = l := by
  unfold kvN
  exact List.zipIdx_map_fst k l
theorem kvN_put (pre : List C2) (c : C2) (h : c ∉ pre) : putN (kvN pre 0) c pre.length = kvN (pre ++ [c]) 0 := by
  unfold putN
  rw [kvN_fst, if_neg h]
  unfold kvN
  rw [List.zipIdx_append, Nat.zero_add]
  rfl
theorem fill_eq : ∀ (l pre : List C2), (pre ++ l).Nodup → fill l (kvN pre 0, pre.length) = (kvN (pre ++ l) 0, (pre ++ l).length)
  | [], pre, _ => by rw [List.append_nil]; rfl
  | c :: l, pre, h => by
    have hc : c ∉ pre := fun m => (List.nodup_append.mp h).2.2 c m c (.head _) rfl
    unfold fill
    dsimp only
    have ih := fill_eq l (pre ++ [c]) (by rw [List.append_assoc]; exact h)
    rw [kvN_put pre c hc]
    rw [List.length_append, List.length_singleton, List.append_assoc] at ih
    exact ih
theorem fill_fold (l : List C2) (s : List (C2 × Nat) × Nat) : fill l s = l.foldl (fun s c => (putN s.1 c s.2, s.2 + 1)) s := by
  induction l generalizing s with
  | nil => rfl
  | cons c l ih => exact ih _
section
variable {sl : List Slot} {p : PenS}
theorem andV_at {f g : FG D} {a : Bool} {r : Option (Rs D × PenS)} (hf : f ⟨sl, p⟩ = some (.v (.bool a), p)) (h1 : a = true → g ⟨sl, p⟩ = r) (h2 : a = false → some (.v (.bool false), p) = r) : andV f g ⟨sl, p⟩ = r := by
  unfold andV Fw.bindG
  rw [hf]
  cases a with
  | true => exact h1 rfl
  | false => exact h2 rfl
theorem orG_at {f g : FG Bool} {a : Bool} {r : Option (Rs Bool × PenS)} (hf : f ⟨sl, p⟩ = some (.v a, p)) (h1 : a = true → some (.v true, p) = r) (h2 : a = false → g ⟨sl, p⟩ = r) : orG f g ⟨sl, p⟩ = r := by
  unfold orG Fw.bindG
  rw [hf]
  cases a with
  | true => exact h1 rfl
  | false => exact h2 rfl
theorem andG_at {f g : FG Bool} {a : Bool} {r : Option (Rs Bool × PenS)} (hf : f ⟨sl, p⟩ = some (.v a, p)) (h1 : a = true → g ⟨sl, p⟩ = r) (h2 : a = false → some (.v false, p) = r) : andG f g ⟨sl, p⟩ = r := by
  unfold andG Fw.bindG
  rw [hf]
  cases a with
  | true => exact h1 rfl
  | false => exact h2 rfl
theorem not_at {f : FG Bool} {a : Bool} (hf : f ⟨sl, p⟩ = some (.v a, p)) : notG f ⟨sl, p⟩ = some (.v (!a), p) := by
  unfold notG Fw.bindG
  rw [hf]
  rfl
theorem chain_at {φ ψ : D → D → Option D} {f g h : FG D} {a b c : D} {k m : Bool} (hf : f ⟨sl, p⟩ = some (.v a, p)) (hg : g ⟨sl, p⟩ = some (.v b, p)) (hh : h ⟨sl, p⟩ = some (.v c, p)) (h1 : φ a b = some (.bool k)) (h2 : ψ b c = some (.bool m)) : chainG φ ψ f g h ⟨sl, p⟩ = some (.v (.bool (k && m)), p) := by
  unfold chainG Fw.bindG
  rw [hf]
  dsimp only
  rw [hg]
  dsimp only
  rw [h1]
  cases k with
  | false => rfl
  | true =>
    have e : (optG ((some (PyData.bool true)).bind boolD) : FG Bool) ⟨sl, p⟩ = some (.v true, p) := rfl
    rw [e]
    dsimp only
    rw [if_pos rfl, hh]
    dsimp only
    rw [h2]
    rfl
end
/-! ### loops that may return r -/
section
variable {α σ : Type}
theorem forL_may {ft : FT} {body : FS} {e : α → D} {sl : σ → List Slot} {step : σ → α → Option σ} {r : D} {p : PenS} (I : List α → σ → Prop)
    (h : ∀ x xs s, I (x :: xs) s → ∃ sl1, ft (e x) (sl s) = some sl1 ∧ (match step s x with
      | some s' => I xs s' ∧ (body ⟨sl1, p⟩ = some (.nx, ⟨sl s', p⟩) ∨ body ⟨sl1, p⟩ = some (.ct, ⟨sl s', p⟩))
      | none => ∃ e', body ⟨sl1, p⟩ = some (.rt r, e') ∧ e'.pen = p)) :
    ∀ (xs : List α) (s : σ), I xs s → (match xs.foldlM step s with
      | some s' => forL ft body (xs.map e) ⟨sl s, p⟩ = some (.nx, ⟨sl s', p⟩)
      | none => ∃ e', forL ft body (xs.map e) ⟨sl s, p⟩ = some (.rt r, e') ∧ e'.pen = p)
  | [], s, _ => rfl
  | x :: xs, s, h0 => by
    obtain ⟨sl1, h1, h2⟩ := h x xs s h0
    rw [List.foldlM_cons, List.map_cons]
    cases hs : step s x with
    | none =>
      rw [hs] at h2
      obtain ⟨e', h3, h4⟩ := h2
      refine ⟨e', ?_, h4⟩
      unfold forL
      dsimp only
      rw [h1]
      dsimp only
      rw [h3]
    | some s1 =>
      rw [hs] at h2
      obtain ⟨h3, h4⟩ := h2
      have ih := forL_may I h xs s1 h3
      have e1 : forL ft body (e x :: xs.map e) ⟨sl s, p⟩ = forL ft body (xs.map e) ⟨sl s1, p⟩ := by
        show (match ft (e x) (sl s) with
          | none => none
          | some sl => match body ⟨sl, p⟩ with
            | none => none
            | some (.nx, e') => forL ft body (xs.map e) e'
            | some (.ct, e') => forL ft body (xs.map e) e'
            | some (.bk, e') => some (.nx, e')
            | some (.rt d, e') => some (.rt d, e')
            | some (.x c ns xs, e') => some (.x c ns xs, e')) = _
        rw [h1]
        dsimp only
        rcases h4 with h4 | h4 <;> rw [h4]
      rw [e1]
      exact ih
theorem foldlM_sum {step : Nat → α → Option Nat} {ok : α → Prop} [DecidablePred ok] {f : α → Nat} (h : ∀ s x, step s x = if ok x then some (s + f x) else none) : ∀ (xs : List α) (s : Nat), xs.foldlM step s = if ∀ x ∈ xs, ok x then some (s + (xs.map f).sum) else none
  | [], s => by
    rw [if_pos fun x hx => (List.not_mem_nil hx).elim]
    rfl
  | x :: xs, s => by
    rw [List.foldlM_cons, h]
    by_cases hx : ok x
    · rw [if_pos hx]
      show xs.foldlM step (s + f x) = _
      rw [foldlM_sum h xs]
      by_cases hs : ∀ y ∈ xs, ok y
      · rw [if_pos hs, if_pos fun y hy => (List.mem_cons.mp hy).elim (fun e => e ▸ hx) (hs y), List.map_cons, List.sum_cons, Nat.add_assoc]
      · rw [if_neg hs, if_neg fun z => hs fun y hy => z y (.tail _ hy)]
    · rw [if_neg hx, if_neg fun z => hx (z x (.head _))]
      rfl
end
end Sb

set_option linter.all false
set_option maxRecDepth 100000
set_option maxHeartbeats 8000000
/-! what the program looks at -/
namespace Sb
open PySem PySem.Spec PyProof.Rows L2 Fw
open PySem.W (Datum DatumOrd Tup)
open Sc (C2 ahead near8 progP)
def okAt (l : List C2) (i : Nat) (n : C2) : Prop := n ∈ l → l.idxOf n = i + 1 ∨ i = l.idxOf n + 1
instance (l : List C2) (i : Nat) : DecidablePred (okAt l i) := fun n => by unfold okAt; exact inferInstance
def stepN (l : List C2) (i : Nat) (s : Nat) (n : C2) : Option Nat := if okAt l i n then some (s + if n ∈ l then 1 else 0) else none
def stepC (l : List C2) (s : Nat) (q : C2 × Nat) : Option Nat := (ahead q.1).foldlM (stepN l q.2) s
theorem sum_cnt (l : List C2) (xs : List C2) : (xs.map fun n => if n ∈ l then 1 else 0).sum = xs.countP fun n => decide (n ∈ l) := by
  induction xs with
  | nil => rfl
  | cons x xs ih =>
    rw [List.map_cons, List.sum_cons, List.countP_cons, ih]
    by_cases h : x ∈ l
    · rw [if_pos h, if_pos (decide_eq_true h)]; omega
    · rw [if_neg h, if_neg (by rw [decide_eq_false h]; exact Bool.false_ne_true)]; omega
theorem stepC_eq (l : List C2) (s : Nat) (q : C2 × Nat) : stepC l s q = if (∀ n ∈ ahead q.1, okAt l q.2 n) then some (s + Sc.cnt l q.1) else none := by
  unfold stepC
  rw [foldlM_sum (step := stepN l q.2) (ok := okAt l q.2) (f := fun n => if n ∈ l then 1 else 0) (fun s x => rfl), sum_cnt]
  rfl
instance (l : List C2) : DecidablePred fun q : C2 × Nat => ∀ n ∈ ahead q.1, okAt l q.2 n := fun q => inferInstance
theorem all_steps (l : List C2) : (kvN l 0).foldlM (stepC l) 0 = if (∀ q ∈ kvN l 0, ∀ n ∈ ahead q.1, okAt l q.2 n) then some (((kvN l 0).map fun q => Sc.cnt l q.1).sum) else none := by
  rw [foldlM_sum (step := stepC l) (ok := fun q : C2 × Nat => ∀ n ∈ ahead q.1, okAt l q.2 n) (f := fun q => Sc.cnt l q.1) (fun s x => stepC_eq l s x), Nat.zero_add]
theorem kv_all (l : List C2) : (∀ q ∈ kvN l 0, ∀ n ∈ ahead q.1, okAt l q.2 n) ↔ (∀ i (hi : i < l.length), ∀ n ∈ ahead l[i], n ∈ l → l.idxOf n = i + 1 ∨ i = l.idxOf n + 1) := by
  constructor
  · intro h i hi n hn
    refine h (l[i], i) ?_ n hn
    unfold kvN
    exact List.mk_mem_zipIdx_iff_getElem?.mpr (List.getElem?_eq_getElem hi)
  · intro h q hq n hn
    obtain ⟨c, i⟩ := q
    unfold kvN at hq
    have z := List.mk_mem_zipIdx_iff_getElem?.mp hq
    obtain ⟨hi, hc⟩ := List.getElem?_eq_some_iff.mp z
    subst hc
    exact h i hi n hn
theorem kv_sum (l : List C2) : ((kvN l 0).map fun q => Sc.cnt l q.1).sum = (l.map (Sc.cnt l)).sum := by
  have e : (kvN l 0).map (fun q => Sc.cnt l q.1) = ((kvN l 0).map Prod.fst).map (Sc.cnt l) := by rw [List.map_map]; rfl
  rw [e, kvN_fst]
instance (l : List C2) : Decidable (progP l) := by
  unfold progP
  exact inferInstance
/-- whether a list of cells is a path -/
def pathB (l : List C2) : Bool := decide (l ≠ [] ∧ l.Nodup ∧ progP l)
abbrev nD (n : Nat) : D := .int (n : Int)
theorem dNe_int (a b : Int) : dNe (.int a) (.int b) = some (.bool (!decide (a = b))) := dNe_toD (α := Int) (by decide) a b
theorem dEq_int (a b : Int) : dEq (.int a) (.int b) = some (.bool (decide (a = b))) := dEq_toD (α := Int) (by decide) a b
/-- the slots of _are_paths over its last loop -/
def slA (l : List C2) (c : Slot) (i : Nat) (s : Nat) (x y : Slot) (n : Slot) : List Slot := [.d (.tuple [.tuple (cellL l)]), .d (.dict (kvD (kvN l 0))), .d (nD i), .d (.tuple (cellL l)), c, .d (nD s), x, y, n]
def bodyA2 : FS := ifS (testG (op2 dInU (slotD 8) (slotB 1))) (seqS (ifS (testG (op2 dNe (op1 dAbs (op2 dSub (op2 dGetU (slotB 1) (slotD 8)) (slotD 2))) (retG (.int 1)))) (retS (retG (.bool false))) nextS)
  (asgS (op2 (dI fun i j => i + j) (slotD 5) (retG (.int 1))) (nameT 5))) nextS
def iterA2 : FG (List D) := seqI (tupG (consG (tupG (consG (slotD 6) (consG (op2 dAdd (slotD 7) (retG (.int 1))) (retG [])))) (consG (tupG (consG (op2 dAdd (slotD 6) (retG (.int 1))) (consG (op2 dSub (slotD 7) (retG (.int 1))) (retG [])))) (consG (tupG (consG (op2 dAdd (slotD 6) (retG (.int 1))) (consG (slotD 7) (retG [])))) (consG (tupG (consG (op2 dAdd (slotD 6) (retG (.int 1))) (consG (op2 dAdd (slotD 7) (retG (.int 1))) (retG [])))) (retG []))))))
theorem abs_one (a i : Nat) : (if (a : Int) - (i : Int) < 0 then -((a : Int) - (i : Int)) else (a : Int) - (i : Int)) = 1 ↔ (a = i + 1 ∨ i = a + 1) := by
  split <;> omega
theorem turnA (l : List C2) (c : Slot) (i s : Nat) (x y : Slot) (n : C2) (p : PenS) : (match stepN l i s n with
    | some s' => bodyA2 ⟨slA l c i s x y (.d (cd n)), p⟩ = some (.nx, ⟨slA l c i s' x y (.d (cd n)), p⟩)
    | none => bodyA2 ⟨slA l c i s x y (.d (cd n)), p⟩ = some (.rt (.bool false), ⟨slA l c i s x y (.d (cd n)), p⟩)) := by
  have hin : testG (op2 dInU (slotD 8) (slotB 1)) ⟨slA l c i s x y (.d (cd n)), p⟩ = some (.v (decide (n ∈ l)), p) := test_at (op2_p (a := cd n) (b := .dict (kvD (kvN l 0))) rfl rfl (dIn_kv n l))
  by_cases hn : n ∈ l
  · have hg := dGet_kv hn
    have hne : testG (op2 dNe (op1 dAbs (op2 dSub (op2 dGetU (slotB 1) (slotD 8)) (slotD 2))) (retG (.int 1))) ⟨slA l c i s x y (.d (cd n)), p⟩ = some (.v (!decide (okAt l i n)), p) := by
      refine test_at (op2_p (b := .int 1) (op1_at (op2_p (b := nD i) (op2_p (a := .dict (kvD (kvN l 0))) (b := cd n) rfl rfl hg) rfl rfl) rfl) rfl ?_)
      rw [dNe_int]
      congr 3
      refine decide_eq_decide.mpr ((abs_one _ _).trans ⟨fun h _ => h, fun h => h hn⟩)
    unfold stepN
    by_cases ok : okAt l i n
    · rw [if_pos ok, if_pos hn]
      dsimp only
      unfold bodyA2
      refine if_at hin (fun _ => ?_) (fun h => absurd hn (of_decide_eq_false h))
      refine seq_at (e1 := ⟨slA l c i s x y (.d (cd n)), p⟩) (if_at hne (fun h => by rw [decide_eq_true ok] at h; cases h) (fun _ => rfl)) rfl
    · rw [if_neg ok]
      dsimp only
      unfold bodyA2
      refine if_at hin (fun _ => ?_) (fun h => absurd hn (of_decide_eq_false h))
      unfold seqS
      rw [if_at hne (r := some (.rt (.bool false), ⟨slA l c i s x y (.d (cd n)), p⟩)) (fun _ => rfl) (fun h => by rw [decide_eq_false ok] at h; cases h)]
  · have ok : okAt l i n := fun h => absurd h hn
    unfold stepN
    rw [if_pos ok, if_neg hn]
    dsimp only
    unfold bodyA2
    exact if_at hin (fun h => absurd (of_decide_eq_true h) hn) (fun _ => rfl)
def bodyA : FS := seqS (asgV (slotD 4) (tupV 2 (consV (nameV 6) (consV (nameV 7) nilV)))) (forS iterA2 (nameT 8) bodyA2)
theorem cellA (l : List C2) (c : C2) (i s : Nat) (x y n : Slot) (p : PenS) : (match stepC l s (c, i) with
    | some s' => bodyA ⟨slA l (.d (cd c)) i s x y n, p⟩ = some (.nx, ⟨slA l (.d (cd c)) i s' (.d (.int c.1)) (.d (.int c.2)) (.d (cd (c.1 + 1, c.2 + 1))), p⟩)
    | none => ∃ e', bodyA ⟨slA l (.d (cd c)) i s x y n, p⟩ = some (.rt (.bool false), e') ∧ e'.pen = p) := by
  have run := forL_may (α := C2) (σ := Nat × Slot) (p := p) (ft := nameT 8) (body := bodyA2) (e := cd) (r := .bool false) (sl := fun s => slA l (.d (cd c)) i s.1 (.d (.int c.1)) (.d (.int c.2)) s.2) (step := fun s n => (stepN l i s.1 n).map fun s' => (s', .d (cd n))) (fun _ _ => True) (fun n xs s _ => by
    refine ⟨_, rfl, ?_⟩
    have t := turnA l (.d (cd c)) i s.1 (.d (.int c.1)) (.d (.int c.2)) n p
    cases hs : stepN l i s.1 n with
    | none =>
      rw [hs] at t
      exact ⟨_, t, rfl⟩
    | some s' =>
      rw [hs] at t
      exact ⟨trivial, .inl t⟩) (ahead c) (s, n) trivial
  have fold : ∀ (xs : List C2) (s : Nat) (n : Slot), xs.foldlM (fun (s : Nat × Slot) n => (stepN l i s.1 n).map fun s' => (s', Slot.d (cd n))) (s, n) = (xs.foldlM (stepN l i) s).map fun s' => (s', match xs.getLast? with | some z => Slot.d (cd z) | none => n) := by
    intro xs
    induction xs with
    | nil => intro s n; rfl
    | cons z xs ih =>
      intro s n
      rw [List.foldlM_cons, List.foldlM_cons]
      cases hz : stepN l i s z with
      | none => rfl
      | some s1 =>
        show List.foldlM _ (s1, Slot.d (cd z)) xs = _
        rw [ih]
        congr 1
        funext s'
        cases xs with
        | nil => rfl
        | cons b xs => simp only [List.getLast?_cons, List.getLast?_cons_cons, Option.getD_some]
  rw [fold] at run
  have start : ∀ r, forL (nameT 8) bodyA2 ((ahead c).map cd) ⟨slA l (.d (cd c)) i s (.d (.int c.1)) (.d (.int c.2)) n, p⟩ = r → bodyA ⟨slA l (.d (cd c)) i s x y n, p⟩ = r := by
    intro r h
    unfold bodyA
    refine seq_at (e1 := ⟨slA l (.d (cd c)) i s (.d (.int c.1)) (.d (.int c.2)) n, p⟩) rfl ?_
    unfold forS thenS
    have hi : iterA2 ⟨slA l (.d (cd c)) i s (.d (.int c.1)) (.d (.int c.2)) n, p⟩ = some (.v ((ahead c).map cd), p) := rfl
    rw [hi]
    exact h
  unfold stepC
  cases hs : (ahead c).foldlM (stepN l i) s with
  | none =>
    rw [hs] at run
    obtain ⟨e', h1, h2⟩ := run
    exact ⟨e', start _ h1, h2⟩
  | some s' =>
    rw [hs] at run
    exact start _ run
theorem loopA (l : List C2) (c0 : Slot) (i0 : Nat) (x y n : Slot) (p : PenS) : (match (kvN l 0).foldlM (stepC l) 0 with
    | some s' => ∃ c i x' y' n', forIS 1 (tupT 2 (consT (nameT 4) (consT (nameT 2) nilT))) bodyA ⟨slA l c0 i0 0 x y n, p⟩ = some (.nx, ⟨slA l c i s' x' y' n', p⟩)
    | none => ∃ e', forIS 1 (tupT 2 (consT (nameT 4) (consT (nameT 2) nilT))) bodyA ⟨slA l c0 i0 0 x y n, p⟩ = some (.rt (.bool false), e') ∧ e'.pen = p) := by
  let st : Nat × (Slot × Nat × Slot × Slot × Slot) → C2 × Nat → Option (Nat × (Slot × Nat × Slot × Slot × Slot)) := fun s q => (stepC l s.1 q).map fun s' => (s', (.d (cd q.1), q.2, .d (.int q.1.1), .d (.int q.1.2), .d (cd (q.1.1 + 1, q.1.2 + 1))))
  have run := forL_may (α := C2 × Nat) (σ := Nat × (Slot × Nat × Slot × Slot × Slot)) (p := p) (ft := tupT 2 (consT (nameT 4) (consT (nameT 2) nilT))) (body := bodyA) (e := fun q => .tuple [cd q.1, nD q.2]) (r := .bool false) (sl := fun s => slA l s.2.1 s.2.2.1 s.1 s.2.2.2.1 s.2.2.2.2.1 s.2.2.2.2.2) (step := st) (fun _ _ => True) (fun q xs s _ => by
    refine ⟨slA l (.d (cd q.1)) q.2 s.1 s.2.2.2.1 s.2.2.2.2.1 s.2.2.2.2.2, rfl, ?_⟩
    have t := cellA l q.1 q.2 s.1 s.2.2.2.1 s.2.2.2.2.1 s.2.2.2.2.2 p
    have es : st s q = (stepC l s.1 q).map fun s' => (s', (.d (cd q.1), q.2, .d (.int q.1.1), .d (.int q.1.2), .d (cd (q.1.1 + 1, q.1.2 + 1)))) := rfl
    rw [es]
    cases hs : stepC l s.1 q with
    | none =>
      rw [show (q.1, q.2) = q from rfl, hs] at t
      rw [Option.map_none]
      exact t
    | some s' =>
      rw [show (q.1, q.2) = q from rfl, hs] at t
      rw [Option.map_some]
      exact ⟨trivial, .inl t⟩) (kvN l 0) (0, (c0, i0, x, y, n)) trivial
  have fold : ∀ (xs : List (C2 × Nat)) (s : Nat) u, ∃ v, xs.foldlM st (s, u) = (xs.foldlM (stepC l) s).map fun s' => (s', v) := by
    intro xs
    induction xs with
    | nil => intro s u; exact ⟨u, rfl⟩
    | cons z xs ih =>
      intro s u
      rw [List.foldlM_cons, List.foldlM_cons]
      cases hz : stepC l s z with
      | none =>
        refine ⟨u, ?_⟩
        show (st (s, u) z).bind _ = _
        show ((stepC l s z).map _).bind _ = _
        rw [hz]
        rfl
      | some s1 =>
        obtain ⟨v, hv⟩ := ih s1 (.d (cd z.1), z.2, .d (.int z.1.1), .d (.int z.1.2), .d (cd (z.1.1 + 1, z.1.2 + 1)))
        refine ⟨v, ?_⟩
        show ((stepC l s z).map _).bind _ = _
        rw [hz]
        exact hv
  obtain ⟨v, hv⟩ := fold (kvN l 0) 0 (c0, i0, x, y, n)
  rw [hv] at run
  have items : ∀ q : C2 × Nat, itemD (cd q.1, nD q.2) = .tuple [cd q.1, nD q.2] := fun _ => rfl
  have start : ∀ r, (match r with | some (.x _ _ _, _) => none | r => r) = r → forL (tupT 2 (consT (nameT 4) (consT (nameT 2) nilT))) bodyA ((kvN l 0).map fun q => .tuple [cd q.1, nD q.2]) ⟨slA l c0 i0 0 x y n, p⟩ = r → forIS 1 (tupT 2 (consT (nameT 4) (consT (nameT 2) nilT))) bodyA ⟨slA l c0 i0 0 x y n, p⟩ = r := by
    intro r hr h
    show (if keysK (kvD (kvN l 0)) = true then (match forL _ bodyA ((kvD (kvN l 0)).map itemD) ⟨slA l c0 i0 0 x y n, p⟩ with
      | some (.x _ _ _, _) => none
      | r => r) else none) = r
    rw [if_pos (keysK_kv _), show (kvD (kvN l 0)).map itemD = (kvN l 0).map fun q => .tuple [cd q.1, nD q.2] by unfold kvD; rw [List.map_map]; rfl, h]
    exact hr
  cases hs : (kvN l 0).foldlM (stepC l) 0 with
  | none =>
    rw [hs] at run
    obtain ⟨e', h1, h2⟩ := run
    exact ⟨e', start _ rfl h1, h2⟩
  | some s' =>
    rw [hs] at run
    exact ⟨_, _, _, _, _, start _ rfl run⟩
end Sb

set_option linter.all false
set_option maxRecDepth 100000
set_option maxHeartbeats 8000000
/-! what the program looks at: the defs -/
namespace Sb
open PySem PySem.Spec PyProof.Rows L2 Fw
open PySem.W (Datum DatumOrd Tup)
open Sc (C2 ahead near8 progP)
theorem len_at {sl : List Slot} {p : PenS} (l : List C2) (i : Nat) (h : sl[i]? = some (.d (.tuple (cellL l)))) : op1 dLenU (slotD i) ⟨sl, p⟩ = some (.v (nD l.length), p) := by
  refine op1_at (a := .tuple (cellL l)) ?_ (dLen_tup l)
  unfold slotD
  rw [h]
theorem v_are_paths (l : List C2) (hl : l.length ≤ 1000) (h0 : l ≠ []) (p : PenS) : defF false 9 F__are_paths [.tuple [.tuple (cellL l)]] p = some (.v (.bool (pathB l)), p) := by
  have fillS := forS_of (α := C2) (p := p) (fi := seqI (slotD 3)) (ft := nameT 4) (body := seqS (asgV (slotD 2) (subU 1 (slotD 4))) (asgS (op2 (dI fun i j => i + j) (slotD 2) (retG (.int 1))) (nameT 2))) (e := cd)
    (sl := fun s : (List (C2 × Nat) × Nat) × Slot => [.d (.tuple [.tuple (cellL l)]), .o (.dict (kvD s.1.1)), .d (nD s.1.2), .d (.tuple (cellL l)), s.2, .u, .u, .u, .u]) (step := fun s c => ((putN s.1.1 c s.1.2, s.1.2 + 1), .d (cd c))) (xs := l) (s := (([], 0), .u))
    (fun xs s => s.1.1.length + xs.length ≤ 1000) rfl (by show 0 + l.length ≤ 1000; omega) (fun c xs s hp => by
      rw [List.length_cons] at hp
      have hlen := put_len s.1.1 c s.1.2
      refine ⟨?_, _, rfl, .inl ?_⟩
      · dsimp only
        rw [hlen]
        split <;> omega
      · exact seq_at (upd_kv 1 c s.1.2 s.1.1 _ (slotD 4) (slotD 2) p rfl rfl rfl (by omega)) rfl)
  have ff : ∀ (xs : List C2) (s : List (C2 × Nat) × Nat) (u : Slot), ∃ v, xs.foldl (fun (s : (List (C2 × Nat) × Nat) × Slot) c => ((putN s.1.1 c s.1.2, s.1.2 + 1), Slot.d (cd c))) (s, u) = (fill xs s, v) := by
    intro xs
    induction xs with
    | nil => intro s u; exact ⟨u, rfl⟩
    | cons z xs ih => intro s u; exact ih _ _
  obtain ⟨v, hv⟩ := ff l ([], 0) .u
  rw [hv] at fillS
  dsimp only at fillS
  have k0 := fill_le l ([], 0)
  have sumAt : ∀ (kvs : List (C2 × Nat)) (n : D) (c : Slot), op1 dSum (lcG [3] (seqI (slotD 0)) (nameT 3) (retG true) (op1 dLenU (slotD 3))) ⟨[.d (.tuple [.tuple (cellL l)]), .o (.dict (kvD kvs)), .d n, .d (.tuple (cellL l)), c, .u, .u, .u, .u], p⟩ = some (.v (nD l.length), p) := by
    intro kvs n c
    have lc := lcG_all (p := p) (sl := [.d (.tuple [.tuple (cellL l)]), .o (.dict (kvD kvs)), .d n, .d (.tuple (cellL l)), c, .u, .u, .u, .u]) (vs := [3]) (fi := seqI (slotD 0)) (ft := nameT 3) (elt := op1 dLenU (slotD 3)) (e := fun _ : Unit => .tuple (cellL l)) (g := fun _ => nD l.length) (xs := [()]) rfl rfl (by decide) (fun _ _ => ⟨_, rfl, len_at l 3 rfl⟩)
    refine op1_at lc ?_
    show some (PyData.int (List.sum [(l.length : Int)])) = _
    rw [List.sum_cons, List.sum_nil, Int.add_zero]
  have lenB : ∀ (kvs : List (C2 × Nat)) (n : D) (c : Slot), op1 dLenU (slotB 1) ⟨[.d (.tuple [.tuple (cellL l)]), .o (.dict (kvD kvs)), .d n, .d (.tuple (cellL l)), c, .u, .u, .u, .u], p⟩ = some (.v (nD kvs.length), p) := fun kvs n c => op1_at (a := .dict (kvD kvs)) rfl (dLen_kv kvs)
  have h : ∃ e', F__are_paths ⟨[.d (.tuple [.tuple (cellL l)]), .u, .u, .u, .u, .u, .u, .u, .u], p⟩ = some (.rt (.bool (pathB l)), e') ∧ e'.pen = p := by
    have pre : ∀ r, seqS (ifS (testG (op2 dNe (op1 dLenU (slotB 1)) (op1 dSum (lcG [3] (seqI (slotD 0)) (nameT 3) (retG true) (op1 dLenU (slotD 3)))))) (retS (retG (.bool false))) nextS)
        (seqS (asgS (retG (.int 0)) (nameT 5))
        (seqS (relS 1 (forIS 1 (tupT 2 (consT (nameT 4) (consT (nameT 2) nilT))) bodyA))
        (retS (op2 dEq (slotD 5) (op2 dSub (op1 dLenU (slotB 1)) (op1 dLenU (slotD 0)))))))
        ⟨[.d (.tuple [.tuple (cellL l)]), .o (.dict (kvD (fill l ([], 0)).1)), .d (nD ((fill l ([], 0)).2 + 1)), .d (.tuple (cellL l)), v, .u, .u, .u, .u], p⟩ = r →
        F__are_paths ⟨[.d (.tuple [.tuple (cellL l)]), .u, .u, .u, .u, .u, .u, .u, .u], p⟩ = r := by
      intro r hr
      unfold F__are_paths
      refine seq_at (e1 := ⟨[.d (.tuple [.tuple (cellL l)]), .o (.dict (kvD [])), .u, .u, .u, .u, .u, .u, .u], p⟩) rfl ?_
      refine seq_at (e1 := ⟨[.d (.tuple [.tuple (cellL l)]), .o (.dict (kvD [])), .d (nD 0), .u, .u, .u, .u, .u, .u], p⟩) rfl ?_
      refine seq_at (e1 := ⟨[.d (.tuple [.tuple (cellL l)]), .o (.dict (kvD (fill l ([], 0)).1)), .d (nD ((fill l ([], 0)).2 + 1)), .d (.tuple (cellL l)), v, .u, .u, .u, .u], p⟩) ?_ hr
      unfold forS thenS
      have e0 : seqI (slotD 0) ⟨[.d (.tuple [.tuple (cellL l)]), .o (.dict (kvD [])), .d (nD 0), .u, .u, .u, .u, .u, .u], p⟩ = some (.v [.tuple (cellL l)], p) := rfl
      rw [e0]
      refine forL_nx (sl := [.d (.tuple [.tuple (cellL l)]), .o (.dict (kvD [])), .d (nD 0), .d (.tuple (cellL l)), .u, .u, .u, .u, .u]) rfl (seq_at fillS rfl) rfl
    by_cases hn : l.Nodup
    · have fe : fill l ([], 0) = (kvN l 0, l.length) := fill_eq l [] hn
      rw [fe] at pre
      dsimp only at pre
      have lk : (kvN l 0).length = l.length := by unfold kvN; rw [List.length_zipIdx]
      have t1 : testG (op2 dNe (op1 dLenU (slotB 1)) (op1 dSum (lcG [3] (seqI (slotD 0)) (nameT 3) (retG true) (op1 dLenU (slotD 3))))) ⟨[.d (.tuple [.tuple (cellL l)]), .o (.dict (kvD (kvN l 0))), .d (nD (l.length + 1)), .d (.tuple (cellL l)), v, .u, .u, .u, .u], p⟩ = some (.v false, p) := by
        refine test_at (op2_p (lenB _ _ _) (sumAt _ _ _) ?_)
        rw [dNe_int, lk, decide_eq_true rfl]
        rfl
      have la := loopA l v (l.length + 1) .u .u .u p
      have go : ∀ r, seqS (relS 1 (forIS 1 (tupT 2 (consT (nameT 4) (consT (nameT 2) nilT))) bodyA)) (retS (op2 dEq (slotD 5) (op2 dSub (op1 dLenU (slotB 1)) (op1 dLenU (slotD 0))))) ⟨[.d (.tuple [.tuple (cellL l)]), .o (.dict (kvD (kvN l 0))), .d (nD (l.length + 1)), .d (.tuple (cellL l)), v, .d (nD 0), .u, .u, .u], p⟩ = r → F__are_paths ⟨[.d (.tuple [.tuple (cellL l)]), .u, .u, .u, .u, .u, .u, .u, .u], p⟩ = r := by
        intro r hr
        exact pre r (seq_at (e1 := ⟨[.d (.tuple [.tuple (cellL l)]), .o (.dict (kvD (kvN l 0))), .d (nD (l.length + 1)), .d (.tuple (cellL l)), v, .u, .u, .u, .u], p⟩) (if_at t1 (fun h => by cases h) (fun _ => rfl)) (seq_at (e1 := ⟨[.d (.tuple [.tuple (cellL l)]), .o (.dict (kvD (kvN l 0))), .d (nD (l.length + 1)), .d (.tuple (cellL l)), v, .d (nD 0), .u, .u, .u], p⟩) rfl hr))
      rw [all_steps] at la
      by_cases hk : ∀ q ∈ kvN l 0, ∀ n ∈ ahead q.1, okAt l q.2 n
      · rw [if_pos hk] at la
        obtain ⟨c, i, x', y', n', hla⟩ := la
        refine ⟨⟨slA l c i (((kvN l 0).map fun q => Sc.cnt l q.1).sum) x' y' n', p⟩, go _ ?_, rfl⟩
        refine seq_at (e1 := ⟨slA l c i (((kvN l 0).map fun q => Sc.cnt l q.1).sum) x' y' n', p⟩) ?_ ?_
        · unfold Fw.relS
          exact hla
        · refine ret_at (op2_p (a := nD (((kvN l 0).map fun q => Sc.cnt l q.1).sum)) (b := .int ((l.length : Int) - (1 : Nat))) rfl (op2_p (a := nD l.length) (b := nD 1) (op1_at (a := .dict (kvD (kvN l 0))) rfl ?_) rfl rfl) ?_)
          · rw [dLen_kv, lk]
          · rw [dEq_int, kv_sum]
            unfold pathB
            congr 2
            refine decide_eq_decide.mpr ⟨fun h => ⟨h0, hn, (kv_all l).mp hk, by omega⟩, fun h => by have := h.2.2.2; omega⟩
      · rw [if_neg hk] at la
        obtain ⟨e', h1, h2⟩ := la
        have pf : pathB l = false := decide_eq_false fun h => hk ((kv_all l).mpr h.2.2.1)
        rw [pf]
        refine ⟨e', go _ ?_, h2⟩
        unfold seqS Fw.relS
        dsimp only [List.getElem?_cons_succ, List.getElem?_cons_zero]
        rw [show (⟨List.set _ 1 _, p⟩ : Ev) = ⟨slA l v (l.length + 1) 0 .u .u .u, p⟩ from rfl, h1]
    · have pf : pathB l = false := decide_eq_false fun h => hn h.2.1
      rw [pf]
      refine ⟨⟨[.d (.tuple [.tuple (cellL l)]), .o (.dict (kvD (fill l ([], 0)).1)), .d (nD ((fill l ([], 0)).2 + 1)), .d (.tuple (cellL l)), v, .u, .u, .u, .u], p⟩, pre _ ?_, rfl⟩
      unfold seqS
      rw [if_at (b := true) (r := some (.rt (.bool false), _)) (test_at (op2_p (lenB _ _ _) (sumAt _ _ _) ?_)) (fun _ => rfl) (fun h => by cases h)]
      rw [dNe_int, decide_eq_false]
      · rfl
      · intro e
        exact hn (k0.2 (by show _ = 0 + l.length; omega)).1
  obtain ⟨e', h1, h2⟩ := h
  exact (ofFl_rt h1).trans (by rw [h2])
/-! ### any values: items that are cells, and odd ones -/
inductive It where
  | c (c : C2)
  | o (k : Fin 6) (x y : Int)
def It.d : It → D
  | .c a => cd a
  | .o 0 x y => .tuple [.int x]
  | .o 1 x y => .none
  | .o 2 x y => .tuple [.int x, .bool true]
  | .o 3 x y => .list [.int x, .int y]
  | .o 4 x y => .tuple [.int x, .int y, .int 0]
  | .o 5 x y => .tuple [.int x, .str "0"]
def It.isC : It → Bool
  | .c _ => true
  | .o .. => false
theorem boolsD_map {α : Type} (f : α → Bool) : ∀ xs : List α, boolsD (xs.map fun x => PyData.bool (f x)) = some (xs.map f)
  | [] => rfl
  | x :: xs => by
    show (boolsD (xs.map fun x => PyData.bool (f x))).map _ = _
    rw [boolsD_map f xs]
    rfl
theorem told_item (i : It) (ds : List D) (p : PenS) : (andV (isiG .tuple (slotD 1)) (callN 1 (defF false 1 F_is_cell) (consG (slotD 1) (retG [])))) ⟨[.d (.tuple ds), .d i.d], p⟩ = some (.v (.bool i.isC), p) := by
  rcases i with ⟨x, y⟩ | ⟨k, x, y⟩
  · kernel_rfl
  · match k with
    | 0 => kernel_rfl
    | 1 => kernel_rfl
    | 2 => kernel_rfl
    | 3 => kernel_rfl
    | 4 => kernel_rfl
    | 5 => kernel_rfl
theorem v_told (is : List It) (hl : is.length ≤ 1000) (p : PenS) : defF false 2 F_are_told_cells [.tuple (is.map It.d)] p = some (.v (.bool (is.all It.isC)), p) := by
  have h : F_are_told_cells ⟨[.d (.tuple (is.map It.d)), .u], p⟩ = some (.rt (.bool (is.all It.isC)), ⟨[.d (.tuple (is.map It.d)), .u], p⟩) := by
    unfold F_are_told_cells
    refine ret_at ?_
    have lc := lcG_all (p := p) (sl := [.d (.tuple (is.map It.d)), .u]) (vs := [1]) (fi := seqI (slotD 0)) (ft := nameT 1) (elt := (andV (isiG .tuple (slotD 1)) (callN 1 (defF false 1 F_is_cell) (consG (slotD 1) (retG []))))) (e := It.d) (g := fun i => PyData.bool i.isC) (xs := is) rfl rfl (by omega) (fun i _ => ⟨_, rfl, told_item i _ p⟩)
    have al := op1_at (φ := dAll) lc (c := .bool (is.all It.isC)) (by
      show (boolsD (is.map fun i => PyData.bool i.isC)).map _ = _
      rw [boolsD_map]
      show some (PyData.bool ((is.map It.isC).all id)) = _
      rw [List.all_map]
      rfl)
    exact andV_at (a := true) rfl (fun _ => al) (fun h => by cases h)
  exact ofFl_rt h
def cellsOf : List It → List C2
  | [] => []
  | .c c :: r => c :: cellsOf r
  | .o .. :: r => cellsOf r
theorem cells_d : ∀ is : List It, is.all It.isC = true → is.map It.d = cellL (cellsOf is) ∧ (cellsOf is).length = is.length
  | [], _ => ⟨rfl, rfl⟩
  | .c c :: r, h => by
    obtain ⟨h1, h2⟩ := cells_d r (by simpa [It.isC] using h)
    refine ⟨?_, by rw [cellsOf, List.length_cons, List.length_cons, h2]⟩
    rw [List.map_cons, h1]
    rfl
  | .o k x y :: r, h => by simp [It.isC] at h
/-- whether a tuple of items is a path -/
def pathI (is : List It) : Bool := is.all It.isC && pathB (cellsOf is)
theorem v_is_path (is : List It) (hl : is.length ≤ 1000) (p : PenS) : defF false 1 F_is_path [.tuple (is.map It.d)] p = some (.v (.bool (pathI is)), p) := by
  have h : F_is_path ⟨[.d (.tuple (is.map It.d))], p⟩ = some (.rt (.bool (pathI is)), ⟨[.d (.tuple (is.map It.d))], p⟩) := by
    unfold F_is_path
    refine ret_at ?_
    refine andV_at (a := is.all It.isC) (callN_at (ds := [.tuple (is.map It.d)]) rfl rfl (v_told is hl)) (fun ha => ?_) (fun ha => ?_)
    · obtain ⟨e1, e2⟩ := cells_d is ha
      unfold pathI
      rw [ha, Bool.true_and, e1]
      have hl2 : (cellsOf is).length ≤ 1000 := by omega
      generalize cellsOf is = l at hl2
      refine andV_at (a := decide (0 < (l.length : Int))) (op2_p (φ := dGt) (a := nD l.length) (b := .int 0) (len_at l 0 rfl) rfl rfl) (fun h => ?_) (fun h => ?_)
      · have hp := of_decide_eq_true h
        exact callN_at (ds := [.tuple [.tuple (cellL l)]]) rfl rfl (v_are_paths l hl2 fun z => by subst z; simp at hp)
      · have hp := of_decide_eq_false h
        have h0 : l = [] := List.length_eq_zero_iff.mp (by omega)
        subst h0
        rfl
    · unfold pathI
      rw [ha]
      rfl
  exact ofFl_rt h
theorem v_is_path_lst (ds : List D) (p : PenS) : defF false 1 F_is_path [.list ds] p = some (.v (.bool false), p) := rfl
end Sb

set_option linter.all false
set_option maxRecDepth 100000
set_option maxHeartbeats 8000000
/-! what the law looks at -/
namespace Sb
open PySem PySem.Spec PyProof.Rows L2 Fw
open PySem.W (Datum DatumOrd Tup)
open Sc (C2 ahead near8 progP lawP nbs due)
theorem v_law_near (c : C2) (p : PenS) : defF false 6 F__law_near [cd c] p = some (.v (.list (cellL (near8 c))), p) := by
  obtain ⟨x, y⟩ := c
  kernel_rfl
theorem law_item (i : It) (sl : List Slot) (p : PenS) (h : sl[4]? = some (.d i.d)) : notG (testG (callN 1 (defF false 1 F__law_is_cell) (consG (slotD 4) (retG [])))) ⟨sl, p⟩ = some (.v (!i.isC), p) := by
  have a : callN 1 (defF false 1 F__law_is_cell) (consG (slotD 4) (retG [])) ⟨sl, p⟩ = some (.v (.bool i.isC), p) := by
    refine callN_at (ds := [i.d]) ?_ rfl fun p => ?_
    · refine cons_at (a := i.d) ?_ rfl
      unfold slotD
      rw [h]
    · rcases i with ⟨x, y⟩ | ⟨k, x, y⟩
      · kernel_rfl
      · match k with
        | 0 => kernel_rfl
        | 1 => kernel_rfl
        | 2 => kernel_rfl
        | 3 => kernel_rfl
        | 4 => kernel_rfl
        | 5 => kernel_rfl
  unfold notG Fw.bindG
  rw [test_at a]
  rfl
theorem plainIt (i : It) : plain i.d = true ∧ nrm i.d = i.d ∧ i.d.canLay0 = true ∧ i.d.depth ≤ 5 := by
  rcases i with ⟨x, y⟩ | ⟨k, x, y⟩
  · exact ⟨rfl, rfl, rfl, Nat.le_of_ble_eq_true rfl⟩
  · match k with
    | 0 => exact ⟨rfl, rfl, rfl, Nat.le_of_ble_eq_true rfl⟩
    | 1 => exact ⟨rfl, rfl, rfl, Nat.le_of_ble_eq_true rfl⟩
    | 2 => exact ⟨rfl, rfl, rfl, Nat.le_of_ble_eq_true rfl⟩
    | 3 => exact ⟨rfl, rfl, rfl, Nat.le_of_ble_eq_true rfl⟩
    | 4 => exact ⟨rfl, rfl, rfl, Nat.le_of_ble_eq_true rfl⟩
    | 5 => exact ⟨rfl, rfl, by kernel_rfl, Nat.le_of_ble_eq_true rfl⟩
theorem allIt (is : List It) : plainA (is.map It.d) = true ∧ nrmA (is.map It.d) = is.map It.d ∧ PyData.canLayAll0 (is.map It.d) = true ∧ PyData.depthAll (is.map It.d) ≤ 5 := by
  induction is with
  | nil => exact ⟨rfl, rfl, rfl, Nat.zero_le _⟩
  | cons i r ih =>
    obtain ⟨a, b, c, d⟩ := ih
    obtain ⟨a1, b1, c1, d1⟩ := plainIt i
    refine ⟨?_, ?_, ?_, ?_⟩
    · show (plain i.d && plainA (r.map It.d)) = true
      rw [a1, a]; rfl
    · show nrm i.d :: nrmA (r.map It.d) = i.d :: r.map It.d
      rw [b1, b]
    · show (i.d.canLay0 && PyData.canLayAll0 (r.map It.d)) = true
      rw [c1, c]; rfl
    · show max i.d.depth (PyData.depthAll (r.map It.d)) ≤ 5
      exact Nat.max_le.mpr ⟨d1, d⟩
theorem okD_its (is : List It) : okD (.tuple (is.map It.d)) = true := by
  obtain ⟨a, b, c, d⟩ := allIt is
  unfold okD SeqAt.shaped
  show (plain (.tuple (nrmA (is.map It.d))) && (PyData.canLay0 (.tuple (nrmA (is.map It.d))) && decide (PyData.depth (.tuple (nrmA (is.map It.d))) ≤ 64))) = true
  rw [b]
  show (plainA (is.map It.d) && (PyData.canLayAll0 (is.map It.d) && decide (PyData.depthAll (is.map It.d) + 1 ≤ 64))) = true
  rw [a, c, decide_eq_true (by omega)]
  rfl
theorem eq_unit (is : List It) : dEq (.tuple (is.map It.d)) (.tuple []) = some (.bool is.isEmpty) := by
  cases is with
  | nil => rfl
  | cons i r =>
    unfold dEq
    rw [if_pos ⟨okD_its _, rfl⟩]
    obtain ⟨a, b, c, d⟩ := allIt (i :: r)
    show some (PyData.bool (PyData.eqv (.tuple (nrmA ((i :: r).map It.d))) _)) = _
    rw [b]
    rfl
theorem ones_ne (n : Nat) : dNe (.list (List.replicate n (PyData.int 1))) (.list []) = some (.bool (!decide (n = 0))) := by
  have z := dNe_toD (α := List Int) (by decide) (List.replicate n (1 : Int)) []
  have e1 : (Datum.toD (List.replicate n (1 : Int)) : D) = .list (List.replicate n (PyData.int 1)) := by
    show PyData.list ((List.replicate n (1 : Int)).map PyData.int) = _
    rw [List.map_replicate]
  rw [e1] at z
  refine z.trans ?_
  congr 3
  exact decide_eq_decide.mpr (by simp)
theorem dIx_cells (l : List C2) (i : Nat) (h : i < l.length) : dIx (.tuple (cellL l)) (nD i) = some (cd l[i]) := by
  show L2.atI (cellL l) i = _
  unfold L2.atI ixN cellL
  rw [List.length_map, if_pos (by omega), if_pos (by omega)]
  show (l.map cd)[i]? = _
  rw [List.getElem?_map, List.getElem?_eq_getElem h]
  rfl
theorem dIx_kv {l : List C2} {q : C2 × Nat} (h : q ∈ kvN l 0) : dIx (.tuple (cellL l)) (nD q.2) = some (cd q.1) := by
  obtain ⟨c, i⟩ := q
  unfold kvN at h
  obtain ⟨hi, hc⟩ := List.getElem?_eq_some_iff.mp (List.mk_mem_zipIdx_iff_getElem?.mp h)
  subst hc
  exact dIx_cells l i hi
theorem rg_kv (l : List C2) : rgD 0 l.length = (kvN l 0).map fun q => nD q.2 := by
  have e : (kvN l 0).map (fun q => nD q.2) = ((kvN l 0).map Prod.snd).map nD := by rw [List.map_map]; rfl
  rw [e]
  unfold kvN
  rw [List.zipIdx_map_snd]
  unfold rgD
  rw [List.range_eq_range']
  apply List.map_congr_left
  intro k _
  show PyData.int (0 + (k : Int)) = PyData.int (k : Int)
  rw [Int.zero_add]
theorem intsD_int : ∀ ns : List Int, intsD (ns.map PyData.int) = some ns
  | [] => rfl
  | n :: ns => by
    show (intsD (ns.map PyData.int)).map (n :: ·) = _
    rw [intsD_int ns]
    rfl
theorem sort_int (ns : List Int) : dSort (.list (ns.map PyData.int)) = some (.list ((sortI ns).map PyData.int)) := by
  unfold dSort
  dsimp only
  rw [intsD_int]
theorem foldlM_ok {α σ : Type} {step : σ → α → Option σ} {ok : α → Prop} [DecidablePred ok] {u : σ → α → σ} (h : ∀ s x, step s x = if ok x then some (u s x) else none) : ∀ (xs : List α) (s : σ), xs.foldlM step s = if ∀ x ∈ xs, ok x then some (xs.foldl u s) else none
  | [], s => by
    rw [if_pos fun x hx => (List.not_mem_nil hx).elim]
    rfl
  | x :: xs, s => by
    rw [List.foldlM_cons, h]
    by_cases hx : ok x
    · rw [if_pos hx]
      show xs.foldlM step (u s x) = _
      rw [foldlM_ok h xs]
      by_cases hs : ∀ y ∈ xs, ok y
      · rw [if_pos hs, if_pos fun y hy => (List.mem_cons.mp hy).elim (fun e => e ▸ hx) (hs y)]
        rfl
      · rw [if_neg hs, if_neg fun z => hs fun y hy => z y (.tail _ hy)]
    · rw [if_neg hx, if_neg fun z => hx (z x (.head _))]
      rfl
/-- the first loop: which cells stand there twice -/
def stepF (s : List C2 × Slot) (q : C2 × Nat) : Option (List C2 × Slot) := if q.1 ∈ s.1 then none else some (s.1 ++ [q.1], .d (nD q.2))
theorem fold_F : ∀ (r pre : List C2) (u : Slot), pre.Nodup → ∃ v, (kvN r pre.length).foldlM stepF (pre, u) = if (pre ++ r).Nodup then some (pre ++ r, v) else none
  | [], pre, u, h => by
    refine ⟨u, ?_⟩
    rw [List.append_nil, if_pos h]
    rfl
  | c :: r, pre, u, h => by
    show ∃ v, ((c, pre.length) :: kvN r (pre.length + 1)).foldlM stepF (pre, u) = _
    by_cases m : c ∈ pre
    · refine ⟨u, ?_⟩
      rw [if_neg fun z => (List.nodup_append.mp z).2.2 c m c (.head _) rfl, List.foldlM_cons]
      unfold stepF
      rw [if_pos m]
      rfl
    · have hp : (pre ++ [c]).Nodup := List.nodup_append.mpr ⟨h, by simp, fun a ha b hb e => m (by rw [List.mem_singleton] at hb; rw [← hb, ← e]; exact ha)⟩
      obtain ⟨v, hv⟩ := fold_F r (pre ++ [c]) (.d (nD pre.length)) hp
      refine ⟨v, ?_⟩
      rw [List.append_assoc, List.length_append, List.length_singleton] at hv
      rw [List.foldlM_cons]
      show ((stepF (pre, u) (c, pre.length)).bind _) = _
      unfold stepF
      rw [if_neg m]
      exact hv
def bodyF : FS := seqS (ifS (testG (op2 dInU (op2 dIx (slotD 0) (slotD 2)) (slotB 1))) (retS (retG (.bool false))) nextS) (asgV (slotD 2) (subU 1 (op2 dIx (slotD 0) (slotD 2))))
theorem rg_at (l : List C2) {sl : List Slot} {p : PenS} (hl : l.length ≤ 1000) (h : sl[0]? = some (.d (.tuple (cellL l)))) : rgI rg1D (consG (op1 dLenU (slotD 0)) (retG [])) ⟨sl, p⟩ = some (.v ((kvN l 0).map fun q => nD q.2), p) := by
  have z : consG (op1 dLenU (slotD 0)) (retG []) ⟨sl, p⟩ = some (.v [nD l.length], p) := cons_at (len_at l 0 h) rfl
  have e : rg1D [nD l.length] = some ((kvN l 0).map fun q => nD q.2) := by
    show (if okR (l.length : Int) = true then some (rgD 0 (l.length : Int).toNat) else none) = _
    rw [if_pos (by unfold okR; simp only [Bool.and_eq_true, decide_eq_true_eq]; omega), Int.toNat_natCast, rg_kv]
  unfold rgI Fw.bindG
  rw [z]
  dsimp only
  unfold optG
  rw [e]
  rfl
theorem loopF (l : List C2) (hl : l.length ≤ 1000) (p : PenS) : (if l.Nodup then ∃ v, forS (rgI rg1D (consG (op1 dLenU (slotD 0)) (retG []))) (nameT 2) bodyF ⟨[.d (.tuple (cellL l)), .o (.dict (kvD [])), .u, .u, .u, .u], p⟩ = some (.nx, ⟨[.d (.tuple (cellL l)), .o (.dict (kvD (kvN l 0))), v, .u, .u, .u], p⟩)
    else ∃ e', forS (rgI rg1D (consG (op1 dLenU (slotD 0)) (retG []))) (nameT 2) bodyF ⟨[.d (.tuple (cellL l)), .o (.dict (kvD [])), .u, .u, .u, .u], p⟩ = some (.rt (.bool false), e') ∧ e'.pen = p) := by
  have run := forL_may (α := C2 × Nat) (σ := List C2 × Slot) (p := p) (ft := nameT 2) (body := bodyF) (e := fun q => nD q.2) (r := .bool false) (sl := fun s => [.d (.tuple (cellL l)), .o (.dict (kvD (kvN s.1 0))), s.2, .u, .u, .u]) (step := stepF) (fun xs s => ∃ r, xs = kvN r s.1.length ∧ l = s.1 ++ r) (fun q xs s ⟨r, h1, h2⟩ => by
    obtain ⟨c, r, rfl⟩ : ∃ c r', r = c :: r' := by
      cases r with
      | nil => cases h1
      | cons c r => exact ⟨c, r, rfl⟩
    have h1' : q = (c, s.1.length) ∧ xs = kvN r (s.1.length + 1) := by
      injection h1 with a b
      exact ⟨a, b⟩
    obtain ⟨rfl, rfl⟩ := h1'
    have hlen := congrArg List.length h2
    rw [List.length_append, List.length_cons] at hlen
    refine ⟨_, rfl, ?_⟩
    dsimp only
    have ix : op2 dIx (slotD 0) (slotD 2) ⟨[.d (.tuple (cellL l)), .o (.dict (kvD (kvN s.1 0))), .d (nD s.1.length), .u, .u, .u], p⟩ = some (.v (cd c), p) := by
      refine op2_p (a := .tuple (cellL l)) (b := nD s.1.length) rfl rfl ?_
      refine (dIx_cells l s.1.length (by omega)).trans ?_
      congr 2
      simp [h2]
    have tst : testG (op2 dInU (op2 dIx (slotD 0) (slotD 2)) (slotB 1)) ⟨[.d (.tuple (cellL l)), .o (.dict (kvD (kvN s.1 0))), .d (nD s.1.length), .u, .u, .u], p⟩ = some (.v (decide (c ∈ s.1)), p) := test_at (op2_p (a := cd c) (b := .dict (kvD (kvN s.1 0))) ix rfl (dIn_kv _ _))
    unfold stepF
    by_cases m : c ∈ s.1
    · rw [if_pos m]
      refine ⟨⟨[.d (.tuple (cellL l)), .o (.dict (kvD (kvN s.1 0))), .d (nD s.1.length), .u, .u, .u], p⟩, ?_, rfl⟩
      show bodyF ⟨[.d (.tuple (cellL l)), .o (.dict (kvD (kvN s.1 0))), .d (nD s.1.length), .u, .u, .u], p⟩ = _
      unfold bodyF seqS
      rw [if_at tst (r := some (.rt (.bool false), ⟨[.d (.tuple (cellL l)), .o (.dict (kvD (kvN s.1 0))), .d (nD s.1.length), .u, .u, .u], p⟩)) (fun _ => rfl) (fun h => absurd m (of_decide_eq_false h))]
    · rw [if_neg m]
      refine ⟨⟨r, by rw [List.length_append]; rfl, by rw [List.append_assoc]; exact h2⟩, .inl ?_⟩
      show bodyF ⟨[.d (.tuple (cellL l)), .o (.dict (kvD (kvN s.1 0))), .d (nD s.1.length), .u, .u, .u], p⟩ = _
      unfold bodyF
      refine seq_at (if_at tst (fun h => absurd (of_decide_eq_true h) m) (fun _ => rfl)) ?_
      have up := upd_kv 1 c s.1.length (kvN s.1 0) [.d (.tuple (cellL l)), .o (.dict (kvD (kvN s.1 0))), .d (nD s.1.length), .u, .u, .u] (op2 dIx (slotD 0) (slotD 2)) (slotD 2) p rfl ix rfl (by unfold kvN; rw [List.length_zipIdx]; omega)
      rw [kvN_put s.1 c m] at up
      exact up) (kvN l 0) ([], .u) ⟨l, rfl, rfl⟩
  obtain ⟨v, hv⟩ := fold_F l [] .u List.nodup_nil
  rw [List.nil_append, List.length_nil] at hv
  rw [hv] at run
  have start : forS (rgI rg1D (consG (op1 dLenU (slotD 0)) (retG []))) (nameT 2) bodyF ⟨[.d (.tuple (cellL l)), .o (.dict (kvD [])), .u, .u, .u, .u], p⟩ = forL (nameT 2) bodyF ((kvN l 0).map fun q => nD q.2) ⟨[.d (.tuple (cellL l)), .o (.dict (kvD [])), .u, .u, .u, .u], p⟩ := by
    unfold forS thenS
    rw [rg_at l hl rfl]
  rw [start]
  by_cases hn : l.Nodup
  · rw [if_pos hn] at run ⊢
    exact ⟨v, run⟩
  · rw [if_neg hn] at run ⊢
    exact run
/-! the second loop: the numbers of the neighbours -/
def okK (l : List C2) (q : C2 × Nat) : Prop := sortI (nbs l q.1) = due l.length q.2
instance (l : List C2) : DecidablePred (okK l) := fun q => by unfold okK; exact inferInstance
def bodyK : FS := seqS (asgS (op1 dSort (lcG [4] (seqI (callN 1 (defF false 6 F__law_near) (consG (op2 dIx (slotD 0) (slotD 2)) (retG [])))) (nameT 4) (testG (op2 dInU (slotD 4) (slotB 1))) (op2 dGetU (slotB 1) (slotD 4)))) (nameT 3))
  (ifS (testG (op2 dNe (slotD 3) (lcG [5] (seqI (lstG (consG (op2 dSub (slotD 2) (retG (.int 1))) (consG (op2 dAdd (slotD 2) (retG (.int 1))) (retG []))))) (nameT 5) (testG (chainG dLe dLt (retG (.int 0)) (slotD 5) (op1 dLenU (slotD 0)))) (slotD 5)))) (retS (retG (.bool false))) nextS)
theorem turnK (l : List C2) (q : C2 × Nat) (hq : q ∈ kvN l 0) (u : Slot) (p : PenS) : (if okK l q then bodyK ⟨[.d (.tuple (cellL l)), .o (.dict (kvD (kvN l 0))), .d (nD q.2), u, .u, .u], p⟩ = some (.nx, ⟨[.d (.tuple (cellL l)), .o (.dict (kvD (kvN l 0))), .d (nD q.2), .d (.list ((sortI (nbs l q.1)).map PyData.int)), .u, .u], p⟩)
    else ∃ e', bodyK ⟨[.d (.tuple (cellL l)), .o (.dict (kvD (kvN l 0))), .d (nD q.2), u, .u, .u], p⟩ = some (.rt (.bool false), e') ∧ e'.pen = p) := by
  have near : op1 dSort (lcG [4] (seqI (callN 1 (defF false 6 F__law_near) (consG (op2 dIx (slotD 0) (slotD 2)) (retG [])))) (nameT 4) (testG (op2 dInU (slotD 4) (slotB 1))) (op2 dGetU (slotB 1) (slotD 4))) ⟨[.d (.tuple (cellL l)), .o (.dict (kvD (kvN l 0))), .d (nD q.2), u, .u, .u], p⟩ = some (.v (.list ((sortI (nbs l q.1)).map PyData.int)), p) := by
    have it : seqI (callN 1 (defF false 6 F__law_near) (consG (op2 dIx (slotD 0) (slotD 2)) (retG []))) ⟨[.d (.tuple (cellL l)), .o (.dict (kvD (kvN l 0))), .d (nD q.2), u, .u, .u], p⟩ = some (.v ((near8 q.1).map cd), p) := by
      refine seqI_at (callN_at (ds := [cd q.1]) (cons_at (op2_p (a := .tuple (cellL l)) (b := nD q.2) rfl rfl (dIx_kv hq)) rfl) rfl (v_law_near q.1)) rfl
    have lc := lcG_of (p := p) (sl := [.d (.tuple (cellL l)), .o (.dict (kvD (kvN l 0))), .d (nD q.2), u, .u, .u]) (vs := [4]) (ft := nameT 4) (test := testG (op2 dInU (slotD 4) (slotB 1))) (elt := op2 dGetU (slotB 1) (slotD 4)) (e := cd) (t := fun n => decide (n ∈ l)) (g := fun n => nD (l.idxOf n)) (xs := near8 q.1) it rfl (by show 8 ≤ _; omega) (fun n _ => ⟨_, rfl, test_at (op2_p (a := cd n) (b := .dict (kvD (kvN l 0))) rfl rfl (dIn_kv n l)), fun h => op2_p (a := .dict (kvD (kvN l 0))) (b := cd n) rfl rfl (dGet_kv (of_decide_eq_true h))⟩)
    refine op1_at lc ?_
    have e : ((near8 q.1).filter fun n => decide (n ∈ l)).map (fun n => nD (l.idxOf n)) = (nbs l q.1).map PyData.int := by
      unfold nbs
      rw [List.map_map]
      rfl
    rw [e, sort_int]
  have dueE : lcG [5] (seqI (lstG (consG (op2 dSub (slotD 2) (retG (.int 1))) (consG (op2 dAdd (slotD 2) (retG (.int 1))) (retG []))))) (nameT 5) (testG (chainG dLe dLt (retG (.int 0)) (slotD 5) (op1 dLenU (slotD 0)))) (slotD 5) ⟨[.d (.tuple (cellL l)), .o (.dict (kvD (kvN l 0))), .d (nD q.2), .d (.list ((sortI (nbs l q.1)).map PyData.int)), .u, .u], p⟩ = some (.v (.list ((due l.length q.2).map PyData.int)), p) := by
    refine lcG_of (p := p) (e := PyData.int) (t := fun m => decide (0 ≤ m ∧ m < (l.length : Int))) (g := PyData.int) (xs := [(q.2 : Int) - 1, (q.2 : Int) + 1]) rfl rfl (by show 2 ≤ 1000000; omega) (fun m _ => ⟨_, rfl, test_at ?_, fun _ => rfl⟩)
    have ch := chain_at (sl := [.d (.tuple (cellL l)), .o (.dict (kvD (kvN l 0))), .d (nD q.2), .d (.list ((sortI (nbs l q.1)).map PyData.int)), .u, .d (.int m)]) (p := p) (φ := dLe) (ψ := dLt) (f := retG (.int 0)) (g := slotD 5) (h := op1 dLenU (slotD 0)) (a := .int 0) (b := .int m) (c := nD l.length) (k := decide (0 ≤ m)) (m := decide (m < (l.length : Int))) rfl rfl (len_at l 0 rfl) rfl rfl
    rw [← Bool.decide_and] at ch
    exact ch
  have tst : testG (op2 dNe (slotD 3) (lcG [5] (seqI (lstG (consG (op2 dSub (slotD 2) (retG (.int 1))) (consG (op2 dAdd (slotD 2) (retG (.int 1))) (retG []))))) (nameT 5) (testG (chainG dLe dLt (retG (.int 0)) (slotD 5) (op1 dLenU (slotD 0)))) (slotD 5))) ⟨[.d (.tuple (cellL l)), .o (.dict (kvD (kvN l 0))), .d (nD q.2), .d (.list ((sortI (nbs l q.1)).map PyData.int)), .u, .u], p⟩ = some (.v (!decide (okK l q)), p) :=
    test_at (op2_p (a := .list ((sortI (nbs l q.1)).map PyData.int)) rfl dueE (dNe_toD (α := List Int) (by decide) (sortI (nbs l q.1)) (due l.length q.2)))
  by_cases ok : okK l q
  · rw [if_pos ok]
    unfold bodyK
    exact seq_at (asg_at 3 near) (if_at tst (fun h => by rw [decide_eq_true ok] at h; cases h) (fun _ => rfl))
  · rw [if_neg ok]
    refine ⟨⟨[.d (.tuple (cellL l)), .o (.dict (kvD (kvN l 0))), .d (nD q.2), .d (.list ((sortI (nbs l q.1)).map PyData.int)), .u, .u], p⟩, ?_, rfl⟩
    unfold bodyK
    exact seq_at (asg_at 3 near) (if_at tst (fun _ => rfl) (fun h => by rw [decide_eq_false ok] at h; cases h))
theorem loopK (l : List C2) (hl : l.length ≤ 1000) (v : Slot) (p : PenS) : (if (∀ q ∈ kvN l 0, okK l q) then ∃ e', forS (rgI rg1D (consG (op1 dLenU (slotD 0)) (retG []))) (nameT 2) bodyK ⟨[.d (.tuple (cellL l)), .o (.dict (kvD (kvN l 0))), v, .u, .u, .u], p⟩ = some (.nx, e') ∧ e'.pen = p
    else ∃ e', forS (rgI rg1D (consG (op1 dLenU (slotD 0)) (retG []))) (nameT 2) bodyK ⟨[.d (.tuple (cellL l)), .o (.dict (kvD (kvN l 0))), v, .u, .u, .u], p⟩ = some (.rt (.bool false), e') ∧ e'.pen = p) := by
  have run := forL_may (α := C2 × Nat) (σ := Slot × Slot) (p := p) (ft := nameT 2) (body := bodyK) (e := fun q => nD q.2) (r := .bool false) (sl := fun s => [.d (.tuple (cellL l)), .o (.dict (kvD (kvN l 0))), s.1, s.2, .u, .u]) (step := fun s q => if okK l q then some (.d (nD q.2), .d (.list ((sortI (nbs l q.1)).map PyData.int))) else none) (fun xs s => ∀ q ∈ xs, q ∈ kvN l 0) (fun q xs s hx => by
    refine ⟨_, rfl, ?_⟩
    have t := turnK l q (hx q (.head _)) s.2 p
    by_cases ok : okK l q
    · rw [if_pos ok] at t ⊢
      exact ⟨fun z hz => hx z (.tail _ hz), .inl t⟩
    · rw [if_neg ok] at t ⊢
      exact t) (kvN l 0) (v, .u) (fun q h => h)
  rw [foldlM_ok (ok := okK l) (fun s x => rfl)] at run
  have start : forS (rgI rg1D (consG (op1 dLenU (slotD 0)) (retG []))) (nameT 2) bodyK ⟨[.d (.tuple (cellL l)), .o (.dict (kvD (kvN l 0))), v, .u, .u, .u], p⟩ = forL (nameT 2) bodyK ((kvN l 0).map fun q => nD q.2) ⟨[.d (.tuple (cellL l)), .o (.dict (kvD (kvN l 0))), v, .u, .u, .u], p⟩ := by
    unfold forS thenS
    rw [rg_at l hl rfl]
  rw [start]
  by_cases hk : ∀ q ∈ kvN l 0, okK l q
  · rw [if_pos hk] at run ⊢
    exact ⟨_, run, rfl⟩
  · rw [if_neg hk] at run ⊢
    exact run
theorem sortI_pw' (xs : List Int) : (sortI xs).Pairwise (· ≤ ·) := by
  induction xs with
  | nil => exact List.Pairwise.nil
  | cons x xs ih => exact insI_pw ih
theorem sortI_pm (xs : List Int) : (sortI xs).Perm xs := by
  induction xs with
  | nil => exact .refl _
  | cons x xs ih => exact insI_perm.trans (ih.cons x)
theorem law_kv (l : List C2) : (∀ q ∈ kvN l 0, okK l q) ↔ lawP sortI l := by
  constructor
  · intro h k hk
    refine h (l[k], k) ?_
    unfold kvN
    exact List.mk_mem_zipIdx_iff_getElem?.mpr (List.getElem?_eq_getElem hk)
  · intro h q hq
    obtain ⟨c, i⟩ := q
    unfold kvN at hq
    obtain ⟨hi, hc⟩ := List.getElem?_eq_some_iff.mp (List.mk_mem_zipIdx_iff_getElem?.mp hq)
    subst hc
    exact h i hi
theorem law_same {l : List C2} (hn : l.Nodup) (h0 : l ≠ []) : lawP sortI l ↔ progP l := (Sc.law_iff sortI_pm sortI_pw' hn).trans (Sc.prog_iff hn h0).symm
theorem filt_rep {α : Type} (f : α → Bool) (x : D) (xs : List α) : (xs.filter f).map (fun _ => x) = List.replicate (xs.countP f) x := by
  rw [List.map_const', List.countP_eq_length_filter]
theorem v_law_is_path (is : List It) (hl : is.length ≤ 1000) (p : PenS) : defF false 6 F__law_is_path [.tuple (is.map It.d)] p = some (.v (.bool (pathI is)), p) := by
  have cnd : (orG (notG (testG (isiG .tuple (slotD 0)))) (orG (testG (op2 dEq (slotD 0) (tupG (retG [])))) (testG (op2 dNe (lcG [4] (seqI (slotD 0)) (nameT 4) (notG (testG (callN 1 (defF false 1 F__law_is_cell) (consG (slotD 4) (retG []))))) (retG (.int 1))) (lstG (retG [])))))) ⟨[.d (.tuple (is.map It.d)), .u, .u, .u, .u, .u], p⟩ = some (.v (is.isEmpty || !is.all It.isC), p) := by
    have lc := lcG_of (p := p) (sl := [.d (.tuple (is.map It.d)), .u, .u, .u, .u, .u]) (vs := [4]) (fi := seqI (slotD 0)) (ft := nameT 4) (test := notG (testG (callN 1 (defF false 1 F__law_is_cell) (consG (slotD 4) (retG []))))) (elt := retG (.int 1)) (e := It.d) (t := fun i => !i.isC) (g := fun _ => PyData.int 1) (xs := is) rfl rfl (by omega) (fun i _ => ⟨_, rfl, law_item i _ p rfl, fun _ => rfl⟩)
    rw [filt_rep] at lc
    have third := test_at (op2_p lc (g := lstG (retG [])) (b := .list []) rfl (ones_ne _))
    have second := test_at (op2_p (sl := [.d (.tuple (is.map It.d)), .u, .u, .u, .u, .u]) (p := p) (f := slotD 0) (g := tupG (retG [])) (a := .tuple (is.map It.d)) (b := .tuple []) rfl rfl (eq_unit is))
    have first : notG (testG (isiG .tuple (slotD 0))) ⟨[.d (.tuple (is.map It.d)), .u, .u, .u, .u, .u], p⟩ = some (.v false, p) := rfl
    refine orG_at first (fun h => by cases h) (fun _ => orG_at second (fun h => by rw [h]; rfl) (fun h => ?_))
    rw [third, h, Bool.false_or]
    congr 3
    congr 1
    rw [Bool.eq_iff_iff, decide_eq_true_eq, List.countP_eq_zero, List.all_eq_true]
    exact ⟨fun h x hx => by simpa using h x hx, fun h x hx => by simpa using h x hx⟩
  have h : ∃ e', F__law_is_path ⟨[.d (.tuple (is.map It.d)), .u, .u, .u, .u, .u], p⟩ = some (.rt (.bool (pathI is)), e') ∧ e'.pen = p := by
    by_cases hb : is.isEmpty = false ∧ is.all It.isC = true
    · obtain ⟨hb1, hb2⟩ := hb
      obtain ⟨e1, e2⟩ := cells_d is hb2
      rw [hb1, hb2] at cnd
      unfold pathI
      rw [hb2, Bool.true_and]
      rw [e1] at cnd ⊢
      have hl2 : (cellsOf is).length ≤ 1000 := by omega
      have h0 : cellsOf is ≠ [] := fun z => by
        rw [z] at e2
        cases is with
        | nil => cases hb1
        | cons _ _ => simp at e2
      generalize cellsOf is = l at *
      have f1 := loopF l hl2 p
      have go : ∀ r, seqS (forS (rgI rg1D (consG (op1 dLenU (slotD 0)) (retG []))) (nameT 2) bodyF) (seqS (forS (rgI rg1D (consG (op1 dLenU (slotD 0)) (retG []))) (nameT 2) bodyK) (retS (retG (.bool true)))) ⟨[.d (.tuple (cellL l)), .o (.dict (kvD [])), .u, .u, .u, .u], p⟩ = r → F__law_is_path ⟨[.d (.tuple (cellL l)), .u, .u, .u, .u, .u], p⟩ = r := fun r hr => by
        unfold F__law_is_path
        exact (seq_at (e1 := ⟨[.d (.tuple (cellL l)), .u, .u, .u, .u, .u], p⟩) (if_at cnd (fun h => by cases h) (fun _ => rfl)) (seq_at (e1 := ⟨[.d (.tuple (cellL l)), .o (.dict (kvD [])), .u, .u, .u, .u], p⟩) rfl hr))
      by_cases hn : l.Nodup
      · rw [if_pos hn] at f1
        obtain ⟨v, f1⟩ := f1
        have f2 := loopK l hl2 v p
        by_cases hk : ∀ q ∈ kvN l 0, okK l q
        · rw [if_pos hk] at f2
          obtain ⟨e', f2, f3⟩ := f2
          have pt : pathB l = true := decide_eq_true ⟨h0, hn, (law_same hn h0).mp ((law_kv l).mp hk)⟩
          rw [pt]
          exact ⟨e', go _ (seq_at f1 (seq_at f2 (by rfl))), f3⟩
        · rw [if_neg hk] at f2
          obtain ⟨e', f2, f3⟩ := f2
          have pt : pathB l = false := decide_eq_false fun z => hk ((law_kv l).mpr ((law_same hn h0).mpr z.2.2))
          rw [pt]
          refine ⟨e', go _ (seq_at f1 ?_), f3⟩
          unfold seqS
          rw [f2]
      · rw [if_neg hn] at f1
        obtain ⟨e', f1, f3⟩ := f1
        have pt : pathB l = false := decide_eq_false fun z => hn z.2.1
        rw [pt]
        refine ⟨e', go _ ?_, f3⟩
        unfold seqS
        rw [f1]
    · have hc : (is.isEmpty || !is.all It.isC) = true := by
        cases h1 : is.isEmpty with
        | true => rfl
        | false => cases h2 : is.all It.isC with
          | false => rfl
          | true => exact absurd ⟨h1, h2⟩ hb
      have pt : pathI is = false := by
        unfold pathI
        cases is with
        | nil => rfl
        | cons a r =>
          rw [List.isEmpty_cons, Bool.false_or] at hc
          cases h2 : (a :: r).all It.isC with
          | false => rfl
          | true => rw [h2] at hc; cases hc
      rw [hc] at cnd
      rw [pt]
      refine ⟨⟨[.d (.tuple (is.map It.d)), .u, .u, .u, .u, .u], p⟩, ?_, rfl⟩
      unfold F__law_is_path
      unfold seqS
      rw [if_at cnd (r := some (.rt (.bool false), ⟨[.d (.tuple (is.map It.d)), .u, .u, .u, .u, .u], p⟩)) (fun _ => rfl) (fun h => by cases h)]
  obtain ⟨e', h1, h2⟩ := h
  exact (ofFl_rt h1).trans (by rw [h2])
theorem v_law_is_path_lst (ds : List D) (p : PenS) : defF false 6 F__law_is_path [.list ds] p = some (.v (.bool false), p) := rfl
end Sb

set_option linter.all false
set_option maxRecDepth 100000
set_option maxHeartbeats 8000000
/-! padded wires -/
namespace Sb
open PySem PySem.Spec PyProof.Rows L2 Fw
open PySem.W (Datum DatumOrd Tup)
open Sc (C2 ahead near8 progP bumpN Beg Padded wide)
def mostN (w h : Int) : Int := if w < 2 ∨ h < 3 then 0 else (2 * h - 4) * (w - 2).fdiv (2 * h)
theorem mul_small (a b : Int) (h : small a = true ∨ small b = true) : dMulU (.int a) (.int b) = some (.int (a * b)) := by
  show (if (small a || small b) = true then some (PyData.int (a * b)) else none) = _
  rw [if_pos (by rcases h with h | h <;> rw [h] <;> simp)]
theorem small_of {a : Int} (h1 : -1000000 < a) (h2 : a < 1000000) : small a = true := by
  unfold small
  have e : (2 : Int) ^ 64 = 18446744073709551616 := by decide
  rw [e, decide_eq_true (by omega), decide_eq_true (by omega)]
  rfl
theorem most_val (w h : Int) (h1 : -1000 < h) (h2 : h < 1000) (h3 : h ≠ 0) (sl : List Slot) (p : PenS) (s0 : sl[0]? = some (.d (.int w))) (s1 : sl[1]? = some (.d (.int h))) :
    op2 dMulU (op2 dSub (op2 dMulU (retG (.int 2)) (slotD 1)) (retG (.int 4))) (op2 dDiv (op2 dSub (slotD 0) (retG (.int 2))) (op2 dMulU (retG (.int 2)) (slotD 1))) ⟨sl, p⟩ = some (.v (.int ((2 * h - 4) * (w - 2).fdiv (2 * h))), p) := by
  have a0 : slotD 0 ⟨sl, p⟩ = some (.v (.int w), p) := by unfold slotD; rw [s0]
  have a1 : slotD 1 ⟨sl, p⟩ = some (.v (.int h), p) := by unfold slotD; rw [s1]
  refine op2_p (a := .int (2 * h - 4)) (b := .int ((w - 2).fdiv (2 * h))) (op2_p (a := .int (2 * h)) (b := .int 4) (op2_p (a := .int 2) (b := .int h) rfl a1 (mul_small _ _ (.inl (small_of (by omega) (by omega))))) rfl rfl) (op2_p (a := .int (w - 2)) (b := .int (2 * h)) (op2_p (a := .int w) (b := .int 2) a0 rfl rfl) (op2_p (a := .int 2) (b := .int h) rfl a1 (mul_small _ _ (.inl (small_of (by omega) (by omega))))) ?_) (mul_small _ _ (.inl (small_of (by omega) (by omega))))
  show (if 2 * h ≠ 0 ∧ (2 * h).natAbs < 1073741824 then some (PyData.int ((w - 2).fdiv (2 * h))) else none) = _
  rw [if_pos ⟨by omega, by omega⟩]
theorem most_if (w h : Int) (sl : List Slot) (p : PenS) (s0 : sl[0]? = some (.d (.int w))) (s1 : sl[1]? = some (.d (.int h))) : orG (testG (op2 dLt (slotD 0) (retG (.int 2)))) (testG (op2 dLt (slotD 1) (retG (.int 3)))) ⟨sl, p⟩ = some (.v (decide (w < 2 ∨ h < 3)), p) := by
  have a0 : slotD 0 ⟨sl, p⟩ = some (.v (.int w), p) := by unfold slotD; rw [s0]
  have a1 : slotD 1 ⟨sl, p⟩ = some (.v (.int h), p) := by unfold slotD; rw [s1]
  refine orG_at (test_at (op2_p (φ := dLt) (a := .int w) (b := .int 2) a0 rfl rfl)) (fun h' => ?_) (fun h' => (test_at (op2_p (φ := dLt) (a := .int h) (b := .int 3) a1 rfl rfl)).trans ?_)
  · rw [decide_eq_true (.inl (of_decide_eq_true h'))]
  · have := of_decide_eq_false h'
    congr 3
    exact decide_eq_decide.mpr ⟨.inr, fun z => z.elim (fun z => absurd z this) id⟩
theorem v_most (w h : Int) (h1 : -1000 < h) (h2 : h < 1000) (p : PenS) : defF false 2 F_most_extra [.int w, .int h] p = some (.v (.int (mostN w h)), p) := by
  have h : F_most_extra ⟨[.d (.int w), .d (.int h)], p⟩ = some (.rt (.int (mostN w h)), ⟨[.d (.int w), .d (.int h)], p⟩) := by
    unfold F_most_extra mostN
    by_cases c : w < 2 ∨ h < 3
    · rw [if_pos c]
      unfold seqS
      rw [if_at (most_if w h _ p rfl rfl) (r := some (.rt (.int 0), ⟨[.d (.int w), .d (.int h)], p⟩)) (fun _ => rfl) (fun z => absurd c (of_decide_eq_false z))]
    · rw [if_neg c]
      exact seq_at (if_at (most_if w h _ p rfl rfl) (fun z => absurd (of_decide_eq_true z) c) (fun _ => rfl)) (ret_at (most_val w h h1 h2 (by omega) _ p rfl rfl))
  exact ofFl_rt h
theorem v_law_most (w h : Int) (h1 : -1000 < h) (h2 : h < 1000) (p : PenS) : defF false 2 F__law_most [.int w, .int h] p = some (.v (.int (mostN w h)), p) := by
  have h : F__law_most ⟨[.d (.int w), .d (.int h)], p⟩ = some (.rt (.int (mostN w h)), ⟨[.d (.int w), .d (.int h)], p⟩) := by
    unfold F__law_most mostN
    by_cases c : w < 2 ∨ h < 3
    · rw [if_pos c]
      unfold seqS
      rw [if_at (most_if w h _ p rfl rfl) (r := some (.rt (.int 0), ⟨[.d (.int w), .d (.int h)], p⟩)) (fun _ => rfl) (fun z => absurd c (of_decide_eq_false z))]
    · rw [if_neg c]
      exact seq_at (if_at (most_if w h _ p rfl rfl) (fun z => absurd (of_decide_eq_true z) c) (fun _ => rfl)) (ret_at (most_val w h h1 h2 (by omega) _ p rfl rfl))
  exact ofFl_rt h
/-- how many bumps there is room for -/
theorem most_room {w h : Int} (hw : 2 ≤ w) (h0 : 0 ≤ h) : ∃ k : Nat, mostN w h = ((2 * h - 4).toNat * k : Nat) ∧ 5 * (k : Int) + 2 ≤ w ∧ (k = 0 ∨ 3 ≤ h) ∧ mostN w h ≤ w - 2 := by
  unfold mostN
  by_cases c : w < 2 ∨ h < 3
  · rw [if_pos c]
    exact ⟨0, by rw [Nat.mul_zero]; rfl, by omega, .inl rfl, by omega⟩
  · rw [if_neg c]
    have hf : (w - 2).fdiv (2 * h) = (w - 2) / (2 * h) := Int.fdiv_eq_ediv_of_nonneg _ (by omega)
    have h1 := Int.mul_ediv_self_le (x := w - 2) (k := 2 * h) (by omega)
    have h2 : 0 ≤ (w - 2) / (2 * h) := Int.ediv_nonneg (by omega) (by omega)
    rw [hf]
    obtain ⟨k, hk⟩ : ∃ k : Nat, (w - 2) / (2 * h) = (k : Int) := ⟨((w - 2) / (2 * h)).toNat, by omega⟩
    rw [hk] at h1 ⊢
    have h3 : 6 * (k : Int) ≤ 2 * h * (k : Int) := Int.mul_le_mul_of_nonneg_right (by omega) (by omega)
    have h4 : (2 * h - 4) * (k : Int) = 2 * h * (k : Int) - 4 * (k : Int) := Int.sub_mul ..
    refine ⟨k, ?_, by omega, .inr (by omega), by omega⟩
    rw [Int.natCast_mul, Int.toNat_of_nonneg (by omega)]
/-! ### the bumps -/
theorem v_bump (x : Int) (p : PenS) : ∀ e : Nat, 1 ≤ e → e < 21 → defF false 5 F__bump [.int x, nD e] p = some (.v (.list (cellL (bumpN x e))), p)
  | 0, h, _ => by omega
  | 1, _, _ => by kernel_rfl
  | 2, _, _ => by kernel_rfl
  | 3, _, _ => by kernel_rfl
  | 4, _, _ => by kernel_rfl
  | 5, _, _ => by kernel_rfl
  | 6, _, _ => by kernel_rfl
  | 7, _, _ => by kernel_rfl
  | 8, _, _ => by kernel_rfl
  | 9, _, _ => by kernel_rfl
  | 10, _, _ => by kernel_rfl
  | 11, _, _ => by kernel_rfl
  | 12, _, _ => by kernel_rfl
  | 13, _, _ => by kernel_rfl
  | 14, _, _ => by kernel_rfl
  | 15, _, _ => by kernel_rfl
  | 16, _, _ => by kernel_rfl
  | 17, _, _ => by kernel_rfl
  | 18, _, _ => by kernel_rfl
  | 19, _, _ => by kernel_rfl
  | 20, _, _ => by kernel_rfl
  | n + 21, _, h => by omega
theorem last_at (pre : List C2) (c : C2) : dIx (.list (cellL (pre ++ [c]))) (.int (-1)) = some (cd c) := by
  show L2.atI (cellL (pre ++ [c])) (-1) = _
  unfold L2.atI ixN cellL
  rw [List.length_map, List.length_append, List.length_singleton, if_neg (by omega), if_pos (by omega)]
  show ((pre ++ [c]).map cd)[((-1 : Int) + ((pre.length + 1 : Nat) : Int)).toNat]? = _
  rw [show ((-1 : Int) + ((pre.length + 1 : Nat) : Int)).toNat = pre.length by omega, List.getElem?_map, List.getElem?_append_right (Nat.le_refl _), Nat.sub_self]
  rfl
theorem ext_at {i : Nat} {f : FG D} {sl : List Slot} {p : PenS} {ds es : List D} (hs : sl[i]? = some (.o (.list ds))) (hf : f ⟨sl, p⟩ = some (.v (.list es), p)) (hl : ds.length + es.length ≤ 1000000) : extS i f ⟨sl, p⟩ = some (.nx, ⟨sl.set i (.o (.list (ds ++ es))), p⟩) := by
  have ho : ownL i ⟨sl, p⟩ = some ds := by unfold ownL; rw [hs]
  unfold extS
  rw [ho]
  dsimp only [Option.bind_some]
  unfold thenS
  rw [hf]
  dsimp only
  rw [ho]
  dsimp only [Option.bind_some]
  unfold few
  rw [if_pos (by rw [List.length_append]; exact hl)]
def bodyB : FS := seqS (asgS (op2 dMin2 (slotD 2) (op2 dSub (op2 dMulU (retG (.int 2)) (slotD 1)) (retG (.int 4)))) (nameT 4))
  (seqS (extS 3 (callN 2 (defF false 5 F__bump) (consG (op2 dIx (op2 dIx (slotB 3) (op1 dNeg (retG (.int 1)))) (retG (.int 0))) (consG (slotD 4) (retG [])))))
  (asgS (op2 (dI fun i j => i - j) (slotD 2) (slotD 4)) (nameT 2)))
def slB (w h : Int) (e : Nat) (l : List C2) (m : Slot) : List Slot := [.d (.int w), .d (.int h), .d (nD e), .o (.list (cellL l)), m, .u]
theorem turnB {w h x : Int} {l : List C2} {a : Nat} (e m : Nat) (hm : (m : Int) = 2 * h - 4) (h3 : 3 ≤ h) (h12 : h ≤ 12) (B : Beg h l x a) (he : 0 < e) (hl : l.length ≤ 1000) (u : Slot) (p : PenS) :
    bodyB ⟨slB w h e l u, p⟩ = some (.nx, ⟨slB w h (e - min e m) (l ++ bumpN x (min e m)) (.d (nD (min e m))), p⟩) := by
  obtain ⟨pre, ep, _⟩ := B.lst
  obtain ⟨q, hq⟩ : ∃ q, q = min e m := ⟨_, rfl⟩
  rw [← hq]
  have q1 : 1 ≤ q := by omega
  have q2 : q < 21 := by omega
  unfold bodyB
  refine seq_at (e1 := ⟨slB w h e l (.d (nD q)), p⟩) ?_ (seq_at (e1 := ⟨slB w h e (l ++ bumpN x q) (.d (nD q)), p⟩) ?_ ?_)
  · refine asg_at (x := nD q) 4 (op2_p (a := nD e) (b := .int (2 * h - 4)) rfl (op2_p (a := .int (2 * h)) (b := .int 4) (op2_p (a := .int 2) (b := .int h) rfl rfl (mul_small _ _ (.inl (small_of (by omega) (by omega))))) rfl rfl) ?_)
    show some (PyData.int (if 2 * h - 4 < (e : Int) then 2 * h - 4 else (e : Int))) = some (PyData.int (q : Int))
    congr 2
    split <;> omega
  · have b := v_bump x
    have f := Sc.bump_facts q1 q2 x
    have w6 : wide q ≤ 5 := by unfold wide; omega
    have ex := ext_at (i := 3) (sl := slB w h e l (.d (nD q))) (p := p) (ds := cellL l) (es := cellL (bumpN x q)) (f := callN 2 (defF false 5 F__bump) (consG (op2 dIx (op2 dIx (slotB 3) (op1 dNeg (retG (.int 1)))) (retG (.int 0))) (consG (slotD 4) (retG [])))) rfl (callN_at (ds := [.int x, nD q]) (cons_at (op2_p (a := cd (x, 0)) (b := .int 0) (op2_p (a := .list (cellL l)) (b := .int (-1)) rfl rfl (by rw [ep]; exact last_at pre (x, 0))) rfl rfl) rfl) rfl (fun p => v_bump x p q q1 q2)) (by
      unfold cellL
      rw [List.length_map, List.length_map]
      have := f.2.2.2
      omega)
    refine ex.trans ?_
    unfold cellL slB cellL
    rw [List.map_append]
    rfl
  · refine asg_at (x := nD (e - q)) 2 (op2_p (a := nD e) (b := nD q) rfl rfl ?_)
    show some (PyData.int ((e : Int) - (q : Int))) = some (PyData.int ((e - q : Nat) : Int))
    congr 2
    omega
def condB : FG Bool := testG (op2 dGt (slotD 2) (retG (.int 0)))
theorem cond_at (w h : Int) (e : Nat) (l : List C2) (u : Slot) (p : PenS) : condB ⟨slB w h e l u, p⟩ = some (.v (decide (0 < e)), p) := by
  refine (test_at (op2_p (φ := dGt) (a := nD e) (b := .int 0) rfl rfl rfl)).trans ?_
  congr 3
  exact decide_eq_decide.mpr (by omega)
theorem while_go {c : FG Bool} {body : FS} {sl sl' : List Slot} {p : PenS} (n : Nat) (h : c ⟨sl, p⟩ = some (.v true, p)) (h1 : body ⟨sl, p⟩ = some (.nx, ⟨sl', p⟩)) : whileL c body (n + 1) ⟨sl, p⟩ = whileL c body n ⟨sl', p⟩ := by
  conv => lhs; unfold whileL
  rw [h]
  dsimp only
  rw [h1]
theorem while_end {c : FG Bool} {body : FS} {sl : List Slot} {p : PenS} (n : Nat) (h : c ⟨sl, p⟩ = some (.v false, p)) : whileL c body (n + 1) ⟨sl, p⟩ = some (.nx, ⟨sl, p⟩) := by
  unfold whileL
  rw [h]
theorem loopB {w h : Int} (m : Nat) (h0 : 0 ≤ h) (hm : (m : Int) = 2 * h - 4 ∨ h < 3) (h12 : h ≤ 12) (hw : w ≤ 100) : ∀ (k e : Nat) (x : Int) (l : List C2) (a n : Nat) (u : Slot), Beg h l x a → e ≤ m * k → x + 1 + 5 * k ≤ w → (k = 0 ∨ 3 ≤ h) → a + e ≤ 100 → k < n →
    ∃ l' x', Beg h l' x' (a + e) ∧ x' + 1 ≤ w ∧ ∃ u', ∀ p, whileL condB bodyB n ⟨slB w h e l u, p⟩ = some (.nx, ⟨slB w h 0 l' u', p⟩)
  | 0, e, x, l, a, n, u, B, he, hx, _, ha, hn => by
    have e0 : e = 0 := by rw [Nat.mul_zero] at he; omega
    subst e0
    obtain ⟨n, rfl⟩ : ∃ n', n = n' + 1 := ⟨n - 1, by omega⟩
    exact ⟨l, x, B, by omega, u, fun p => while_end n (cond_at w h 0 l u p)⟩
  | k + 1, e, x, l, a, n, u, B, he, hx, h3, ha, hn => by
    obtain ⟨n, rfl⟩ : ∃ n', n = n' + 1 := ⟨n - 1, by omega⟩
    have h3 : 3 ≤ h := by omega
    have hm : (m : Int) = 2 * h - 4 := by omega
    by_cases e0 : e = 0
    · subst e0
      exact ⟨l, x, B, by omega, u, fun p => while_end n (cond_at w h 0 l u p)⟩
    · have q1 : 1 ≤ min e m := by omega
      have q2 : min e m < 21 := by omega
      have w5 : wide (min e m) ≤ 5 := by unfold wide; omega
      have B2 := B.bump q1 q2 (by omega)
      rw [Nat.mul_succ] at he
      have hl : l.length ≤ 1000 := by have := B.len; omega
      obtain ⟨l', x', B3, hx3, u', hu⟩ := loopB m h0 (.inl hm) h12 hw k (e - min e m) _ _ _ n (.d (nD (min e m))) B2 (by omega) (by omega) (.inr h3) (by omega) (by omega)
      have ea : a + min e m + (e - min e m) = a + e := by omega
      rw [ea] at B3
      refine ⟨l', x', B3, hx3, u', fun p => ?_⟩
      rw [while_go n ((cond_at w h e l u p).trans (by rw [decide_eq_true (by omega)])) (turnB e m hm h3 h12 B (by omega) hl u p)]
      exact hu p
theorem v_bumped {w h : Int} (hw : 2 ≤ w) (hw2 : w ≤ 100) (h0 : 0 ≤ h) (h12 : h ≤ 12) (e : Nat) (he : (e : Int) ≤ mostN w h) : ∃ l, Padded w h e l ∧ ∀ p, defF false 6 F__bumped [.int w, .int h, nD e] p = some (.v (.tuple (cellL l)), p) := by
  obtain ⟨k, k1, k2, k3, k4⟩ := most_room hw h0
  have hm : (((2 * h - 4).toNat : Nat) : Int) = 2 * h - 4 ∨ h < 3 := by omega
  obtain ⟨l', x', B, hx, u', hu⟩ := loopB (2 * h - 4).toNat h0 hm h12 hw2 k e 1 [(0, 0), (1, 0)] 0 100000 .u (Sc.beg0 h0) (by omega) (by omega) k3 (by omega) (by omega)
  rw [Nat.zero_add] at B
  refine ⟨_, Beg.padded h0 B hx, fun p => ?_⟩
  have len := B.len
  obtain ⟨pre, ep, _⟩ := B.lst
  have run : F__bumped ⟨[.d (.int w), .d (.int h), .d (nD e), .u, .u, .u], p⟩ = some (.rt (.tuple (cellL (l' ++ Sc.rest x' (w - x').toNat))), ⟨slB w h 0 (l' ++ Sc.rest x' (w - x').toNat) u', p⟩) := by
    unfold F__bumped
    refine seq_at (e1 := ⟨slB w h e [(0, 0), (1, 0)] .u, p⟩) rfl (seq_at (hu p) (seq_at (e1 := ⟨slB w h 0 (l' ++ Sc.rest x' (w - x').toNat) u', p⟩) ?_ rfl))
    have rg : rgI rg2D (consG (op2 dAdd (op2 dIx (op2 dIx (slotB 3) (op1 dNeg (retG (.int 1)))) (retG (.int 0))) (retG (.int 1))) (consG (op2 dAdd (slotD 0) (retG (.int 1))) (retG []))) ⟨slB w h 0 l' u', p⟩ = some (.v ((List.range (w - x').toNat).map fun (k : Nat) => PyData.int (x' + 1 + (k : Int))), p) := by
      have z : consG (op2 dAdd (op2 dIx (op2 dIx (slotB 3) (op1 dNeg (retG (.int 1)))) (retG (.int 0))) (retG (.int 1))) (consG (op2 dAdd (slotD 0) (retG (.int 1))) (retG [])) ⟨slB w h 0 l' u', p⟩ = some (.v [.int (x' + 1), .int (w + 1)], p) :=
        cons_at (op2_p (a := .int x') (b := .int 1) (op2_p (a := cd (x', 0)) (b := .int 0) (op2_p (a := .list (cellL l')) (b := .int (-1)) rfl rfl (by rw [ep]; exact last_at pre (x', 0))) rfl rfl) rfl rfl) (cons_at (op2_p (a := .int w) (b := .int 1) rfl rfl rfl) rfl)
      have e2 : rg2D [.int (x' + 1), .int (w + 1)] = some ((List.range (w - x').toNat).map fun (k : Nat) => PyData.int (x' + 1 + (k : Int))) := by
        show (if (okR (x' + 1) && okR (w + 1)) = true then some (rgD (x' + 1) (w + 1 - (x' + 1)).toNat) else none) = _
        have := B.one
        rw [if_pos (by unfold okR; simp only [Bool.and_eq_true, decide_eq_true_eq]; omega), show w + 1 - (x' + 1) = w - x' by omega]
        rfl
      unfold rgI Fw.bindG
      rw [z]
      dsimp only
      unfold optG
      rw [e2]
      rfl
    have lc := lcG_all (p := p) (sl := slB w h 0 l' u') (vs := [5]) (ft := nameT 5) (elt := tupG (consG (slotD 5) (consG (retG (.int 0)) (retG [])))) (e := fun (k : Nat) => PyData.int (x' + 1 + (k : Int))) (g := fun (k : Nat) => cd (x' + 1 + (k : Int), 0)) (xs := List.range (w - x').toNat) rg rfl (by rw [List.length_range]; omega) (fun k _ => ⟨_, rfl, rfl⟩)
    refine (ext_at (i := 3) (sl := slB w h 0 l' u') (ds := cellL l') rfl lc (by unfold cellL; rw [List.length_map, List.length_map, List.length_range]; omega)).trans ?_
    unfold slB Sc.rest cellL
    rw [List.map_append, List.map_map]
    rfl
  exact ofFl_rt run
theorem v_below (e m : Int) (p : PenS) : defF false 2 F_is_below [.int e, .int m] p = some (.v (.bool (decide (0 ≤ e) && decide (e < m))), p) := by
  have h : F_is_below ⟨[.d (.int e), .d (.int m)], p⟩ = some (.rt (.bool (decide (0 ≤ e) && decide (e < m))), ⟨[.d (.int e), .d (.int m)], p⟩) := by
    unfold F_is_below
    exact ret_at (andV_at (a := true) rfl (fun _ => chain_at (φ := dLe) (ψ := dLt) (a := .int 0) (b := .int e) (c := .int m) rfl rfl rfl rfl rfl) (fun h => by cases h))
  exact ofFl_rt h
theorem v_padded {w h : Int} (hw : 2 ≤ w) (hw2 : w ≤ 100) (h0 : 0 ≤ h) (h12 : h ≤ 12) (e : Nat) (he : (e : Int) ≤ mostN w h) : ∃ l, Padded w h e l ∧ ∀ p, defF false 3 F_padded [.int w, .int h, nD e] p = some (.v (.tuple (cellL l)), p) := by
  obtain ⟨l, hl, hp⟩ := v_bumped hw hw2 h0 h12 e he
  refine ⟨l, hl, fun p => ?_⟩
  have run : F_padded ⟨[.d (.int w), .d (.int h), .d (nD e)], p⟩ = some (.rt (.tuple (cellL l)), ⟨[.d (.int w), .d (.int h), .d (nD e)], p⟩) := by
    unfold F_padded
    refine seq_at (e1 := ⟨[.d (.int w), .d (.int h), .d (nD e)], p⟩) (if_at (b := false) ?_ (fun h => by cases h) (fun _ => rfl)) (ret_at (callN_at (ds := [.int w, .int h, nD e]) rfl rfl hp))
    refine (not_at (test_at (callN_at (ds := [nD e, .int (mostN w h + 1)]) (cons_at rfl (cons_at (op2_p (a := .int (mostN w h)) (b := .int 1) (callN_at (ds := [.int w, .int h]) rfl rfl (v_most w h (by omega) (by omega))) rfl rfl) rfl)) rfl (v_below _ _)))).trans ?_
    rw [decide_eq_true (by omega), decide_eq_true (by omega)]
    rfl
  exact ofFl_rt run
/-- what padded raises at an odd number -/
def oddR (o : D) : Option (Rs D) := some (.x "BadNumber" ["number", "what"] [o, .str "extra"])
theorem x_padded {w h : Int} (h0 : 0 ≤ h) (h12 : h ≤ 12) (o : D) (hb : ∀ p, defF false 2 F_is_below [o, .int (mostN w h + 1)] p = some (.v (.bool false), p)) (p : PenS) : defF false 3 F_padded [.int w, .int h, o] p = some (.x "BadNumber" ["number", "what"] [o, .str "extra"], p) := by
  have run : F_padded ⟨[.d (.int w), .d (.int h), .d o], p⟩ = some (.x "BadNumber" ["number", "what"] [o, .str "extra"], ⟨[.d (.int w), .d (.int h), .d o], p⟩) := by
    unfold F_padded
    unfold seqS
    rw [if_at (b := true) (r := some (.x "BadNumber" ["number", "what"] [o, .str "extra"], ⟨[.d (.int w), .d (.int h), .d o], p⟩)) ?_ (fun _ => rfl) (fun h => by cases h)]
    exact not_at (test_at (callN_at (ds := [o, .int (mostN w h + 1)]) (cons_at rfl (cons_at (op2_p (a := .int (mostN w h)) (b := .int 1) (callN_at (ds := [.int w, .int h]) rfl rfl (v_most w h (by omega) (by omega))) rfl rfl) rfl)) rfl hb))
  show ofFl (F_padded ⟨[.d (.int w), .d (.int h), .d o], p⟩) = _
  rw [run]
  rfl
end Sb

set_option linter.all false
set_option maxRecDepth 100000
set_option maxHeartbeats 8000000
/-! the law's looks at a padded wire -/
namespace Sb
open PySem PySem.Spec PyProof.Rows L2 Fw
open PySem.W (Datum DatumOrd Tup)
open Sc (C2 ahead near8 progP Padded)
theorem it_cells (l : List C2) : (l.map It.c).map It.d = cellL l ∧ (l.map It.c).all It.isC = true ∧ cellsOf (l.map It.c) = l := by
  induction l with
  | nil => exact ⟨rfl, rfl, rfl⟩
  | cons c r ih =>
    obtain ⟨h1, h2, h3⟩ := ih
    refine ⟨?_, ?_, ?_⟩
    · show cd c :: (r.map It.c).map It.d = cd c :: cellL r
      rw [h1]
    · show (true && (r.map It.c).all It.isC) = true
      rw [h2]; rfl
    · show c :: cellsOf (r.map It.c) = c :: r
      rw [h3]
theorem path_cells (l : List C2) : pathI (l.map It.c) = pathB l := by
  obtain ⟨_, h2, h3⟩ := it_cells l
  unfold pathI
  rw [h2, h3, Bool.true_and]
theorem padded_path {w h : Int} {e : Nat} {l : List C2} (P : Padded w h e l) : pathB l = true := by
  obtain ⟨mid, hm⟩ := P.fst
  have h0 : l ≠ [] := by rw [hm]; exact fun z => by cases z
  have hn := Sc.R_nodup P.r
  exact decide_eq_true ⟨h0, hn, (Sc.prog_iff hn h0).mpr (Sc.R_P P.r)⟩
theorem cut_first (a b : D) (r : List D) : dSl none (some 2) (.tuple (a :: b :: r)) = some (.tuple [a, b]) := by
  show some (PyData.tuple (Fw.cutD (a :: b :: r) none (some 2))) = _
  unfold Fw.cutD
  rw [show HT.sIx (a :: b :: r).length 0 none = 0 from rfl]
  rw [show HT.sIx (a :: b :: r).length (a :: b :: r).length (some 2) = 2 by
    unfold HT.sIx
    dsimp only
    rw [if_neg (by omega)]
    rw [List.length_cons, List.length_cons]
    show min 2 (r.length + 1 + 1) = 2
    omega]
  rfl
theorem cut_last (a b : D) (r : List D) : dSl (some (-2)) none (.tuple (r ++ [a, b])) = some (.tuple [a, b]) := by
  show some (PyData.tuple (Fw.cutD (r ++ [a, b]) (some (-2)) none)) = _
  unfold Fw.cutD
  have e1 : HT.sIx (r ++ [a, b]).length 0 (some (-2)) = r.length := by
    unfold HT.sIx
    dsimp only
    rw [if_pos (by omega), List.length_append]
    show ((-2 : Int) + ((r.length + 2 : Nat) : Int)).toNat = r.length
    omega
  have e2 : HT.sIx (r ++ [a, b]).length (r ++ [a, b]).length none = r.length + 2 := by
    show (r ++ [a, b]).length = _
    rw [List.length_append]
    rfl
  rw [e1, e2, List.drop_left, Nat.add_sub_cancel_left]
  rfl
theorem dNe_tup (xs ys : List C2) : dNe (.tuple (cellL xs)) (.tuple (cellL ys)) = some (.bool (!decide (xs = ys))) := by
  refine (dNe_toD (α := Tup C2) (by decide) ⟨xs⟩ ⟨ys⟩).trans ?_
  congr 3
  exact decide_eq_decide.mpr ⟨fun h => by injection h, fun h => by rw [h]⟩
theorem ones_eq' (n : Nat) : dEq (.list (List.replicate n (PyData.int 1))) (.list []) = some (.bool (decide (n = 0))) := by
  have z := dEq_toD (α := List Int) (by decide) (List.replicate n (1 : Int)) []
  have e1 : (Datum.toD (List.replicate n (1 : Int)) : D) = .list (List.replicate n (PyData.int 1)) := by
    show PyData.list ((List.replicate n (1 : Int)).map PyData.int) = _
    rw [List.map_replicate]
  rw [e1] at z
  refine z.trans ?_
  congr 2
  exact decide_eq_decide.mpr (by simp)
def slR (w h : Int) (e : Nat) (l : List C2) (x y : Slot) : List Slot := [.d (.int w), .d (.int h), .d (nD e), .d (.tuple (cellL l)), x, y]
theorem v_padded_right {w h : Int} (hw : 2 ≤ w) (hw2 : w ≤ 100) (h0 : 0 ≤ h) (h12 : h ≤ 12) (e : Nat) (he : (e : Int) ≤ mostN w h) (p : PenS) : defF false 6 F__law_padded_right [.int w, .int h, nD e] p = some (.v (.bool true), p) := by
  obtain ⟨l, P, hp⟩ := v_padded hw hw2 h0 h12 e he
  obtain ⟨k, _, k2, _, k4⟩ := most_room hw h0
  obtain ⟨i1, i2, i3⟩ := it_cells l
  have len := P.len
  have hl : l.length ≤ 1000 := by omega
  have hl' : (l.map It.c).length ≤ 1000 := by rw [List.length_map]; exact hl
  have path := padded_path P
  have A : ∀ p, defF false 6 F__law_is_path [.tuple (cellL l)] p = some (.v (.bool true), p) := fun p => by
    have z := v_law_is_path (l.map It.c) hl' p
    rw [i1, path_cells, path] at z
    exact z
  have B : ∀ p, defF false 1 F_is_path [.tuple (cellL l)] p = some (.v (.bool true), p) := fun p => by
    have z := v_is_path (l.map It.c) hl' p
    rw [i1, path_cells, path] at z
    exact z
  have run : F__law_padded_right ⟨[.d (.int w), .d (.int h), .d (nD e), .u, .u, .u], p⟩ = some (.rt (.bool true), ⟨slR w h e l .u .u, p⟩) := by
    unfold F__law_padded_right
    refine seq_at (e1 := ⟨slR w h e l .u .u, p⟩) (asg_at (x := .tuple (cellL l)) 3 (callX_at (ds := [.int w, .int h, nD e]) rfl rfl hp)) ?_
    refine seq_at (e1 := ⟨slR w h e l .u .u, p⟩) (if_at (b := false) ?_ (fun h => by cases h) (fun _ => rfl)) ?_
    · refine orG_at (a := false) (not_at (test_at (callN_at (ds := [.tuple (cellL l)]) rfl rfl A))) (fun h => by cases h) (fun _ => ?_)
      refine orG_at (a := false) (test_at (op2_p (a := nD l.length) (b := .int (w + (e : Int) + 1)) (len_at l 3 rfl) (op2_p (a := .int (w + (e : Int))) (b := .int 1) (op2_p (a := .int w) (b := nD e) rfl rfl rfl) rfl rfl) ?_)) (fun h => by cases h) (fun _ => ?_)
      · rw [dNe_int, decide_eq_true len]
        rfl
      · exact test_at (op2_p (a := .bool true) (b := .bool true) (callN_at (ds := [.tuple (cellL l)]) rfl rfl B) rfl rfl)
    refine seq_at (e1 := ⟨slR w h e l .u .u, p⟩) (if_at (b := false) ?_ (fun h => by cases h) (fun _ => rfl)) ?_
    · obtain ⟨mid, hm⟩ := P.fst
      obtain ⟨pre, hpre⟩ := P.lst
      have sl1 : slG (slotD 3) (retG none) (partG (retG (.int 2))) ⟨slR w h e l .u .u, p⟩ = some (.v (.tuple (cellL [(0, 0), (1, 0)])), p) := by
        have c := cut_first (cd (0, 0)) (cd (1, 0)) (cellL mid)
        have el : cellL l = cd (0, 0) :: cd (1, 0) :: cellL mid := by rw [hm]; rfl
        rw [← el] at c
        unfold slG Fw.bindG
        rw [show slotD 3 ⟨slR w h e l .u .u, p⟩ = some (.v (.tuple (cellL l)), p) from rfl]
        dsimp only
        rw [show retG (none : Option Int) ⟨slR w h e l .u .u, p⟩ = some (.v none, p) from rfl]
        dsimp only
        rw [show partG (retG (.int 2)) ⟨slR w h e l .u .u, p⟩ = some (.v (some 2), p) from rfl]
        dsimp only
        unfold optG
        rw [c]
        rfl
      have sl2 : slG (slotD 3) (partG (op1 dNeg (retG (.int 2)))) (retG none) ⟨slR w h e l .u .u, p⟩ = some (.v (.tuple (cellL [(w - 1, 0), (w, 0)])), p) := by
        have c := cut_last (cd (w - 1, 0)) (cd (w, 0)) (cellL pre)
        have el : cellL l = cellL pre ++ [cd (w - 1, 0), cd (w, 0)] := by rw [hpre]; unfold cellL; rw [List.map_append]; rfl
        rw [← el] at c
        unfold slG Fw.bindG
        rw [show slotD 3 ⟨slR w h e l .u .u, p⟩ = some (.v (.tuple (cellL l)), p) from rfl]
        dsimp only
        rw [show partG (op1 dNeg (retG (.int 2))) ⟨slR w h e l .u .u, p⟩ = some (.v (some (-2)), p) from rfl]
        dsimp only
        rw [show retG (none : Option Int) ⟨slR w h e l .u .u, p⟩ = some (.v none, p) from rfl]
        dsimp only
        unfold optG
        rw [c]
        rfl
      refine orG_at (a := false) (test_at (op2_p (b := .tuple (cellL [(0, 0), (1, 0)])) sl1 rfl ?_)) (fun h => by cases h) (fun _ => test_at (op2_p (b := .tuple (cellL [(w - 1, 0), (w, 0)])) sl2 rfl ?_))
      · rw [dNe_tup, decide_eq_true rfl]; rfl
      · rw [dNe_tup, decide_eq_true rfl]; rfl
    · refine ret_at ?_
      have lc := lcG_of (p := p) (sl := slR w h e l .u .u) (vs := [4, 5]) (fi := seqI (slotD 3)) (ft := tupT 2 (consT (nameT 4) (consT (nameT 5) nilT))) (test := orG (notG (testG (chainG dLe dLe (retG (.int 0)) (slotD 4) (slotD 0)))) (notG (testG (chainG dLe dLe (op1 dNeg (slotD 1)) (slotD 5) (retG (.int 0)))))) (elt := retG (.int 1)) (e := cd) (t := fun _ => false) (g := fun _ => PyData.int 1) (xs := l) rfl rfl (by omega) (fun c hc => by
        have b := P.bnd c hc
        refine ⟨slR w h e l (.d (.int c.1)) (.d (.int c.2)), rfl, ?_, fun h => by cases h⟩
        refine orG_at (a := false) ((not_at (test_at (chain_at (φ := dLe) (ψ := dLe) (a := .int 0) (b := .int c.1) (c := .int w) (k := decide (0 ≤ c.1)) (m := decide (c.1 ≤ w)) rfl rfl rfl rfl rfl))).trans ?_) (fun h => by cases h) (fun _ => (not_at (test_at (chain_at (φ := dLe) (ψ := dLe) (a := .int (-h)) (b := .int c.2) (c := .int 0) (k := decide (-h ≤ c.2)) (m := decide (c.2 ≤ 0)) rfl rfl rfl rfl rfl))).trans ?_)
        · rw [decide_eq_true b.1, decide_eq_true b.2.1]; rfl
        · rw [decide_eq_true b.2.2.1, decide_eq_true b.2.2.2]; rfl)
      refine op2_p lc (b := .list []) rfl ?_
      rw [filt_rep, ones_eq']
      congr 2
      exact decide_eq_true (List.countP_eq_zero.mpr fun _ _ => Bool.false_ne_true)
  exact ofFl_rt run
end Sb

set_option linter.all false
set_option maxRecDepth 100000
set_option maxHeartbeats 8000000
/-! what the law bends -/
namespace Sb
open PySem PySem.Spec PyProof.Rows L2 Fw
open PySem.W (Datum DatumOrd Tup)
open Sc (C2)
theorem draw_at {k n : Int} {p : PenS} (i : Nat) {sl : List Slot} {f : FG (List D)} (h : GoodP k p) (hk : k < 999999999) (h0 : 0 < n) (h1 : n < 1000000) (hf : f ⟨sl, p⟩ = some (.v [.int n], p)) (hp : Fw.isP ⟨sl, p⟩ i = true) :
    ∃ (d : Nat) (p' : PenS), callP 1 i drawF f ⟨sl, p⟩ = some (.v (.int d), p') ∧ (d : Int) < n ∧ GoodP (k + 1) p' := by
  obtain ⟨d, p', hd, d0, d1, g⟩ := draw_spec (m := n) h hk h0 h1
  obtain ⟨d, rfl⟩ : ∃ m : Nat, d = (m : Int) := ⟨d.toNat, by omega⟩
  exact ⟨d, p', callP_at hf rfl hp hd, d1, g⟩
theorem lst_ix (ds : List D) (d : Nat) (hi : d < ds.length) : dIx (.list ds) (.int d) = some ds[d] := by
  show L2.atI ds d = _
  unfold L2.atI ixN
  rw [if_pos (by omega), if_pos (by omega)]
  exact List.getElem?_eq_getElem hi
theorem pick_spec {k : Int} {p : PenS} {ds : List D} (h : GoodP k p) (hk : k < 999999999) (h0 : 0 < ds.length) (h1 : ds.length < 1000000) :
    ∃ (x : D) (p' : PenS), defF true 2 F__law_pick [.list ds] p = some (.v x, p') ∧ x ∈ ds ∧ GoodP (k + 1) p' := by
  obtain ⟨d, p', hd, d1, g⟩ := draw_at (n := (ds.length : Int)) (sl := [.p, .d (.list ds)]) 0 (f := consG (op1 dLenU (slotD 1)) (retG [])) h hk (by omega) (by omega) rfl rfl
  have hi : d < ds.length := by omega
  refine ⟨ds[d], p', ?_, List.getElem_mem hi, g⟩
  have h2 : F__law_pick ⟨[.p, .d (.list ds)], p⟩ = _ := ret_at (op2_at (f := slotD 1) (p1 := p) rfl hd (lst_ix ds d hi))
  show ofFl (F__law_pick ⟨[.p, .d (.list ds)], p⟩) = _
  rw [h2]
  rfl
theorem GoodP.up {k m : Int} {p : PenS} (h : GoodP k p) (hm : k ≤ m) : GoodP m p := ⟨h.ok, by have := h.le; omega⟩
def slT (path : D) (is : List It) (w k : Nat) (x y : Int) : List Slot := [.p, .d path, .o (.list (is.map It.d)), .d (nD w), .d (nD k), .d (.int x), .d (.int y)]
def FIN : FS := (Fw.relS 2 (retS (callP 1 0 (defF true 2 F__law_pick) (consG (lstG (consG (op1 dTup (slotB 2)) (consG (op1 dTup (slotB 2)) (consG (op1 dTup (slotB 2)) (consG (slotD 2) (retG [])))))) (retG [])))))
theorem fin_at {path : D} {is : List It} {w k : Nat} {x y c : Int} {p : PenS} (g : GoodP c p) (hc : c < 999999990) : ∃ v e', FIN ⟨slT path is w k x y, p⟩ = some (.rt v, e') ∧ (v = .tuple (is.map It.d) ∨ v = .list (is.map It.d)) ∧ GoodP (c + 1) e'.pen := by
  obtain ⟨v, p', h1, h2, h3⟩ := pick_spec (ds := [.tuple (is.map It.d), .tuple (is.map It.d), .tuple (is.map It.d), .list (is.map It.d)]) g (by omega) (by show 0 < 4; omega) (by show 4 < 1000000; omega)
  refine ⟨v, ⟨[.p, .d path, .d (.list (is.map It.d)), .d (nD w), .d (nD k), .d (.int x), .d (.int y)], p'⟩, ?_, by simpa using h2, h3⟩
  unfold FIN Fw.relS slT
  dsimp only [List.getElem?_cons_succ, List.getElem?_cons_zero, List.set_cons_succ, List.set_cons_zero]
  exact ret_at (callP_at (ds := [.list [.tuple (is.map It.d), .tuple (is.map It.d), .tuple (is.map It.d), .list (is.map It.d)]]) rfl rfl rfl h1)
def V0 : FS := (ifS (testG (op2 dEq (slotD 3) (retG (.int 0)))) (asgV (tupG (consG (op2 dAdd (slotD 5) (callP 1 0 (defF true 2 F__law_pick) (consG (lstG (consG (op1 dNeg (retG (.int 1))) (consG (retG (.int 0)) (consG (retG (.int 1)) (retG []))))) (retG [])))) (consG (op2 dAdd (slotD 6) (callP 1 0 (defF true 2 F__law_pick) (consG (lstG (consG (op1 dNeg (retG (.int 1))) (consG (retG (.int 1)) (retG [])))) (retG [])))) (retG [])))) (subU 2 (slotD 4))) nextS)
def V1 : FS := (ifS (testG (op2 dEq (slotD 3) (retG (.int 1)))) (popAtS 2 (slotD 4)) nextS)
def V2 : FS := (ifS (testG (op2 dEq (slotD 3) (retG (.int 2)))) (insS 2 (slotD 4) (op2 dIx (slotB 2) (slotD 4))) nextS)
def V3 : FS := (ifS (andG (testG (op2 dEq (slotD 3) (retG (.int 3)))) (testG (op2 dLt (op2 dAdd (slotD 4) (retG (.int 1))) (op1 dLenU (slotB 2))))) (asgV (tupG (consG (op2 dIx (slotB 2) (op2 dAdd (slotD 4) (retG (.int 1)))) (consG (op2 dIx (slotB 2) (slotD 4)) (retG [])))) (tupV 2 (consV (subU 2 (slotD 4)) (consV (subU 2 (op2 dAdd (slotD 4) (retG (.int 1)))) nilV)))) nextS)
def V4 : FS := (ifS (testG (op2 dEq (slotD 3) (retG (.int 4)))) (asgV (callP 1 0 (defF true 2 F__law_pick) (consG (lstG (consG (tupG (consG (slotD 5) (retG []))) (consG (retG .none) (consG (tupG (consG (slotD 5) (consG (retG (.bool true)) (retG [])))) (consG (lstG (consG (slotD 5) (consG (slotD 6) (retG [])))) (consG (tupG (consG (slotD 5) (consG (slotD 6) (consG (retG (.int 0)) (retG []))))) (consG (tupG (consG (slotD 5) (consG (retG (.str "0")) (retG [])))) (retG [])))))))) (retG []))) (subU 2 (slotD 4))) nextS)
def V5 : FS := (ifS (testG (op2 dEq (slotD 3) (retG (.int 5)))) (asgO (op1 dRevL (slotB 2)) 2) nextS)
theorem bent_eq : F__law_bent = (seqS (parOD 2 3 (op1 dListK (slotD 1)) (callP 1 0 drawF (consG (retG (.int 7)) (retG []))))
  (seqS (asgS (callP 1 0 drawF (consG (op1 dLenU (slotB 2)) (retG []))) (nameT 4))
  (seqS (asgV (op2 dIx (slotB 2) (slotD 4)) (tupV 2 (consV (nameV 5) (consV (nameV 6) nilV))))
  (seqS V0 (seqS V1 (seqS V2 (seqS V3 (seqS V4 (seqS V5 FIN))))))))) := rfl
def IFS : FS := seqS V0 (seqS V1 (seqS V2 (seqS V3 (seqS V4 (seqS V5 FIN)))))
theorem set_it (is : List It) (k : Nat) (i : It) : (is.map It.d).set k i.d = (is.set k i).map It.d := by rw [List.map_set]
theorem sub_at {path : D} {is : List It} {w k : Nat} {x y : Int} {p : PenS} (j : Nat) (i : It) (hj : j < is.length) (fk : FG D) (hk : fk ⟨slT path is w k x y, p⟩ = some (.v (nD j), p)) : subU 2 fk i.d ⟨slT path is w k x y, p⟩ = some ⟨slT path (is.set j i) w k x y, p⟩ := by
  unfold subU
  rw [show ownK 2 ⟨slT path is w k x y, p⟩ = none from rfl]
  dsimp only
  unfold subV
  have ho : ownL 2 ⟨slT path is w k x y, p⟩ = some (is.map It.d) := rfl
  rw [ho]
  dsimp only [Option.bind_some]
  rw [hk]
  dsimp only
  rw [show ownL 2 ⟨(⟨slT path is w k x y, p⟩ : Ev).sl, p⟩ = some (is.map It.d) from rfl]
  dsimp only [Option.bind_some]
  rw [show ixN (is.map It.d).length (j : Int) = some j by
    unfold ixN
    rw [List.length_map, if_pos (by omega), if_pos (by omega), Int.toNat_natCast]]
  dsimp only [Option.map_some]
  rw [set_it]
  rfl
theorem ix_it (is : List It) (k : Nat) (h : k < is.length) : dIx (.list (is.map It.d)) (nD k) = some (is[k].d) := by
  refine (lst_ix (is.map It.d) k (by rw [List.length_map]; exact h)).trans ?_
  rw [List.getElem_map]
section
variable {path : D} {is : List It} {w k : Nat} {x y : Int} {p : PenS}
theorem way_at (i : Nat) : testG (op2 dEq (slotD 3) (retG (.int (i : Int)))) ⟨slT path is w k x y, p⟩ = some (.v (decide (w = i)), p) := by
  refine (test_at (op2_p (a := nD w) (b := nD i) rfl rfl (dEq_int _ _))).trans ?_
  congr 3
  exact decide_eq_decide.mpr (by omega)
theorem off0 (h : w ≠ 0) : V0 ⟨slT path is w k x y, p⟩ = some (.nx, ⟨slT path is w k x y, p⟩) := if_at (way_at 0) (fun z => absurd (of_decide_eq_true z) h) (fun _ => rfl)
theorem off1 (h : w ≠ 1) : V1 ⟨slT path is w k x y, p⟩ = some (.nx, ⟨slT path is w k x y, p⟩) := if_at (way_at 1) (fun z => absurd (of_decide_eq_true z) h) (fun _ => rfl)
theorem off2 (h : w ≠ 2) : V2 ⟨slT path is w k x y, p⟩ = some (.nx, ⟨slT path is w k x y, p⟩) := if_at (way_at 2) (fun z => absurd (of_decide_eq_true z) h) (fun _ => rfl)
theorem off3 (h : w ≠ 3) : V3 ⟨slT path is w k x y, p⟩ = some (.nx, ⟨slT path is w k x y, p⟩) := if_at (b := false) (andG_at (way_at 3) (fun z => absurd (of_decide_eq_true z) h) (fun _ => rfl)) (fun z => by cases z) (fun _ => rfl)
theorem off4 (h : w ≠ 4) : V4 ⟨slT path is w k x y, p⟩ = some (.nx, ⟨slT path is w k x y, p⟩) := if_at (way_at 4) (fun z => absurd (of_decide_eq_true z) h) (fun _ => rfl)
theorem off5 (h : w ≠ 5) : V5 ⟨slT path is w k x y, p⟩ = some (.nx, ⟨slT path is w k x y, p⟩) := if_at (way_at 5) (fun z => absurd (of_decide_eq_true z) h) (fun _ => rfl)
end
theorem bind_at {α β : Type} {o : Option α} {a : α} {f : α → Option β} {r : Option β} (h : o = some a) (h2 : f a = r) : o.bind f = r := by
  rw [h]
  exact h2
theorem then_at {α : Type} {f : FG α} {g : α → FS} {sl : List Slot} {p p1 : PenS} {a : α} {r : Option (Fl × Ev)} (h : f ⟨sl, p⟩ = some (.v a, p1)) (h2 : g a ⟨sl, p1⟩ = r) : thenS f g ⟨sl, p⟩ = r := by
  unfold thenS
  rw [h]
  exact h2
theorem ins_at {i k : Nat} {fk f : FG D} {sl : List Slot} {p : PenS} {ds : List D} {d : D} (hs : sl[i]? = some (.o (.list ds))) (hk : fk ⟨sl, p⟩ = some (.v (nD k), p)) (hf : f ⟨sl, p⟩ = some (.v d, p)) (h1 : k < 1000000) (hl : ds.length ≤ 100000) : insS i fk f ⟨sl, p⟩ = some (.nx, ⟨sl.set i (.o (.list (ds.take k ++ [d] ++ ds.drop k))), p⟩) := by
  have ho : ownL i ⟨sl, p⟩ = some ds := by unfold ownL; rw [hs]
  refine bind_at ho (then_at hk (then_at hf (bind_at ho ?_)))
  have c : 0 ≤ (k : Int) ∧ (k : Int) < 1000000 ∧ ds.length ≤ 100000 := ⟨by omega, by omega, hl⟩
  exact (if_pos c).trans (by rw [Int.toNat_natCast])
def Bent (path : D) (is : List It) (w k : Nat) (x y c : Int) (p : PenS) : Prop := ∃ (v : D) (e' : Ev) (is' : List It), IFS ⟨slT path is w k x y, p⟩ = some (.rt v, e') ∧ is'.length ≤ 1000 ∧ (v = .tuple (is'.map It.d) ∨ v = .list (is'.map It.d)) ∧ GoodP (c + 3) e'.pen
theorem bent0 {path : D} {is : List It} {k : Nat} {x y c : Int} {p : PenS} (g : GoodP c p) (hc : c < 999999980) (hk : k < is.length) (hl : is.length ≤ 900) : Bent path is 0 k x y c p := by
  unfold Bent IFS
  obtain ⟨d1, p1, h1, m1, g1⟩ := pick_spec (ds := [.int (-1), .int 0, .int 1]) g (by omega) (by decide) (by decide)
  obtain ⟨d2, p2, h2, m2, g2⟩ := pick_spec (ds := [.int (-1), .int 1]) g1 (by omega) (by decide) (by decide)
  obtain ⟨a, rfl⟩ : ∃ a : Int, d1 = .int a := by
    simp only [List.mem_cons, List.not_mem_nil, or_false] at m1
    rcases m1 with rfl | rfl | rfl <;> exact ⟨_, rfl⟩
  obtain ⟨b, rfl⟩ : ∃ b : Int, d2 = .int b := by
    simp only [List.mem_cons, List.not_mem_nil, or_false] at m2
    rcases m2 with rfl | rfl <;> exact ⟨_, rfl⟩
  obtain ⟨v, e', f1, f2, f3⟩ := fin_at (path := path) (is := is.set k (.c (x + a, y + b))) (w := 0) (k := k) (x := x) (y := y) g2 (by omega)
  refine ⟨v, e', is.set k (.c (x + a, y + b)), ?_, by rw [List.length_set]; omega, f2, GoodP.up f3 (by omega)⟩
  refine seq_at (e1 := ⟨slT path (is.set k (.c (x + a, y + b))) 0 k x y, p2⟩) ?_ (seq_at (off1 (by decide)) (seq_at (off2 (by decide)) (seq_at (off3 (by decide)) (seq_at (off4 (by decide)) (seq_at (off5 (by decide)) f1)))))
  unfold V0
  refine if_at (way_at 0) (fun _ => ?_) (fun h => by cases h)
  have tg : tupG (consG (op2 dAdd (slotD 5) (callP 1 0 (defF true 2 F__law_pick) (consG (lstG (consG (op1 dNeg (retG (.int 1))) (consG (retG (.int 0)) (consG (retG (.int 1)) (retG []))))) (retG [])))) (consG (op2 dAdd (slotD 6) (callP 1 0 (defF true 2 F__law_pick) (consG (lstG (consG (op1 dNeg (retG (.int 1))) (consG (retG (.int 1)) (retG [])))) (retG [])))) (retG []))) ⟨slT path is 0 k x y, p⟩ = some (.v (It.c (x + a, y + b)).d, p2) := by
    refine tup_at (ds := [.int (x + a), .int (y + b)]) (cons_at (p1 := p1) (op2_at (a := .int x) (b := .int a) (p1 := p) rfl (callP_at (ds := [.list [.int (-1), .int 0, .int 1]]) rfl rfl rfl h1) rfl) (cons_at (op2_at (a := .int y) (b := .int b) (p1 := p1) rfl (callP_at (ds := [.list [.int (-1), .int 1]]) rfl rfl rfl h2) rfl) rfl)) (by show 2 ≤ 1000000; omega)
  unfold asgV thenS
  rw [tg]
  dsimp only
  rw [sub_at k (.c (x + a, y + b)) hk (slotD 4) rfl]
  rfl
theorem bent1 {path : D} {is : List It} {k : Nat} {x y c : Int} {p : PenS} (g : GoodP c p) (hc : c < 999999980) (hk : k < is.length) (hl : is.length ≤ 900) : Bent path is 1 k x y c p := by
  unfold Bent IFS
  obtain ⟨v, e', f1, f2, f3⟩ := fin_at (path := path) (is := is.eraseIdx k) (w := 1) (k := k) (x := x) (y := y) g (by omega)
  refine ⟨v, e', is.eraseIdx k, ?_, Nat.le_trans (List.length_eraseIdx_le ..) (by omega), f2, GoodP.up f3 (by omega)⟩
  refine seq_at (off0 (by decide)) (seq_at (e1 := ⟨slT path (is.eraseIdx k) 1 k x y, p⟩) ?_ (seq_at (off2 (by decide)) (seq_at (off3 (by decide)) (seq_at (off4 (by decide)) (seq_at (off5 (by decide)) f1)))))
  unfold V1
  refine if_at (way_at 1) (fun _ => ?_) (fun h => by cases h)
  show (if 0 ≤ (k : Int) ∧ (k : Int) < ((is.map It.d).length : Int) ∧ (is.map It.d).length ≤ 1000000 then some (Fl.nx, (⟨[.p, .d path, .o (.list ((is.map It.d).eraseIdx k)), .d (nD 1), .d (nD k), .d (.int x), .d (.int y)], p⟩ : Ev)) else none) = _
  rw [if_pos ⟨by omega, by rw [List.length_map]; omega, by rw [List.length_map]; omega⟩]
  unfold slT
  rw [List.eraseIdx_eq_take_drop_succ, List.eraseIdx_eq_take_drop_succ, List.map_append, List.map_take, List.map_drop]
theorem bent2 {path : D} {is : List It} {k : Nat} {x y c : Int} {p : PenS} (g : GoodP c p) (hc : c < 999999980) (hk : k < is.length) (hl : is.length ≤ 900) : Bent path is 2 k x y c p := by
  unfold Bent IFS
  obtain ⟨v, e', f1, f2, f3⟩ := fin_at (path := path) (is := is.take k ++ [is[k]] ++ is.drop k) (w := 2) (k := k) (x := x) (y := y) g (by omega)
  refine ⟨v, e', is.take k ++ [is[k]] ++ is.drop k, ?_, ?_, f2, GoodP.up f3 (by omega)⟩
  · refine seq_at (off0 (by decide)) (seq_at (off1 (by decide)) (seq_at (e1 := ⟨slT path (is.take k ++ [is[k]] ++ is.drop k) 2 k x y, p⟩) ?_ (seq_at (off3 (by decide)) (seq_at (off4 (by decide)) (seq_at (off5 (by decide)) f1)))))
    unfold V2
    refine if_at (way_at 2) (fun _ => ?_) (fun h => by cases h)
    have ix : op2 dIx (slotB 2) (slotD 4) ⟨slT path is 2 k x y, p⟩ = some (.v (is[k].d), p) := op2_p (a := .list (is.map It.d)) (b := nD k) rfl rfl (ix_it is k hk)
    refine (ins_at (sl := slT path is 2 k x y) (ds := is.map It.d) (k := k) (d := is[k].d) rfl rfl ix (by omega) (by rw [List.length_map]; omega)).trans ?_
    rw [← List.map_take, ← List.map_drop, show [is[k].d] = [is[k]].map It.d from rfl, ← List.map_append, ← List.map_append]
    rfl
  · simp only [List.length_append, List.length_take, List.length_drop, List.length_singleton]
    omega
theorem bent3 {path : D} {is : List It} {k : Nat} {x y c : Int} {p : PenS} (g : GoodP c p) (hc : c < 999999980) (hk : k < is.length) (hl : is.length ≤ 900) : Bent path is 3 k x y c p := by
  unfold Bent IFS
  by_cases h3 : k + 1 < is.length
  · obtain ⟨v, e', f1, f2, f3⟩ := fin_at (path := path) (is := (is.set k is[k + 1]).set (k + 1) is[k]) (w := 3) (k := k) (x := x) (y := y) g (by omega)
    refine ⟨v, e', _, ?_, by rw [List.length_set, List.length_set]; omega, f2, GoodP.up f3 (by omega)⟩
    refine seq_at (off0 (by decide)) (seq_at (off1 (by decide)) (seq_at (off2 (by decide)) (seq_at (e1 := ⟨slT path ((is.set k is[k + 1]).set (k + 1) is[k]) 3 k x y, p⟩) ?_ (seq_at (off4 (by decide)) (seq_at (off5 (by decide)) f1)))))
    unfold V3
    have k1 : op2 dAdd (slotD 4) (retG (.int 1)) ⟨slT path is 3 k x y, p⟩ = some (.v (nD (k + 1)), p) := op2_p (a := nD k) (b := .int 1) rfl rfl rfl
    have k2 : op2 dAdd (slotD 4) (retG (.int 1)) ⟨slT path (is.set k is[k + 1]) 3 k x y, p⟩ = some (.v (nD (k + 1)), p) := op2_p (a := nD k) (b := .int 1) rfl rfl rfl
    have ln : op1 dLenU (slotB 2) ⟨slT path is 3 k x y, p⟩ = some (.v (nD is.length), p) := by
      refine op1_at (a := .list (is.map It.d)) rfl ?_
      show some (PyData.int ((is.map It.d).length : Nat)) = _
      rw [List.length_map]
    refine if_at (b := true) (andG_at (way_at 3) (fun _ => test_at (op2_p (φ := dLt) k1 ln ?_)) (fun h => by cases h)) (fun _ => ?_) (fun h => by cases h)
    · show some (PyData.bool (decide (((k + 1 : Nat) : Int) < (is.length : Int)))) = _
      rw [decide_eq_true (by omega)]
    have tg : tupG (consG (op2 dIx (slotB 2) (op2 dAdd (slotD 4) (retG (.int 1)))) (consG (op2 dIx (slotB 2) (slotD 4)) (retG []))) ⟨slT path is 3 k x y, p⟩ = some (.v (.tuple [(is[k + 1]).d, (is[k]).d]), p) :=
      tup_at (cons_at (op2_p (a := .list (is.map It.d)) rfl k1 (ix_it is (k + 1) h3)) (cons_at (op2_p (a := .list (is.map It.d)) (b := nD k) rfl rfl (ix_it is k hk)) rfl)) (by show 2 ≤ 1000000; omega)
    unfold asgV thenS
    rw [tg]
    show (((subU 2 (slotD 4) (is[k + 1]).d ⟨slT path is 3 k x y, p⟩).bind ((consV (subU 2 (op2 dAdd (slotD 4) (retG (.int 1)))) nilV) [(is[k]).d])).map fun e' => (Fl.nx, e')) = _
    rw [sub_at k (is[k + 1]) hk (slotD 4) rfl]
    show (((subU 2 (op2 dAdd (slotD 4) (retG (.int 1))) (is[k]).d ⟨slT path (is.set k is[k + 1]) 3 k x y, p⟩).bind (nilV [])).map fun e' => (Fl.nx, e')) = _
    rw [sub_at (k + 1) (is[k]) (by rw [List.length_set]; exact h3) _ k2]
    rfl
  · obtain ⟨v, e', f1, f2, f3⟩ := fin_at (path := path) (is := is) (w := 3) (k := k) (x := x) (y := y) g (by omega)
    refine ⟨v, e', is, ?_, by omega, f2, GoodP.up f3 (by omega)⟩
    refine seq_at (off0 (by decide)) (seq_at (off1 (by decide)) (seq_at (off2 (by decide)) (seq_at (e1 := ⟨slT path is 3 k x y, p⟩) ?_ (seq_at (off4 (by decide)) (seq_at (off5 (by decide)) f1)))))
    unfold V3
    have k1 : op2 dAdd (slotD 4) (retG (.int 1)) ⟨slT path is 3 k x y, p⟩ = some (.v (nD (k + 1)), p) := op2_p (a := nD k) (b := .int 1) rfl rfl rfl
    have ln : op1 dLenU (slotB 2) ⟨slT path is 3 k x y, p⟩ = some (.v (nD is.length), p) := by
      refine op1_at (a := .list (is.map It.d)) rfl ?_
      show some (PyData.int ((is.map It.d).length : Nat)) = _
      rw [List.length_map]
    refine if_at (b := false) (andG_at (way_at 3) (fun _ => test_at (op2_p (φ := dLt) k1 ln ?_)) (fun h => by cases h)) (fun h => by cases h) (fun _ => rfl)
    show some (PyData.bool (decide (((k + 1 : Nat) : Int) < (is.length : Int)))) = _
    rw [decide_eq_false (by omega)]
theorem bent4 {path : D} {is : List It} {k : Nat} {x y c : Int} {p : PenS} (g : GoodP c p) (hc : c < 999999980) (hk : k < is.length) (hl : is.length ≤ 900) : Bent path is 4 k x y c p := by
  unfold Bent IFS
  obtain ⟨d1, p1, h1, m1, g1⟩ := pick_spec (ds := [.tuple [.int x], .none, .tuple [.int x, .bool true], .list [.int x, .int y], .tuple [.int x, .int y, .int 0], .tuple [.int x, .str "0"]]) g (by omega) (by show 0 < 6; omega) (by show 6 < 1000000; omega)
  obtain ⟨i, rfl⟩ : ∃ i : It, d1 = i.d := by
    simp only [List.mem_cons, List.not_mem_nil, or_false] at m1
    rcases m1 with rfl | rfl | rfl | rfl | rfl | rfl
    · exact ⟨.o 0 x y, rfl⟩
    · exact ⟨.o 1 x y, rfl⟩
    · exact ⟨.o 2 x y, rfl⟩
    · exact ⟨.o 3 x y, rfl⟩
    · exact ⟨.o 4 x y, rfl⟩
    · exact ⟨.o 5 x y, rfl⟩
  obtain ⟨v, e', f1, f2, f3⟩ := fin_at (path := path) (is := is.set k i) (w := 4) (k := k) (x := x) (y := y) g1 (by omega)
  refine ⟨v, e', is.set k i, ?_, by rw [List.length_set]; omega, f2, GoodP.up f3 (by omega)⟩
  refine seq_at (off0 (by decide)) (seq_at (off1 (by decide)) (seq_at (off2 (by decide)) (seq_at (off3 (by decide)) (seq_at (e1 := ⟨slT path (is.set k i) 4 k x y, p1⟩) ?_ (seq_at (off5 (by decide)) f1)))))
  unfold V4
  refine if_at (way_at 4) (fun _ => ?_) (fun h => by cases h)
  have cp : callP 1 0 (defF true 2 F__law_pick) (consG (lstG (consG (tupG (consG (slotD 5) (retG []))) (consG (retG .none) (consG (tupG (consG (slotD 5) (consG (retG (.bool true)) (retG [])))) (consG (lstG (consG (slotD 5) (consG (slotD 6) (retG [])))) (consG (tupG (consG (slotD 5) (consG (slotD 6) (consG (retG (.int 0)) (retG []))))) (consG (tupG (consG (slotD 5) (consG (retG (.str "0")) (retG [])))) (retG [])))))))) (retG [])) ⟨slT path is 4 k x y, p⟩ = some (.v i.d, p1) :=
    callP_at (ds := [.list [.tuple [.int x], .none, .tuple [.int x, .bool true], .list [.int x, .int y], .tuple [.int x, .int y, .int 0], .tuple [.int x, .str "0"]]]) rfl rfl rfl h1
  unfold asgV thenS
  rw [cp]
  dsimp only
  rw [sub_at k i hk (slotD 4) rfl]
  rfl
theorem bent5 {path : D} {is : List It} {k : Nat} {x y c : Int} {p : PenS} (g : GoodP c p) (hc : c < 999999980) (hk : k < is.length) (hl : is.length ≤ 900) : Bent path is 5 k x y c p := by
  unfold Bent IFS
  obtain ⟨v, e', f1, f2, f3⟩ := fin_at (path := path) (is := is.reverse) (w := 5) (k := k) (x := x) (y := y) g (by omega)
  refine ⟨v, e', is.reverse, ?_, by rw [List.length_reverse]; omega, f2, GoodP.up f3 (by omega)⟩
  refine seq_at (off0 (by decide)) (seq_at (off1 (by decide)) (seq_at (off2 (by decide)) (seq_at (off3 (by decide)) (seq_at (off4 (by decide)) (seq_at (e1 := ⟨slT path is.reverse 5 k x y, p⟩) ?_ f1)))))
  unfold V5
  refine if_at (way_at 5) (fun _ => ?_) (fun h => by cases h)
  unfold slT
  rw [List.map_reverse]
  rfl
theorem bent6 {path : D} {is : List It} {k : Nat} {x y c : Int} {p : PenS} (g : GoodP c p) (hc : c < 999999980) (hk : k < is.length) (hl : is.length ≤ 900) : Bent path is 6 k x y c p := by
  unfold Bent IFS
  obtain ⟨v, e', f1, f2, f3⟩ := fin_at (path := path) (is := is) (w := 6) (k := k) (x := x) (y := y) g (by omega)
  exact ⟨v, e', is, seq_at (off0 (by decide)) (seq_at (off1 (by decide)) (seq_at (off2 (by decide)) (seq_at (off3 (by decide)) (seq_at (off4 (by decide)) (seq_at (off5 (by decide)) f1))))), by omega, f2, GoodP.up f3 (by omega)⟩
theorem ifs_at {path : D} {is : List It} {w k : Nat} {x y c : Int} {p : PenS} (g : GoodP c p) (hc : c < 999999980) (hw : w < 7) (hk : k < is.length) (hl : is.length ≤ 900) : Bent path is w k x y c p := by
  match w, hw with
  | 0, _ => exact bent0 g hc hk hl
  | 1, _ => exact bent1 g hc hk hl
  | 2, _ => exact bent2 g hc hk hl
  | 3, _ => exact bent3 g hc hk hl
  | 4, _ => exact bent4 g hc hk hl
  | 5, _ => exact bent5 g hc hk hl
  | 6, _ => exact bent6 g hc hk hl
theorem v_bent {c : Int} {p : PenS} (g : GoodP c p) (hc : c < 999999900) (l : List C2) (h0 : 0 < l.length) (hl : l.length ≤ 900) :
    ∃ (v : D) (p' : PenS) (is' : List It), defF true 7 F__law_bent [.tuple (cellL l)] p = some (.v v, p') ∧ is'.length ≤ 1000 ∧ (v = .tuple (is'.map It.d) ∨ v = .list (is'.map It.d)) ∧ GoodP (c + 5) p' := by
  obtain ⟨i1, i2, i3⟩ := it_cells l
  have il : (l.map It.c).length = l.length := List.length_map ..
  obtain ⟨w, p1, h1, w7, g1⟩ := draw_at (n := 7) (sl := [.p, .d (.tuple (cellL l)), .u, .u, .u, .u, .u]) (f := consG (retG (.int 7)) (retG [])) 0 g (by omega) (by decide) (by decide) rfl rfl
  have ln : consG (op1 dLenU (slotB 2)) (retG []) ⟨[.p, .d (.tuple (cellL l)), .o (.list (cellL l)), .d (nD w), .u, .u, .u], p1⟩ = some (.v [nD l.length], p1) := by
    refine cons_at (op1_at (a := .list (cellL l)) rfl ?_) rfl
    show some (PyData.int ((cellL l).length : Nat)) = _
    unfold cellL
    rw [List.length_map]
  obtain ⟨k, p2, h2, k7, g2⟩ := draw_at (n := (l.length : Int)) (sl := [.p, .d (.tuple (cellL l)), .o (.list (cellL l)), .d (nD w), .u, .u, .u]) (f := consG (op1 dLenU (slotB 2)) (retG [])) 0 g1 (by omega) (by omega) (by omega) ln rfl
  have hk : k < l.length := by omega
  obtain ⟨v, e', is', f1, f2, f3, f4⟩ := ifs_at (path := .tuple (cellL l)) (is := l.map It.c) (w := w) (k := k) (x := l[k].1) (y := l[k].2) g2 (by omega) (by omega) (by rw [il]; exact hk) (by rw [il]; exact hl)
  refine ⟨v, e'.pen, is', ?_, f2, f3, by have e : c + 5 = c + 1 + 1 + 3 := by omega
                                         rw [e]; exact f4⟩
  have run : F__law_bent ⟨[.p, .d (.tuple (cellL l)), .u, .u, .u, .u, .u], p⟩ = some (.rt v, e') := by
    rw [bent_eq]
    refine seq_at (e1 := ⟨[.p, .d (.tuple (cellL l)), .o (.list (cellL l)), .d (nD w), .u, .u, .u], p1⟩) ?_ (seq_at (e1 := ⟨[.p, .d (.tuple (cellL l)), .o (.list (cellL l)), .d (nD w), .d (nD k), .u, .u], p2⟩) (asg_at 4 h2) (seq_at (e1 := ⟨[.p, .d (.tuple (cellL l)), .o (.list (cellL l)), .d (nD w), .d (nD k), .d (.int l[k].1), .d (.int l[k].2)], p2⟩) ?_ ?_))
    · unfold parOD thenS
      rw [show op1 dListK (slotD 1) ⟨[.p, .d (.tuple (cellL l)), .u, .u, .u, .u, .u], p⟩ = some (.v (.list (cellL l)), p) from rfl]
      dsimp only
      rw [h1]
      rfl
    · unfold asgV thenS
      rw [op2_p (φ := dIx) (a := .list (cellL l)) (b := nD k) (c := cd l[k]) rfl rfl ((lst_ix (cellL l) k (by unfold cellL; rw [List.length_map]; exact hk)).trans (by unfold cellL; rw [List.getElem_map]))]
      rfl
    · unfold IFS slT at f1
      rw [i1] at f1
      exact f1
  exact ofFl_rt run
end Sb

set_option linter.all false
set_option maxRecDepth 100000
set_option maxHeartbeats 8000000
/-! the law itself -/
namespace Sb
open PySem PySem.Spec PyProof.Rows L2 Fw
open PySem.W (Datum DatumOrd Tup)
open Sc (C2 Padded)
section
variable {sl : List Slot} {p p1 : PenS}
theorem callN_p {n : Nat} {F : FF} {f : FG (List D)} {ds : List D} {x : D} (hf : f ⟨sl, p⟩ = some (.v ds, p1)) (hn : ds.length = n) (hF : ∀ p, F ds p = some (.v x, p)) : callN n F f ⟨sl, p⟩ = some (.v x, p1) := by
  unfold callN Fw.bindG; rw [hf]; dsimp only; rw [if_pos hn, hF]
theorem callX_p {n : Nat} {F : FF} {f : FG (List D)} {ds : List D} {x : Rs D} (hf : f ⟨sl, p⟩ = some (.v ds, p1)) (hn : ds.length = n) (hF : ∀ p, F ds p = some (x, p)) : callX n F f ⟨sl, p⟩ = some (x, p1) := by
  unfold callX Fw.bindG; rw [hf]; dsimp only; rw [if_pos hn, hF]
theorem test_p {f : FG D} {b : Bool} (hf : f ⟨sl, p⟩ = some (.v (.bool b), p1)) : testG f ⟨sl, p⟩ = some (.v b, p1) := by
  unfold testG Fw.bindG; rw [hf]; rfl
theorem if_p {c : FG Bool} {f g : FS} {b : Bool} {r : Option (Fl × Ev)} (hc : c ⟨sl, p⟩ = some (.v b, p1)) (h1 : b = true → f ⟨sl, p1⟩ = r) (h2 : b = false → g ⟨sl, p1⟩ = r) : ifS c f g ⟨sl, p⟩ = r := by
  unfold ifS
  refine then_at hc ?_
  cases b with
  | true => exact h1 rfl
  | false => exact h2 rfl
theorem or_p {f g : FG Bool} {r : Option (Rs Bool × PenS)} (hf : f ⟨sl, p⟩ = some (.v false, p1)) (h2 : g ⟨sl, p1⟩ = r) : orG f g ⟨sl, p⟩ = r := by
  unfold orG Fw.bindG
  rw [hf]
  exact h2
end
theorem forL_ex {ft : FT} {body : FS} {c : Int} {I : List Slot → Prop} (hc : 0 ≤ c) : ∀ (ds : List D), (∀ d ∈ ds, ∀ k sl p, I sl → GoodP k p → k < 999999900 → ∃ sl1 sl' p', ft d sl = some sl1 ∧ body ⟨sl1, p⟩ = some (.nx, ⟨sl', p'⟩) ∧ I sl' ∧ GoodP (k + c) p') →
    ∀ k sl p, I sl → GoodP k p → k + c * ds.length < 999999900 → ∃ sl' p', forL ft body ds ⟨sl, p⟩ = some (.nx, ⟨sl', p'⟩) ∧ I sl' ∧ GoodP (k + c * ds.length) p'
  | [], _, k, sl, p, hI, g, _ => ⟨sl, p, rfl, hI, by rw [List.length_nil]; simpa using g⟩
  | d :: ds, h, k, sl, p, hI, g, hk => by
    have e1 : k + c * ((d :: ds).length : Nat) = k + c + c * (ds.length : Nat) := by rw [List.length_cons]; rw [Int.natCast_succ, Int.mul_add]; omega
    have hm : 0 ≤ c * (ds.length : Nat) := Int.mul_nonneg hc (by omega)
    obtain ⟨sl1, sl2, p2, h1, h2, h3, h4⟩ := h d (.head _) k sl p hI g (by omega)
    obtain ⟨sl3, p3, h5, h6, h7⟩ := forL_ex hc ds (fun d hd => h d (.tail _ hd)) (k + c) sl2 p2 h3 h4 (by omega)
    refine ⟨sl3, p3, ?_, h6, by rw [e1]; exact h7⟩
    unfold forL
    dsimp only
    rw [h1]
    dsimp only
    rw [h2]
    exact h5
theorem w1 {p : PenS} (g : GoodP 0 p) : ∃ (h w : Int) (p' : PenS), W1 ⟨[.u, .p, .u, .u, .u, .u, .u, .u, .u, .u, .u], p⟩ = some (.nx, ⟨[.u, .p, .u, .u, .u, .u, .u, .u, .d (.int h), .u, .d (.int w)], p'⟩) ∧ 0 ≤ h ∧ h ≤ 12 ∧ 2 ≤ w ∧ w ≤ 100 ∧ GoodP 2 p' := by
  obtain ⟨a, p1, h1, a1, g1⟩ := draw_at (n := 10) (sl := [.u, .p, .u, .u, .u, .u, .u, .u, .u, .u, .u]) (f := consG (retG (.int 10)) (retG [])) 1 g (by omega) (by decide) (by decide) rfl rfl
  obtain ⟨b, p2, h2, b1, g2⟩ := draw_at (n := 89) (sl := [.u, .p, .u, .u, .u, .u, .u, .u, .u, .u, .u]) (f := consG (retG (.int 89)) (retG [])) 1 g1 (by omega) (by decide) (by decide) rfl rfl
  refine ⟨3 + a, 2 + b, p2, ?_, by omega, by omega, by omega, by omega, g2⟩
  unfold W1
  have tg := tup_at (ds := [.int (3 + (a : Int)), .int (2 + (b : Int))]) (cons_at (p1 := p1) (op2_at (a := .int 3) (b := .int (a : Int)) (p1 := p) (φ := dAdd) (f := retG (.int 3)) rfl h1 rfl) (cons_at (op2_at (a := .int 2) (b := .int (b : Int)) (p1 := p1) (φ := dAdd) (f := retG (.int 2)) rfl h2 rfl) (g := retG []) rfl)) (by show 2 ≤ 1000000; omega)
  unfold asgV
  exact then_at tg rfl
theorem w2 {p : PenS} {h w : Int} (g : GoodP 2 p) (h0 : 0 ≤ h) (h12 : h ≤ 12) : ∃ (h' : Int) (p' : PenS), W2 ⟨[.u, .p, .u, .u, .u, .u, .u, .u, .d (.int h), .u, .d (.int w)], p⟩ = some (.nx, ⟨[.u, .p, .u, .u, .u, .u, .u, .u, .d (.int h'), .u, .d (.int w)], p'⟩) ∧ 0 ≤ h' ∧ h' ≤ 12 ∧ GoodP 4 p' := by
  obtain ⟨a, p1, h1, a1, g1⟩ := draw_at (n := 4) (sl := [.u, .p, .u, .u, .u, .u, .u, .u, .d (.int h), .u, .d (.int w)]) (f := consG (retG (.int 4)) (retG [])) 1 g (by omega) (by decide) (by decide) rfl rfl
  have tst := test_p (op2_at (p1 := p1) h1 (g := retG (.int 0)) rfl (dEq_int a 0))
  by_cases a0 : (a : Int) = 0
  · obtain ⟨b, p2, h2, b1, g2⟩ := draw_at (n := 4) (sl := [.u, .p, .u, .u, .u, .u, .u, .u, .d (.int h), .u, .d (.int w)]) (f := consG (retG (.int 4)) (retG [])) 1 g1 (by omega) (by decide) (by decide) rfl rfl
    refine ⟨b, p2, ?_, by omega, by omega, g2⟩
    exact if_p tst (fun _ => asg_at 8 h2) (fun z => absurd a0 (of_decide_eq_false z))
  · exact ⟨h, p1, if_p tst (fun z => absurd (of_decide_eq_true z) a0) (fun _ => rfl), h0, h12, GoodP.up g1 (by omega)⟩
/-- what the loops leave of the law's names -/
def sL (m h w : Int) (x3 x4 x5 x6 x7 x9 : Slot) : List Slot := [.u, .p, .d (.int m), x3, x4, x5, x6, x7, .d (.int h), x9, .d (.int w)]
theorem w4 {p : PenS} {h w : Int} (g : GoodP 4 p) (h0 : 0 ≤ h) (h12 : h ≤ 12) : ∃ p', W4 ⟨sL (mostN w h) h w .u .u .u .u .u .u, p⟩ = some (.nx, ⟨sL (mostN w h) h w .u .u .u .u .u .u, p'⟩) ∧ GoodP 5 p' := by
  obtain ⟨a, p1, h1, a1, g1⟩ := draw_at (n := 2) (sl := sL (mostN w h) h w .u .u .u .u .u .u) (f := consG (retG (.int 2)) (retG [])) 1 g (by omega) (by decide) (by decide) rfl rfl
  refine ⟨p1, ?_, g1⟩
  have m0 : mostN a h = 0 := by
    unfold mostN
    rw [if_pos (.inl (by omega))]
  have t1 : testG (op2 dNe (callN 2 (defF false 2 F_most_extra) (consG (slotD 10) (consG (slotD 8) (retG [])))) (slotD 2)) ⟨sL (mostN w h) h w .u .u .u .u .u .u, p⟩ = some (.v false, p) := by
    have c1 := callN_at (sl := sL (mostN w h) h w .u .u .u .u .u .u) (p := p) (n := 2) (F := defF false 2 F_most_extra) (f := consG (slotD 10) (consG (slotD 8) (retG []))) (ds := [.int w, .int h]) rfl rfl (v_most w h (by omega) (by omega))
    generalize mostN w h = m at c1 ⊢
    refine test_at (op2_p (b := .int m) c1 rfl ?_)
    rw [dNe_int, decide_eq_true rfl]
    rfl
  have t2 : testG (op2 dNe (callN 2 (defF false 2 F_most_extra) (consG (callP 1 1 drawF (consG (retG (.int 2)) (retG []))) (consG (slotD 8) (retG [])))) (retG (.int 0))) ⟨sL (mostN w h) h w .u .u .u .u .u .u, p⟩ = some (.v false, p1) := by
    have v := v_most a h (by omega) (by omega)
    rw [m0] at v
    have c2 := callN_p (n := 2) (F := defF false 2 F_most_extra) (ds := [.int a, .int h]) (cons_at h1 (g := consG (slotD 8) (retG [])) rfl) rfl v
    refine test_p (op2_at (p1 := p1) (b := .int 0) c2 rfl ?_)
    rw [dNe_int]
    rfl
  exact if_p (b := false) (or_p t1 t2) (fun z => by cases z) (fun _ => rfl)
theorem rg_more (n : Nat) (hn : n ≤ 1000) : rg1D [.int ((n : Int) + 1)] = some ((List.range (n + 1)).map fun (k : Nat) => PyData.int (0 + (k : Int))) := by
  have e : rg1D [.int ((n : Int) + 1)] = if okR ((n : Int) + 1) = true then some (rgD 0 ((n : Int) + 1).toNat) else none := rfl
  rw [e, if_pos (by unfold okR; simp only [Bool.and_eq_true, decide_eq_true_eq]; omega), show ((n : Int) + 1).toNat = n + 1 by omega]
  rfl
theorem opt_at {α : Type} {o : Option α} {x : α} {sl : List Slot} {p : PenS} (h : o = some x) : optG o ⟨sl, p⟩ = some (.v x, p) := by
  unfold optG
  rw [h]
  rfl
theorem rgI_at {φ : List D → Option (List D)} {f : FG (List D)} {ds xs : List D} {sl : List Slot} {p : PenS} (hf : f ⟨sl, p⟩ = some (.v ds, p)) (h : φ ds = some xs) : rgI φ f ⟨sl, p⟩ = some (.v xs, p) := by
  unfold rgI Fw.bindG
  rw [hf]
  exact opt_at h
theorem w5_b {p : PenS} {h w : Int} (hw : 2 ≤ w) (hw2 : w ≤ 100) (h0 : 0 ≤ h) (h12 : h ≤ 12) (n k : Nat) (hk : (k : Int) ≤ mostN w h) : W5_B ⟨sL n h w (.d (nD k)) .u .u .u .u .u, p⟩ = some (.nx, ⟨sL n h w (.d (nD k)) .u .u .u .u .u, p⟩) := by
  have c : callN 3 (defF false 6 F__law_padded_right) (consG (slotD 10) (consG (slotD 8) (consG (slotD 3) (retG [])))) ⟨sL n h w (.d (nD k)) .u .u .u .u .u, p⟩ = some (.v (.bool true), p) := callN_at (ds := [.int w, .int h, nD k]) rfl rfl (fun p => v_padded_right hw hw2 h0 h12 k hk p)
  exact if_at (not_at (test_at c)) (fun z => by cases z) (fun _ => rfl)
theorem w5 {p : PenS} {h w : Int} (hw : 2 ≤ w) (hw2 : w ≤ 100) (h0 : 0 ≤ h) (h12 : h ≤ 12) (n : Nat) (hn : mostN w h = (n : Int)) : ∃ x3, W5 ⟨sL n h w .u .u .u .u .u .u, p⟩ = some (.nx, ⟨sL n h w x3 .u .u .u .u .u, p⟩) := by
  obtain ⟨k, k1, k2, k3, k4⟩ := most_room hw h0
  have rg : rgI rg1D (consG (op2 dAdd (slotD 2) (retG (.int 1))) (retG [])) ⟨sL n h w .u .u .u .u .u .u, p⟩ = some (.v ((List.range (n + 1)).map fun (k : Nat) => PyData.int (0 + (k : Int))), p) :=
    rgI_at (cons_at (a := .int ((n : Int) + 1)) (op2_p (a := .int n) (b := .int 1) rfl rfl rfl) rfl) (rg_more n (by omega))
  have loop := forS_of (α := Nat) (ft := nameT 3) (body := W5_B) (e := fun k => PyData.int (0 + (k : Int))) (sl := fun s : Slot => sL n h w s .u .u .u .u .u) (step := fun _ k => .d (.int (0 + (k : Int)))) (s := .u) (fun xs _ => ∀ k ∈ xs, k ≤ n) rg (fun k hk => by have := List.mem_range.mp hk; omega) (fun k xs s hp => by
    refine ⟨fun z hz => hp z (.tail _ hz), sL n h w (.d (.int (0 + (k : Int)))) .u .u .u .u .u, rfl, .inl ?_⟩
    have hk := hp k (.head _)
    have b := w5_b (p := p) hw hw2 h0 h12 n k (by omega)
    have e0 : (0 : Int) + (k : Int) = (k : Int) := Int.zero_add _
    rw [e0]
    exact b)
  exact ⟨_, loop⟩
/-! refusals -/
def lamF : FG D := callX 3 (defF false 3 F_padded) (consG (slotD 10) (consG (slotD 8) (consG (slotD 9) (retG []))))
theorem lam_at {w h : Int} (h0 : 0 ≤ h) (h12 : h ≤ 12) (o : D) (hb : ∀ p, defF false 2 F_is_below [o, .int (mostN w h + 1)] p = some (.v (.bool false), p)) (x3 x4 x5 x6 x7 : Slot) : lamD lamF (sL (mostN w h) h w x3 x4 x5 x6 x7 (.d o)) = oddR o := by
  unfold lamD lamF
  have c : callX 3 (defF false 3 F_padded) (consG (slotD 10) (consG (slotD 8) (consG (slotD 9) (retG [])))) ⟨fz (sL (mostN w h) h w x3 x4 x5 x6 x7 (.d o)), pen0⟩ = some (.x "BadNumber" ["number", "what"] [o, .str "extra"], pen0) := callX_p (ds := [.int w, .int h, o]) rfl rfl (x_padded h0 h12 o hb)
  rw [c]
  rfl
/-- the body behind what the lambda tells -/
def cmpG (o : D) : FG Bool := testG (op2 dNe (fun e => (whyRun 3 F__law_fault (oddR o) e.pen).map fun r => (.v r.1, r.2)) (tupG (consG (retG (.str "number")) (consG (retG (.str "extra")) (consG (op1 dRepr2 (slotD 9)) (retG []))))))
theorem w6_1 {w h : Int} {x3 x4 x5 x6 x7 : Slot} {p : PenS} (h0 : 0 ≤ h) (h12 : h ≤ 12) (o : D) (hb : ∀ p, defF false 2 F_is_below [o, .int (mostN w h + 1)] p = some (.v (.bool false), p))
    (hc : cmpG o ⟨sL (mostN w h) h w x3 x4 x5 x6 x7 (.d o), p⟩ = some (.v false, p)) : W6_B ⟨sL (mostN w h) h w x3 x4 x5 x6 x7 (.d o), p⟩ = some (.nx, ⟨sL (mostN w h) h w x3 x4 x5 x6 x7 (.d o), p⟩) := by
  have e : testG (op2 dNe (whyG 3 F__law_fault lamF) (tupG (consG (retG (.str "number")) (consG (retG (.str "extra")) (consG (op1 dRepr2 (slotD 9)) (retG [])))))) ⟨sL (mostN w h) h w x3 x4 x5 x6 x7 (.d o), p⟩ = some (.v false, p) := by
    have z : whyG 3 F__law_fault lamF ⟨sL (mostN w h) h w x3 x4 x5 x6 x7 (.d o), p⟩ = (whyRun 3 F__law_fault (oddR o) p).map fun r => (Rs.v r.1, r.2) := by
      show (whyRun 3 F__law_fault (lamD lamF (sL (mostN w h) h w x3 x4 x5 x6 x7 (.d o))) p).map _ = _
      rw [lam_at h0 h12 o hb]
    have z2 : testG (op2 dNe (whyG 3 F__law_fault lamF) (tupG (consG (retG (.str "number")) (consG (retG (.str "extra")) (consG (op1 dRepr2 (slotD 9)) (retG [])))))) ⟨sL (mostN w h) h w x3 x4 x5 x6 x7 (.d o), p⟩ = cmpG o ⟨sL (mostN w h) h w x3 x4 x5 x6 x7 (.d o), p⟩ := by
      unfold cmpG testG op2 Fw.bindG
      rw [z]
    rw [z2]
    exact hc
  exact if_at e (fun z => by cases z) (fun _ => rfl)
theorem cmp_m1 (m h w : Int) (x3 x4 x5 x6 x7 : Slot) (p : PenS) : cmpG (.int (-1)) ⟨sL m h w x3 x4 x5 x6 x7 (.d (.int (-1))), p⟩ = some (.v false, p) := by kernel_rfl
theorem cmp_none (m h w : Int) (x3 x4 x5 x6 x7 : Slot) (p : PenS) : cmpG .none ⟨sL m h w x3 x4 x5 x6 x7 (.d .none), p⟩ = some (.v false, p) := by kernel_rfl
theorem cmp_true (m h w : Int) (x3 x4 x5 x6 x7 : Slot) (p : PenS) : cmpG (.bool true) ⟨sL m h w x3 x4 x5 x6 x7 (.d (.bool true)), p⟩ = some (.v false, p) := by kernel_rfl
theorem cmp_str (m h w : Int) (x3 x4 x5 x6 x7 : Slot) (p : PenS) : cmpG (.str "1") ⟨sL m h w x3 x4 x5 x6 x7 (.d (.str "1")), p⟩ = some (.v false, p) := by kernel_rfl
theorem cmp_l1 (m h w : Int) (x3 x4 x5 x6 x7 : Slot) (p : PenS) : (List.range 100).map (fun (k : Nat) => cmpG (.int ((k : Int) + 1)) ⟨sL m h w x3 x4 x5 x6 x7 (.d (.int ((k : Int) + 1))), p⟩) = List.replicate 100 (some (.v false, p)) := by kernel_rfl
theorem cmp_l9 (m h w : Int) (x3 x4 x5 x6 x7 : Slot) (p : PenS) : (List.range 100).map (fun (k : Nat) => cmpG (.int ((k : Int) + 1000000000)) ⟨sL m h w x3 x4 x5 x6 x7 (.d (.int ((k : Int) + 1000000000))), p⟩) = List.replicate 100 (some (.v false, p)) := by kernel_rfl
end Sb

set_option linter.all false
set_option maxRecDepth 100000
set_option maxHeartbeats 8000000
/-! the law's end -/
namespace Sb
open PySem PySem.Spec PyProof.Rows L2 Fw
open PySem.W (Datum DatumOrd Tup)
open Sc (C2 Padded)
theorem rep_at {α : Type} {f : Nat → α} {c : α} {n k : Nat} (h : (List.range n).map f = List.replicate n c) (hk : k < n) : f k = c := by
  have z := congrArg (fun l => l[k]?) h
  simp only [List.getElem?_map, List.getElem?_range hk, List.getElem?_replicate, if_pos hk, Option.map_some] at z
  exact Option.some.inj z
theorem below_none (m : Int) (p : PenS) : defF false 2 F_is_below [.none, .int m] p = some (.v (.bool false), p) := by kernel_rfl
theorem below_true (m : Int) (p : PenS) : defF false 2 F_is_below [.bool true, .int m] p = some (.v (.bool false), p) := by kernel_rfl
theorem below_str (m : Int) (p : PenS) : defF false 2 F_is_below [.str "1", .int m] p = some (.v (.bool false), p) := by kernel_rfl
theorem below_big (m a : Int) (h : 1 ≤ a) (p : PenS) : defF false 2 F_is_below [.int (m + a), .int (m + 1)] p = some (.v (.bool false), p) := by
  rw [v_below, decide_eq_false (p := m + a < m + 1) (by omega), Bool.and_false]
theorem below_neg (m : Int) (p : PenS) : defF false 2 F_is_below [.int (-1), .int m] p = some (.v (.bool false), p) := by
  rw [v_below]
  rfl
theorem w6 {p : PenS} {h w : Int} {x3 : Slot} (hw : 2 ≤ w) (hw2 : w ≤ 100) (h0 : 0 ≤ h) (h12 : h ≤ 12) (n : Nat) (hn : mostN w h = (n : Int)) : ∃ x9, W6 ⟨sL n h w x3 .u .u .u .u .u, p⟩ = some (.nx, ⟨sL n h w x3 .u .u .u .u x9, p⟩) := by
  obtain ⟨k, k1, k2, k3, k4⟩ := most_room hw h0
  have n100 : n < 100 := by omega
  have it : seqI (lstG (consG (op2 dAdd (slotD 2) (retG (.int 1))) (consG (op1 dNeg (retG (.int 1))) (consG (retG .none) (consG (retG (.bool true)) (consG (retG (.str "1")) (consG (op2 dAdd (slotD 2) (op2 dPow (retG (.int 10)) (retG (.int 9)))) (retG [])))))))) ⟨sL n h w x3 .u .u .u .u .u, p⟩ = some (.v [.int ((n : Int) + 1), .int (-1), .none, .bool true, .str "1", .int ((n : Int) + 1000000000)], p) := by
    refine seqI_at (d := .list [.int ((n : Int) + 1), .int (-1), .none, .bool true, .str "1", .int ((n : Int) + 1000000000)]) (lst_at (cons_at (op2_p (a := .int n) (b := .int 1) rfl rfl rfl) (cons_at (p1 := p) rfl (cons_at (p1 := p) rfl (cons_at (p1 := p) rfl (cons_at (p1 := p) rfl (cons_at (op2_p (a := .int n) (b := .int 1000000000) rfl (by kernel_rfl) rfl) rfl)))))) (by show 6 ≤ 1000000; omega)) rfl
  have b1 : W6_B ⟨sL n h w x3 .u .u .u .u (.d (.int ((n : Int) + 1))), p⟩ = some (.nx, ⟨sL n h w x3 .u .u .u .u (.d (.int ((n : Int) + 1))), p⟩) := by
    have z := w6_1 (w := w) (x3 := x3) (x4 := .u) (x5 := .u) (x6 := .u) (x7 := .u) (p := p) h0 h12 (.int ((n : Int) + 1)) (fun p => by rw [hn]; exact below_big n 1 (by omega) p)
    rw [hn] at z
    exact z (rep_at (cmp_l1 n h w x3 .u .u .u .u p) n100)
  have b2 : W6_B ⟨sL n h w x3 .u .u .u .u (.d (.int (-1))), p⟩ = some (.nx, ⟨sL n h w x3 .u .u .u .u (.d (.int (-1))), p⟩) := by
    have z := w6_1 (w := w) (x3 := x3) (x4 := .u) (x5 := .u) (x6 := .u) (x7 := .u) (p := p) h0 h12 (.int (-1)) (fun p => below_neg _ p)
    rw [hn] at z
    exact z (cmp_m1 n h w x3 .u .u .u .u p)
  have b3 : W6_B ⟨sL n h w x3 .u .u .u .u (.d .none), p⟩ = some (.nx, ⟨sL n h w x3 .u .u .u .u (.d .none), p⟩) := by
    have z := w6_1 (w := w) (x3 := x3) (x4 := .u) (x5 := .u) (x6 := .u) (x7 := .u) (p := p) h0 h12 .none (fun p => below_none _ p)
    rw [hn] at z
    exact z (cmp_none n h w x3 .u .u .u .u p)
  have b4 : W6_B ⟨sL n h w x3 .u .u .u .u (.d (.bool true)), p⟩ = some (.nx, ⟨sL n h w x3 .u .u .u .u (.d (.bool true)), p⟩) := by
    have z := w6_1 (w := w) (x3 := x3) (x4 := .u) (x5 := .u) (x6 := .u) (x7 := .u) (p := p) h0 h12 (.bool true) (fun p => below_true _ p)
    rw [hn] at z
    exact z (cmp_true n h w x3 .u .u .u .u p)
  have b5 : W6_B ⟨sL n h w x3 .u .u .u .u (.d (.str "1")), p⟩ = some (.nx, ⟨sL n h w x3 .u .u .u .u (.d (.str "1")), p⟩) := by
    have z := w6_1 (w := w) (x3 := x3) (x4 := .u) (x5 := .u) (x6 := .u) (x7 := .u) (p := p) h0 h12 (.str "1") (fun p => below_str _ p)
    rw [hn] at z
    exact z (cmp_str n h w x3 .u .u .u .u p)
  have b6 : W6_B ⟨sL n h w x3 .u .u .u .u (.d (.int ((n : Int) + 1000000000))), p⟩ = some (.nx, ⟨sL n h w x3 .u .u .u .u (.d (.int ((n : Int) + 1000000000))), p⟩) := by
    have z := w6_1 (w := w) (x3 := x3) (x4 := .u) (x5 := .u) (x6 := .u) (x7 := .u) (p := p) h0 h12 (.int ((n : Int) + 1000000000)) (fun p => by rw [hn]; exact below_big n 1000000000 (by omega) p)
    rw [hn] at z
    exact z (rep_at (cmp_l9 n h w x3 .u .u .u .u p) n100)
  refine ⟨.d (.int ((n : Int) + 1000000000)), ?_⟩
  unfold W6 forS
  refine then_at it ?_
  exact forL_nx rfl b1 (forL_nx rfl b2 (forL_nx rfl b3 (forL_nx rfl b4 (forL_nx rfl b5 (forL_nx rfl b6 rfl)))))
theorem w7 {c : Int} {p : PenS} {h w : Int} {x3 x9 : Slot} (g : GoodP c p) (hc : c < 999999000) (hw : 2 ≤ w) (hw2 : w ≤ 100) (h0 : 0 ≤ h) (h12 : h ≤ 12) (n : Nat) (hn : mostN w h = (n : Int)) : ∃ (l : List C2) (p' : PenS), W7 ⟨sL n h w x3 .u .u .u .u x9, p⟩ = some (.nx, ⟨sL n h w x3 (.d (.tuple (cellL l))) .u .u .u x9, p'⟩) ∧ 0 < l.length ∧ l.length ≤ 900 ∧ GoodP (c + 1) p' := by
  obtain ⟨k, k1, k2, k3, k4⟩ := most_room hw h0
  obtain ⟨e, p1, h1, e1, g1⟩ := draw_at (n := (n : Int) + 1) (sl := sL n h w x3 .u .u .u .u x9) (f := consG (op2 dAdd (slotD 2) (retG (.int 1))) (retG [])) 1 g (by omega) (by omega) (by omega) rfl rfl
  obtain ⟨l, P, hp⟩ := v_padded hw hw2 h0 h12 e (by omega)
  have len := P.len
  refine ⟨l, p1, ?_, by omega, by omega, g1⟩
  exact asg_at 4 (callX_p (ds := [.int w, .int h, nD e]) (cons_at (a := .int w) (p1 := p) rfl (cons_at (a := .int h) (p1 := p) rfl (cons_at h1 rfl))) rfl hp)
/-! fixed values -/
def fixed : List D := [.none, .int 5, .tuple [], .str "ab", .tuple [.tuple [.int 0, .int 0]], .tuple [.tuple [.int 0, .int 0], .tuple [.int 1, .int 0], .tuple [.int 1, .int 1]], .tuple [.tuple [.int 0, .int 0], .tuple [.int 0, .int 0]]]
theorem dNe_bool (a b : Bool) : dNe (.bool a) (.bool b) = some (.bool (!decide (a = b))) := dNe_toD (α := Bool) (by decide) a b
theorem same_at {v : D} {b : Bool} {sl : List Slot} {p : PenS} (h5 : sl[5]? = some (.d v)) (ha : ∀ p, defF false 1 F_is_path [v] p = some (.v (.bool b), p)) (hb : ∀ p, defF false 6 F__law_is_path [v] p = some (.v (.bool b), p)) : W8_B ⟨sl, p⟩ = some (.nx, ⟨sl, p⟩) := by
  have s5 : slotD 5 ⟨sl, p⟩ = some (.v v, p) := by unfold slotD; rw [h5]
  refine if_at (b := false) (test_at (op2_p (a := .bool b) (b := .bool b) (callN_at (ds := [v]) (cons_at s5 rfl) rfl ha) (callN_at (ds := [v]) (cons_at s5 rfl) rfl hb) ?_)) (fun z => by cases z) (fun _ => rfl)
  rw [dNe_bool, decide_eq_true rfl]
  rfl
theorem its_same (is : List It) (hl : is.length ≤ 1000) {sl : List Slot} {p : PenS} (h5 : sl[5]? = some (.d (.tuple (is.map It.d)))) : W8_B ⟨sl, p⟩ = some (.nx, ⟨sl, p⟩) := same_at h5 (v_is_path is hl) (v_law_is_path is hl)
theorem w8 {p : PenS} {m h w : Int} {x3 x4 x9 : Slot} : ∃ x5, W8 ⟨sL m h w x3 x4 .u .u .u x9, p⟩ = some (.nx, ⟨sL m h w x3 x4 x5 .u .u x9, p⟩) := by
  refine ⟨.d (.tuple [.tuple [.int 0, .int 0], .tuple [.int 0, .int 0]]), ?_⟩
  unfold W8 forS
  refine then_at (a := fixed) rfl ?_
  refine forL_nx rfl (same_at (v := .none) (b := false) rfl (fun p => by kernel_rfl) (fun p => by kernel_rfl)) ?_
  refine forL_nx rfl (same_at (v := .int 5) (b := false) rfl (fun p => by kernel_rfl) (fun p => by kernel_rfl)) ?_
  refine forL_nx rfl (its_same [] (by decide) rfl) ?_
  refine forL_nx rfl (same_at (v := .str "ab") (b := false) rfl (fun p => by kernel_rfl) (fun p => by kernel_rfl)) ?_
  refine forL_nx rfl (its_same [.c (0, 0)] (by decide) rfl) ?_
  refine forL_nx rfl (its_same [.c (0, 0), .c (1, 0), .c (1, 1)] (by decide) rfl) ?_
  exact forL_nx rfl (its_same [.c (0, 0), .c (0, 0)] (by decide) rfl) rfl
/-! bent values -/
theorem w9 {c : Int} {p : PenS} {m h w : Int} {x3 x5 x9 : Slot} (g : GoodP c p) (hc : c < 999999000) (l : List C2) (l0 : 0 < l.length) (l9 : l.length ≤ 900) : ∃ e', W9 ⟨sL m h w x3 (.d (.tuple (cellL l))) x5 .u .u x9, p⟩ = some (.nx, e') := by
  obtain ⟨sl', p', h1, _, _⟩ := forL_ex (ft := nameT 6) (body := W9_B) (c := 5) (I := fun sl => ∃ y5 y6 y7, sl = sL m h w x3 (.d (.tuple (cellL l))) y5 y6 y7 x9) (by omega) (rgD 0 12) (fun d hd k sl p hI g hk => by
    obtain ⟨y5, y6, y7, rfl⟩ := hI
    obtain ⟨v, p', is, hb, hl, hv, g1⟩ := v_bent g (by omega) l l0 l9
    obtain ⟨b, ha, hb2⟩ : ∃ b, (∀ p, defF false 1 F_is_path [v] p = some (.v (.bool b), p)) ∧ (∀ p, defF false 6 F__law_is_path [v] p = some (.v (.bool b), p)) := by
      rcases hv with rfl | rfl
      · exact ⟨pathI is, v_is_path is hl, v_law_is_path is hl⟩
      · exact ⟨false, v_is_path_lst _, v_law_is_path_lst _⟩
    refine ⟨sL m h w x3 (.d (.tuple (cellL l))) y5 (.d d) y7 x9, sL m h w x3 (.d (.tuple (cellL l))) (.d v) (.d d) (.d (.bool b)) x9, p', rfl, ?_, ⟨_, _, _, rfl⟩, g1⟩
    refine seq_at (e1 := ⟨sL m h w x3 (.d (.tuple (cellL l))) (.d v) (.d d) y7 x9, p'⟩) (asg_at 5 (callP_at (ds := [.tuple (cellL l)]) rfl rfl rfl hb)) ?_
    refine seq_at (e1 := ⟨sL m h w x3 (.d (.tuple (cellL l))) (.d v) (.d d) (.d (.bool b)) x9, p'⟩) (asg_at 7 (callN_at (ds := [v]) rfl rfl ha)) ?_
    refine if_at (b := false) (orG_at (a := false) rfl (fun z => by cases z) (fun _ => test_at (op2_p (a := .bool b) (b := .bool b) rfl (callN_at (ds := [v]) rfl rfl hb2) ?_))) (fun z => by cases z) (fun _ => rfl)
    rw [dNe_bool, decide_eq_true rfl]
    rfl) c (sL m h w x3 (.d (.tuple (cellL l))) x5 .u .u x9) p ⟨_, _, _, rfl⟩ g (by show c + 5 * 12 < _; omega)
  refine ⟨⟨sl', p'⟩, ?_⟩
  unfold W9 forS
  exact then_at (a := rgD 0 12) rfl h1
theorem law_holds : ∀ pp, GoodP 0 pp → ∃ e', F_law ⟨lawSl 11, pp⟩ = some (.rt (.bool true), e') := by
  intro pp g
  obtain ⟨h1, w, p1, r1, a1, a2, a3, a4, g1⟩ := w1 g
  obtain ⟨h, p2, r2, b1, b2, g2⟩ := w2 (w := w) g1 a1 a2
  obtain ⟨k, k1, k2, k3, k4⟩ := most_room a3 b1
  obtain ⟨n, hn⟩ : ∃ n : Nat, mostN w h = (n : Int) := ⟨_, k1⟩
  have r3 : W3 ⟨[.u, .p, .u, .u, .u, .u, .u, .u, .d (.int h), .u, .d (.int w)], p2⟩ = some (.nx, ⟨sL (mostN w h) h w .u .u .u .u .u .u, p2⟩) := asg_at 2 (callN_at (ds := [.int w, .int h]) rfl rfl (v_law_most w h (by omega) (by omega)))
  obtain ⟨p4, r4, g4⟩ := w4 (w := w) g2 b1 b2
  rw [hn] at r3 r4
  obtain ⟨x3, r5⟩ := w5 (p := p4) a3 a4 b1 b2 n hn
  obtain ⟨x9, r6⟩ := w6 (p := p4) (x3 := x3) a3 a4 b1 b2 n hn
  obtain ⟨l, p7, r7, l0, l9, g7⟩ := w7 (x3 := x3) (x9 := x9) g4 (by omega) a3 a4 b1 b2 n hn
  obtain ⟨x5, r8⟩ := w8 (p := p7) (m := n) (h := h) (w := w) (x3 := x3) (x4 := .d (.tuple (cellL l))) (x9 := x9)
  obtain ⟨e', r9⟩ := w9 (m := n) (h := h) (w := w) (x3 := x3) (x5 := x5) (x9 := x9) g7 (by omega) l l0 l9
  refine ⟨e', ?_⟩
  show F_law ⟨[.u, .p, .u, .u, .u, .u, .u, .u, .u, .u, .u], pp⟩ = _
  unfold F_law
  exact seq_at r1 (seq_at r2 (seq_at r3 (seq_at r4 (seq_at r5 (seq_at r6 (seq_at r7 (seq_at r8 (seq_at r9 rfl))))))))
end Sb

set_option linter.all false
set_option maxRecDepth 100000
set_option maxHeartbeats 0
namespace Sb
open PySem PySem.Spec PyProof.Rows L2 Fw
theorem at__law_fault {K : PySem.W.Frag} {mg : Str → Option Value} {XC : Str → Option Addr} {g0 : Addr} {C_BadNumber C_BadRow : Addr} (T : Bv mg) (M : Exm ⟨K, XC⟩ ["BadNumber", "BadRow"]) (V_BadNumber : XC "BadNumber" = some C_BadNumber) (m_BadNumber : mg "BadNumber" = some (.ref C_BadNumber)) (X_BadNumber : XfC K C_BadNumber) (n_BadNumber_what : PySem.W.findIn K (.ref C_BadNumber) "what" = some none) (n_BadNumber_number : PySem.W.findIn K (.ref C_BadNumber) "number" = some none) (V_BadRow : XC "BadRow" = some C_BadRow) (m_BadRow : mg "BadRow" = some (.ref C_BadRow)) (X_BadRow : XfC K C_BadRow) (n_BadRow_row : PySem.W.findIn K (.ref C_BadRow) "row" = some none) (X : Cx) (eK : X.K = K) (em : X.mg = mg) (hg : X.A.guards = some []) (hu : X.A.units + 80 < cLine) (q0 : Str) (cd0 : Value) : LamX.GivesTo X ["_law_call", "_law_told", "error"] "_law_fault" (defScope (top 23)) g0 cd0 (defBody (top 23)) "_law_call" q0 (TTw ⟨K, XC⟩ 3 F__law_fault) := by
  subst eK
  subst em
  exact gives__law_fault T hg hu M V_BadNumber m_BadNumber X_BadNumber n_BadNumber_what n_BadNumber_number V_BadRow m_BadRow X_BadRow n_BadRow_row
theorem all_mk {l : PySem.W.OpenLaw} {w : World} {K : PySem.W.Frag} {h : Heap} {mg : Str → Option Value} {fa : Addr} (X : K.In h) (G : h.Ns mainGlobals mg) (hfa : mg "law" = some (.ref fa)) (own : OwnT fa h)
    {C_BadNumber N_BadNumber C_BadRow N_BadRow C_SparkError f_BadNumber f_BadRow f_is_integer f_is_below f_is_row f_is_cell f_are_told_cells f__are_paths f_is_path f_most_extra f__bump f__bumped f_padded f__law_pen f__law_draw f__law_pick f__law_is_whole f__law_fault f__law_is_cell f__law_near f__law_is_path f__law_most f__law_padded_right f__law_bent f_law c_law P_law : Addr} {q_BadNumber q_BadRow : Str} {bs_BadNumber sb_BadNumber bs_BadRow sb_BadRow : List Value} {sn_BadNumber sn_BadRow : List Str} {ab_BadNumber ab_BadRow : Bool} {co_BadNumber co_BadRow : Option Bool} {dd_BadNumber dd_BadRow od_BadNumber an_BadNumber od_BadRow an_BadRow od_is_integer an_is_integer od_is_below an_is_below od_is_row an_is_row od_is_cell an_is_cell od_are_told_cells an_are_told_cells od__are_paths an__are_paths od_is_path an_is_path od_most_extra an_most_extra od__bump an__bump od__bumped an__bumped od_padded an_padded od__law_pen an__law_pen od__law_draw an__law_draw od__law_pick an__law_pick od__law_is_whole an__law_is_whole od__law_fault an__law_fault od__law_is_cell an__law_is_cell od__law_near an__law_near od__law_is_path an__law_is_path od__law_most an__law_most od__law_padded_right an__law_padded_right od__law_bent an__law_bent od_law an_law oo_law : Option Addr} {k0_BadNumber k1_BadNumber k2_BadNumber k3_BadNumber k5_BadNumber k0_BadRow k1_BadRow k2_BadRow k3_BadRow k5_BadRow : Option Value} {oc_BadNumber kV_BadNumber dc_BadNumber pm_BadNumber cd_BadNumber ct_BadNumber oc_BadRow kV_BadRow dc_BadRow pm_BadRow cd_BadRow ct_BadRow oc_is_integer kV_is_integer dc_is_integer pm_is_integer cd_is_integer ct_is_integer oc_is_below kV_is_below dc_is_below pm_is_below cd_is_below ct_is_below oc_is_row kV_is_row dc_is_row pm_is_row cd_is_row ct_is_row oc_is_cell kV_is_cell dc_is_cell pm_is_cell cd_is_cell ct_is_cell oc_are_told_cells kV_are_told_cells dc_are_told_cells pm_are_told_cells cd_are_told_cells ct_are_told_cells oc__are_paths kV__are_paths dc__are_paths pm__are_paths cd__are_paths ct__are_paths oc_is_path kV_is_path dc_is_path pm_is_path cd_is_path ct_is_path oc_most_extra kV_most_extra dc_most_extra pm_most_extra cd_most_extra ct_most_extra oc__bump kV__bump dc__bump pm__bump cd__bump ct__bump oc__bumped kV__bumped dc__bumped pm__bumped cd__bumped ct__bumped oc_padded kV_padded dc_padded pm_padded cd_padded ct_padded oc__law_pen kV__law_pen dc__law_pen pm__law_pen cd__law_pen ct__law_pen oc__law_draw kV__law_draw dc__law_draw pm__law_draw cd__law_draw ct__law_draw oc__law_pick kV__law_pick dc__law_pick pm__law_pick cd__law_pick ct__law_pick oc__law_is_whole kV__law_is_whole dc__law_is_whole pm__law_is_whole cd__law_is_whole ct__law_is_whole oc__law_fault kV__law_fault dc__law_fault pm__law_fault cd__law_fault ct__law_fault oc__law_is_cell kV__law_is_cell dc__law_is_cell pm__law_is_cell cd__law_is_cell ct__law_is_cell oc__law_near kV__law_near dc__law_near pm__law_near cd__law_near ct__law_near oc__law_is_path kV__law_is_path dc__law_is_path pm__law_is_path cd__law_is_path ct__law_is_path oc__law_most kV__law_most dc__law_most pm__law_most cd__law_most ct__law_most oc__law_padded_right kV__law_padded_right dc__law_padded_right pm__law_padded_right cd__law_padded_right ct__law_padded_right oc__law_bent kV__law_bent dc__law_bent pm__law_bent cd__law_bent ct__law_bent oc_law kV_law dc_law pm_law ct_law oe_law : Value} {sl_BadNumber sl_BadRow sl_is_integer sl_is_below sl_is_row sl_is_cell sl_are_told_cells sl__are_paths sl_is_path sl_most_extra sl__bump sl__bumped sl_padded sl__law_pen sl__law_draw sl__law_pick sl__law_is_whole sl__law_fault sl__law_is_cell sl__law_near sl__law_is_path sl__law_most sl__law_padded_right sl__law_bent sl_law os_law : Array (Option Value)} {vs_law : Array Value}
    (hn : PySem.W.specialIn K (.builtin "object.__class__") "__get__" = some (some (.builtin "getset_descriptor.__get__")))
    (ht : PySem.W.takesIn K (.builtin "object.__class__") = some true)
    (g_BadNumber : PySem.W.nsIn K mainGlobals "BadNumber" = some (some (.ref C_BadNumber)))
    (x_BadNumber : K.lookup C_BadNumber = some (excClassObj "BadNumber" q_BadNumber C_BadNumber N_BadNumber bs_BadNumber [.ref C_SparkError, .type "ValueError", .type "Exception", .type "BaseException", .type "object"] true sn_BadNumber sb_BadNumber ab_BadNumber co_BadNumber dd_BadNumber k0_BadNumber k1_BadNumber k2_BadNumber k3_BadNumber k5_BadNumber "ValueError.__new__"))
    (sa_BadNumber : PySem.W.findIn K (.ref C_BadNumber) "__setattr__" = some (some (.builtin "object.__setattr__")))
    (ga_BadNumber : PySem.W.findIn K (.ref C_BadNumber) "__getattribute__" = some (some (.builtin "BaseException.__getattribute__")))
    (gg_BadNumber : PySem.W.findIn K (.ref C_BadNumber) "__getattr__" = some none)
    (hc_BadNumber : PySem.W.findIn K (.ref C_BadNumber) "__class__" = some (some (.builtin "object.__class__")))
    (kc_BadNumber : PySem.W.keepIn K (.ref C_BadNumber) = true)
    (n_BadNumber_what : PySem.W.findIn K (.ref C_BadNumber) "what" = some none)
    (n_BadNumber_number : PySem.W.findIn K (.ref C_BadNumber) "number" = some none)
    (g_BadRow : PySem.W.nsIn K mainGlobals "BadRow" = some (some (.ref C_BadRow)))
    (x_BadRow : K.lookup C_BadRow = some (excClassObj "BadRow" q_BadRow C_BadRow N_BadRow bs_BadRow [.ref C_SparkError, .type "ValueError", .type "Exception", .type "BaseException", .type "object"] true sn_BadRow sb_BadRow ab_BadRow co_BadRow dd_BadRow k0_BadRow k1_BadRow k2_BadRow k3_BadRow k5_BadRow "ValueError.__new__"))
    (sa_BadRow : PySem.W.findIn K (.ref C_BadRow) "__setattr__" = some (some (.builtin "object.__setattr__")))
    (ga_BadRow : PySem.W.findIn K (.ref C_BadRow) "__getattribute__" = some (some (.builtin "BaseException.__getattribute__")))
    (gg_BadRow : PySem.W.findIn K (.ref C_BadRow) "__getattr__" = some none)
    (hc_BadRow : PySem.W.findIn K (.ref C_BadRow) "__class__" = some (some (.builtin "object.__class__")))
    (kc_BadRow : PySem.W.keepIn K (.ref C_BadRow) = true)
    (n_BadRow_row : PySem.W.findIn K (.ref C_BadRow) "row" = some none)
    (m_BadNumber_BadNumber : PySem.W.exmOne K (.ref C_BadNumber) (.ref C_BadNumber) = some true)
    (m_BadNumber_BadRow : PySem.W.exmOne K (.ref C_BadNumber) (.ref C_BadRow) = some false)
    (m_BadRow_BadNumber : PySem.W.exmOne K (.ref C_BadRow) (.ref C_BadNumber) = some false)
    (m_BadRow_BadRow : PySem.W.exmOne K (.ref C_BadRow) (.ref C_BadRow) = some true)
    (a_BadNumber : PySem.W.findIn K (.ref C_BadNumber) "__init__" = some (some (.ref f_BadNumber)))
    (l_BadNumber : K.lookup f_BadNumber = some ⟨oc_BadNumber, od_BadNumber, .func (PySem.W.fnOf "__init__" "BadNumber.__init__" (defArgs (inClass (top 2) 0)) (defBody (inClass (top 2) 0)) (defScope (inClass (top 2) 0)) .none kV_BadNumber dc_BadNumber pm_BadNumber an_BadNumber cd_BadNumber ct_BadNumber), sl_BadNumber⟩)
    (c_BadNumber : PySem.W.codeIn K cd_BadNumber "BadNumber.__init__" = true)
    (k_BadNumber : PySem.W.keepIn K (.ref f_BadNumber) = true)
    (t_BadNumber : PySem.W.typeIn K (.ref f_BadNumber) = some (.type "function"))
    (a_BadRow : PySem.W.findIn K (.ref C_BadRow) "__init__" = some (some (.ref f_BadRow)))
    (l_BadRow : K.lookup f_BadRow = some ⟨oc_BadRow, od_BadRow, .func (PySem.W.fnOf "__init__" "BadRow.__init__" (defArgs (inClass (top 3) 0)) (defBody (inClass (top 3) 0)) (defScope (inClass (top 3) 0)) .none kV_BadRow dc_BadRow pm_BadRow an_BadRow cd_BadRow ct_BadRow), sl_BadRow⟩)
    (c_BadRow : PySem.W.codeIn K cd_BadRow "BadRow.__init__" = true)
    (k_BadRow : PySem.W.keepIn K (.ref f_BadRow) = true)
    (t_BadRow : PySem.W.typeIn K (.ref f_BadRow) = some (.type "function"))
    (a_is_integer : PySem.W.nsIn K mainGlobals "is_integer" = some (some (.ref f_is_integer)))
    (l_is_integer : K.lookup f_is_integer = some ⟨oc_is_integer, od_is_integer, .func (PySem.W.fnOf "is_integer" "is_integer" (defArgs (top 5)) (defBody (top 5)) (defScope (top 5)) .none kV_is_integer dc_is_integer pm_is_integer an_is_integer cd_is_integer ct_is_integer), sl_is_integer⟩)
    (c_is_integer : PySem.W.codeIn K cd_is_integer "is_integer" = true)
    (k_is_integer : PySem.W.keepIn K (.ref f_is_integer) = true)
    (a_is_below : PySem.W.nsIn K mainGlobals "is_below" = some (some (.ref f_is_below)))
    (l_is_below : K.lookup f_is_below = some ⟨oc_is_below, od_is_below, .func (PySem.W.fnOf "is_below" "is_below" (defArgs (top 6)) (defBody (top 6)) (defScope (top 6)) .none kV_is_below dc_is_below pm_is_below an_is_below cd_is_below ct_is_below), sl_is_below⟩)
    (c_is_below : PySem.W.codeIn K cd_is_below "is_below" = true)
    (k_is_below : PySem.W.keepIn K (.ref f_is_below) = true)
    (a_is_row : PySem.W.nsIn K mainGlobals "is_row" = some (some (.ref f_is_row)))
    (l_is_row : K.lookup f_is_row = some ⟨oc_is_row, od_is_row, .func (PySem.W.fnOf "is_row" "is_row" (defArgs (top 7)) (defBody (top 7)) (defScope (top 7)) .none kV_is_row dc_is_row pm_is_row an_is_row cd_is_row ct_is_row), sl_is_row⟩)
    (c_is_row : PySem.W.codeIn K cd_is_row "is_row" = true)
    (k_is_row : PySem.W.keepIn K (.ref f_is_row) = true)
    (a_is_cell : PySem.W.nsIn K mainGlobals "is_cell" = some (some (.ref f_is_cell)))
    (l_is_cell : K.lookup f_is_cell = some ⟨oc_is_cell, od_is_cell, .func (PySem.W.fnOf "is_cell" "is_cell" (defArgs (top 9)) (defBody (top 9)) (defScope (top 9)) .none kV_is_cell dc_is_cell pm_is_cell an_is_cell cd_is_cell ct_is_cell), sl_is_cell⟩)
    (c_is_cell : PySem.W.codeIn K cd_is_cell "is_cell" = true)
    (k_is_cell : PySem.W.keepIn K (.ref f_is_cell) = true)
    (a_are_told_cells : PySem.W.nsIn K mainGlobals "are_told_cells" = some (some (.ref f_are_told_cells)))
    (l_are_told_cells : K.lookup f_are_told_cells = some ⟨oc_are_told_cells, od_are_told_cells, .func (PySem.W.fnOf "are_told_cells" "are_told_cells" (defArgs (top 10)) (defBody (top 10)) (defScope (top 10)) .none kV_are_told_cells dc_are_told_cells pm_are_told_cells an_are_told_cells cd_are_told_cells ct_are_told_cells), sl_are_told_cells⟩)
    (c_are_told_cells : PySem.W.codeIn K cd_are_told_cells "are_told_cells" = true)
    (k_are_told_cells : PySem.W.keepIn K (.ref f_are_told_cells) = true)
    (a__are_paths : PySem.W.nsIn K mainGlobals "_are_paths" = some (some (.ref f__are_paths)))
    (l__are_paths : K.lookup f__are_paths = some ⟨oc__are_paths, od__are_paths, .func (PySem.W.fnOf "_are_paths" "_are_paths" (defArgs (top 12)) (defBody (top 12)) (defScope (top 12)) .none kV__are_paths dc__are_paths pm__are_paths an__are_paths cd__are_paths ct__are_paths), sl__are_paths⟩)
    (c__are_paths : PySem.W.codeIn K cd__are_paths "_are_paths" = true)
    (k__are_paths : PySem.W.keepIn K (.ref f__are_paths) = true)
    (a_is_path : PySem.W.nsIn K mainGlobals "is_path" = some (some (.ref f_is_path)))
    (l_is_path : K.lookup f_is_path = some ⟨oc_is_path, od_is_path, .func (PySem.W.fnOf "is_path" "is_path" (defArgs (top 13)) (defBody (top 13)) (defScope (top 13)) .none kV_is_path dc_is_path pm_is_path an_is_path cd_is_path ct_is_path), sl_is_path⟩)
    (c_is_path : PySem.W.codeIn K cd_is_path "is_path" = true)
    (k_is_path : PySem.W.keepIn K (.ref f_is_path) = true)
    (a_most_extra : PySem.W.nsIn K mainGlobals "most_extra" = some (some (.ref f_most_extra)))
    (l_most_extra : K.lookup f_most_extra = some ⟨oc_most_extra, od_most_extra, .func (PySem.W.fnOf "most_extra" "most_extra" (defArgs (top 14)) (defBody (top 14)) (defScope (top 14)) .none kV_most_extra dc_most_extra pm_most_extra an_most_extra cd_most_extra ct_most_extra), sl_most_extra⟩)
    (c_most_extra : PySem.W.codeIn K cd_most_extra "most_extra" = true)
    (k_most_extra : PySem.W.keepIn K (.ref f_most_extra) = true)
    (a__bump : PySem.W.nsIn K mainGlobals "_bump" = some (some (.ref f__bump)))
    (l__bump : K.lookup f__bump = some ⟨oc__bump, od__bump, .func (PySem.W.fnOf "_bump" "_bump" (defArgs (top 15)) (defBody (top 15)) (defScope (top 15)) .none kV__bump dc__bump pm__bump an__bump cd__bump ct__bump), sl__bump⟩)
    (c__bump : PySem.W.codeIn K cd__bump "_bump" = true)
    (k__bump : PySem.W.keepIn K (.ref f__bump) = true)
    (a__bumped : PySem.W.nsIn K mainGlobals "_bumped" = some (some (.ref f__bumped)))
    (l__bumped : K.lookup f__bumped = some ⟨oc__bumped, od__bumped, .func (PySem.W.fnOf "_bumped" "_bumped" (defArgs (top 16)) (defBody (top 16)) (defScope (top 16)) .none kV__bumped dc__bumped pm__bumped an__bumped cd__bumped ct__bumped), sl__bumped⟩)
    (c__bumped : PySem.W.codeIn K cd__bumped "_bumped" = true)
    (k__bumped : PySem.W.keepIn K (.ref f__bumped) = true)
    (a_padded : PySem.W.nsIn K mainGlobals "padded" = some (some (.ref f_padded)))
    (l_padded : K.lookup f_padded = some ⟨oc_padded, od_padded, .func (PySem.W.fnOf "padded" "padded" (defArgs (top 17)) (defBody (top 17)) (defScope (top 17)) .none kV_padded dc_padded pm_padded an_padded cd_padded ct_padded), sl_padded⟩)
    (c_padded : PySem.W.codeIn K cd_padded "padded" = true)
    (k_padded : PySem.W.keepIn K (.ref f_padded) = true)
    (a__law_pen : PySem.W.nsIn K mainGlobals "_law_pen" = some (some (.ref f__law_pen)))
    (l__law_pen : K.lookup f__law_pen = some ⟨oc__law_pen, od__law_pen, .func (PySem.W.fnOf "_law_pen" "_law_pen" (defArgs (top 19)) (defBody (top 19)) (defScope (top 19)) .none kV__law_pen dc__law_pen pm__law_pen an__law_pen cd__law_pen ct__law_pen), sl__law_pen⟩)
    (c__law_pen : PySem.W.codeIn K cd__law_pen "_law_pen" = true)
    (k__law_pen : PySem.W.keepIn K (.ref f__law_pen) = true)
    (a__law_draw : PySem.W.nsIn K mainGlobals "_law_draw" = some (some (.ref f__law_draw)))
    (l__law_draw : K.lookup f__law_draw = some ⟨oc__law_draw, od__law_draw, .func (PySem.W.fnOf "_law_draw" "_law_draw" (defArgs (top 20)) (defBody (top 20)) (defScope (top 20)) .none kV__law_draw dc__law_draw pm__law_draw an__law_draw cd__law_draw ct__law_draw), sl__law_draw⟩)
    (c__law_draw : PySem.W.codeIn K cd__law_draw "_law_draw" = true)
    (k__law_draw : PySem.W.keepIn K (.ref f__law_draw) = true)
    (a__law_pick : PySem.W.nsIn K mainGlobals "_law_pick" = some (some (.ref f__law_pick)))
    (l__law_pick : K.lookup f__law_pick = some ⟨oc__law_pick, od__law_pick, .func (PySem.W.fnOf "_law_pick" "_law_pick" (defArgs (top 21)) (defBody (top 21)) (defScope (top 21)) .none kV__law_pick dc__law_pick pm__law_pick an__law_pick cd__law_pick ct__law_pick), sl__law_pick⟩)
    (c__law_pick : PySem.W.codeIn K cd__law_pick "_law_pick" = true)
    (k__law_pick : PySem.W.keepIn K (.ref f__law_pick) = true)
    (a__law_is_whole : PySem.W.nsIn K mainGlobals "_law_is_whole" = some (some (.ref f__law_is_whole)))
    (l__law_is_whole : K.lookup f__law_is_whole = some ⟨oc__law_is_whole, od__law_is_whole, .func (PySem.W.fnOf "_law_is_whole" "_law_is_whole" (defArgs (top 22)) (defBody (top 22)) (defScope (top 22)) .none kV__law_is_whole dc__law_is_whole pm__law_is_whole an__law_is_whole cd__law_is_whole ct__law_is_whole), sl__law_is_whole⟩)
    (c__law_is_whole : PySem.W.codeIn K cd__law_is_whole "_law_is_whole" = true)
    (k__law_is_whole : PySem.W.keepIn K (.ref f__law_is_whole) = true)
    (a__law_fault : PySem.W.nsIn K mainGlobals "_law_fault" = some (some (.ref f__law_fault)))
    (l__law_fault : K.lookup f__law_fault = some ⟨oc__law_fault, od__law_fault, .func (PySem.W.fnOf "_law_fault" "_law_fault" (defArgs (top 23)) (defBody (top 23)) (defScope (top 23)) .none kV__law_fault dc__law_fault pm__law_fault an__law_fault cd__law_fault ct__law_fault), sl__law_fault⟩)
    (c__law_fault : PySem.W.codeIn K cd__law_fault "_law_fault" = true)
    (k__law_fault : PySem.W.keepIn K (.ref f__law_fault) = true)
    (a__law_is_cell : PySem.W.nsIn K mainGlobals "_law_is_cell" = some (some (.ref f__law_is_cell)))
    (l__law_is_cell : K.lookup f__law_is_cell = some ⟨oc__law_is_cell, od__law_is_cell, .func (PySem.W.fnOf "_law_is_cell" "_law_is_cell" (defArgs (top 24)) (defBody (top 24)) (defScope (top 24)) .none kV__law_is_cell dc__law_is_cell pm__law_is_cell an__law_is_cell cd__law_is_cell ct__law_is_cell), sl__law_is_cell⟩)
    (c__law_is_cell : PySem.W.codeIn K cd__law_is_cell "_law_is_cell" = true)
    (k__law_is_cell : PySem.W.keepIn K (.ref f__law_is_cell) = true)
    (a__law_near : PySem.W.nsIn K mainGlobals "_law_near" = some (some (.ref f__law_near)))
    (l__law_near : K.lookup f__law_near = some ⟨oc__law_near, od__law_near, .func (PySem.W.fnOf "_law_near" "_law_near" (defArgs (top 25)) (defBody (top 25)) (defScope (top 25)) .none kV__law_near dc__law_near pm__law_near an__law_near cd__law_near ct__law_near), sl__law_near⟩)
    (c__law_near : PySem.W.codeIn K cd__law_near "_law_near" = true)
    (k__law_near : PySem.W.keepIn K (.ref f__law_near) = true)
    (a__law_is_path : PySem.W.nsIn K mainGlobals "_law_is_path" = some (some (.ref f__law_is_path)))
    (l__law_is_path : K.lookup f__law_is_path = some ⟨oc__law_is_path, od__law_is_path, .func (PySem.W.fnOf "_law_is_path" "_law_is_path" (defArgs (top 26)) (defBody (top 26)) (defScope (top 26)) .none kV__law_is_path dc__law_is_path pm__law_is_path an__law_is_path cd__law_is_path ct__law_is_path), sl__law_is_path⟩)
    (c__law_is_path : PySem.W.codeIn K cd__law_is_path "_law_is_path" = true)
    (k__law_is_path : PySem.W.keepIn K (.ref f__law_is_path) = true)
    (a__law_most : PySem.W.nsIn K mainGlobals "_law_most" = some (some (.ref f__law_most)))
    (l__law_most : K.lookup f__law_most = some ⟨oc__law_most, od__law_most, .func (PySem.W.fnOf "_law_most" "_law_most" (defArgs (top 27)) (defBody (top 27)) (defScope (top 27)) .none kV__law_most dc__law_most pm__law_most an__law_most cd__law_most ct__law_most), sl__law_most⟩)
    (c__law_most : PySem.W.codeIn K cd__law_most "_law_most" = true)
    (k__law_most : PySem.W.keepIn K (.ref f__law_most) = true)
    (a__law_padded_right : PySem.W.nsIn K mainGlobals "_law_padded_right" = some (some (.ref f__law_padded_right)))
    (l__law_padded_right : K.lookup f__law_padded_right = some ⟨oc__law_padded_right, od__law_padded_right, .func (PySem.W.fnOf "_law_padded_right" "_law_padded_right" (defArgs (top 28)) (defBody (top 28)) (defScope (top 28)) .none kV__law_padded_right dc__law_padded_right pm__law_padded_right an__law_padded_right cd__law_padded_right ct__law_padded_right), sl__law_padded_right⟩)
    (c__law_padded_right : PySem.W.codeIn K cd__law_padded_right "_law_padded_right" = true)
    (k__law_padded_right : PySem.W.keepIn K (.ref f__law_padded_right) = true)
    (a__law_bent : PySem.W.nsIn K mainGlobals "_law_bent" = some (some (.ref f__law_bent)))
    (l__law_bent : K.lookup f__law_bent = some ⟨oc__law_bent, od__law_bent, .func (PySem.W.fnOf "_law_bent" "_law_bent" (defArgs (top 29)) (defBody (top 29)) (defScope (top 29)) .none kV__law_bent dc__law_bent pm__law_bent an__law_bent cd__law_bent ct__law_bent), sl__law_bent⟩)
    (c__law_bent : PySem.W.codeIn K cd__law_bent "_law_bent" = true)
    (k__law_bent : PySem.W.keepIn K (.ref f__law_bent) = true)
    (a_law : PySem.W.nsIn K mainGlobals "law" = some (some (.ref f_law)))
    (l_law : K.lookup f_law = some ⟨oc_law, od_law, .func (PySem.W.fnOf "law" "law" (defArgs (top 30)) (defBody (top 30)) (defScope (top 30)) .none kV_law dc_law pm_law an_law (.ref c_law) ct_law), sl_law⟩)
    (cd_law : PySem.W.codeIn K (.ref c_law) "law" = true)
    (lc_law : K.lookup c_law = some ⟨oe_law, oo_law, .fields vs_law, os_law⟩)
    (vt_law : vs_law[11]? = some (.ref P_law))
    (np_law : K.lookup P_law = none)
    (z_isinstance : PySem.W.nsIn K mainGlobals "isinstance" = some none)
    (z_int : PySem.W.nsIn K mainGlobals "int" = some none)
    (z_bool : PySem.W.nsIn K mainGlobals "bool" = some none)
    (z_str : PySem.W.nsIn K mainGlobals "str" = some none)
    (z_tuple : PySem.W.nsIn K mainGlobals "tuple" = some none)
    (z_list : PySem.W.nsIn K mainGlobals "list" = some none)
    (z_dict : PySem.W.nsIn K mainGlobals "dict" = some none)
    (z_set : PySem.W.nsIn K mainGlobals "set" = some none)
    (z_len : PySem.W.nsIn K mainGlobals "len" = some none)
    (z_all : PySem.W.nsIn K mainGlobals "all" = some none)
    (z_any : PySem.W.nsIn K mainGlobals "any" = some none)
    (z_enumerate : PySem.W.nsIn K mainGlobals "enumerate" = some none)
    (z_zip : PySem.W.nsIn K mainGlobals "zip" = some none)
    (z_range : PySem.W.nsIn K mainGlobals "range" = some none)
    (z_sorted : PySem.W.nsIn K mainGlobals "sorted" = some none)
    (z_max : PySem.W.nsIn K mainGlobals "max" = some none)
    (z_min : PySem.W.nsIn K mainGlobals "min" = some none)
    (z_abs : PySem.W.nsIn K mainGlobals "abs" = some none)
    (z_repr : PySem.W.nsIn K mainGlobals "repr" = some none)
    (z_reversed : PySem.W.nsIn K mainGlobals "reversed" = some none)
    (z_sum : PySem.W.nsIn K mainGlobals "sum" = some none)
    (z_divmod : PySem.W.nsIn K mainGlobals "divmod" = some none)
    : LawAt l w K 63 "_law_script" mg fa h := by
  have e := hfa.symm.trans (PySem.W.mg_of X G a_law)
  cases e
  have E_BadNumber : Err K mg (.ref C_SparkError :: veT) "BadNumber" C_BadNumber := ⟨PySem.W.mg_of X G g_BadNumber, ⟨_, _, _, _, _, _, _, _, _, _, _, _, _, x_BadNumber⟩, sa_BadNumber, ga_BadNumber, gg_BadNumber, hc_BadNumber, kc_BadNumber, hn, ht⟩
  have E_BadRow : Err K mg (.ref C_SparkError :: veT) "BadRow" C_BadRow := ⟨PySem.W.mg_of X G g_BadRow, ⟨_, _, _, _, _, _, _, _, _, _, _, _, _, x_BadRow⟩, sa_BadRow, ga_BadRow, gg_BadRow, hc_BadRow, kc_BadRow, hn, ht⟩
  have F_BadNumber := fun_mk (st := inClass (top 2) 0) l_BadNumber c_BadNumber k_BadNumber
  have b_BadNumber := F_BadNumber.binds (ps := ["self", "what", "number"]) fun _ _ _ _ _ _ us hl => match us, hl with | [_, _, _], _ => rfl
  have F_BadRow := fun_mk (st := inClass (top 3) 0) l_BadRow c_BadRow k_BadRow
  have b_BadRow := F_BadRow.binds (ps := ["self", "row"]) fun _ _ _ _ _ _ us hl => match us, hl with | [_, _], _ => rfl
  have F_is_integer := fun_mk (st := top 5) l_is_integer c_is_integer k_is_integer
  have b_is_integer := F_is_integer.binds (ps := ["value"]) fun _ _ _ _ _ _ us hl => match us, hl with | [_], _ => rfl
  have F_is_below := fun_mk (st := top 6) l_is_below c_is_below k_is_below
  have b_is_below := F_is_below.binds (ps := ["value", "end"]) fun _ _ _ _ _ _ us hl => match us, hl with | [_, _], _ => rfl
  have F_is_row := fun_mk (st := top 7) l_is_row c_is_row k_is_row
  have b_is_row := F_is_row.binds (ps := ["value"]) fun _ _ _ _ _ _ us hl => match us, hl with | [_], _ => rfl
  have F_is_cell := fun_mk (st := top 9) l_is_cell c_is_cell k_is_cell
  have b_is_cell := F_is_cell.binds (ps := ["value"]) fun _ _ _ _ _ _ us hl => match us, hl with | [_], _ => rfl
  have F_are_told_cells := fun_mk (st := top 10) l_are_told_cells c_are_told_cells k_are_told_cells
  have b_are_told_cells := F_are_told_cells.binds (ps := ["value"]) fun _ _ _ _ _ _ us hl => match us, hl with | [_], _ => rfl
  have F__are_paths := fun_mk (st := top 12) l__are_paths c__are_paths k__are_paths
  have b__are_paths := F__are_paths.binds (ps := ["rows"]) fun _ _ _ _ _ _ us hl => match us, hl with | [_], _ => rfl
  have F_is_path := fun_mk (st := top 13) l_is_path c_is_path k_is_path
  have b_is_path := F_is_path.binds (ps := ["cells"]) fun _ _ _ _ _ _ us hl => match us, hl with | [_], _ => rfl
  have F_most_extra := fun_mk (st := top 14) l_most_extra c_most_extra k_most_extra
  have b_most_extra := F_most_extra.binds (ps := ["width", "height"]) fun _ _ _ _ _ _ us hl => match us, hl with | [_, _], _ => rfl
  have F__bump := fun_mk (st := top 15) l__bump c__bump k__bump
  have b__bump := F__bump.binds (ps := ["x", "extra"]) fun _ _ _ _ _ _ us hl => match us, hl with | [_, _], _ => rfl
  have F__bumped := fun_mk (st := top 16) l__bumped c__bumped k__bumped
  have b__bumped := F__bumped.binds (ps := ["width", "height", "extra"]) fun _ _ _ _ _ _ us hl => match us, hl with | [_, _, _], _ => rfl
  have F_padded := fun_mk (st := top 17) l_padded c_padded k_padded
  have b_padded := F_padded.binds (ps := ["width", "height", "extra"]) fun _ _ _ _ _ _ us hl => match us, hl with | [_, _, _], _ => rfl
  have F__law_pen := fun_mk (st := top 19) l__law_pen c__law_pen k__law_pen
  have b__law_pen := F__law_pen.binds (ps := ["_law_script"]) fun _ _ _ _ _ _ us hl => match us, hl with | [_], _ => rfl
  have F__law_draw := fun_mk (st := top 20) l__law_draw c__law_draw k__law_draw
  have b__law_draw := F__law_draw.binds (ps := ["_law_pen_here", "_law_many"]) fun _ _ _ _ _ _ us hl => match us, hl with | [_, _], _ => rfl
  have F__law_pick := fun_mk (st := top 21) l__law_pick c__law_pick k__law_pick
  have b__law_pick := F__law_pick.binds (ps := ["_law_pen_here", "_law_some"]) fun _ _ _ _ _ _ us hl => match us, hl with | [_, _], _ => rfl
  have F__law_is_whole := fun_mk (st := top 22) l__law_is_whole c__law_is_whole k__law_is_whole
  have b__law_is_whole := F__law_is_whole.binds (ps := ["_law_thing"]) fun _ _ _ _ _ _ us hl => match us, hl with | [_], _ => rfl
  have F__law_fault := fun_mk (st := top 23) l__law_fault c__law_fault k__law_fault
  have b__law_fault := F__law_fault.binds (ps := ["_law_call"]) fun _ _ _ _ _ _ us hl => match us, hl with | [_], _ => rfl
  have F__law_is_cell := fun_mk (st := top 24) l__law_is_cell c__law_is_cell k__law_is_cell
  have b__law_is_cell := F__law_is_cell.binds (ps := ["_law_value"]) fun _ _ _ _ _ _ us hl => match us, hl with | [_], _ => rfl
  have F__law_near := fun_mk (st := top 25) l__law_near c__law_near k__law_near
  have b__law_near := F__law_near.binds (ps := ["_law_cell"]) fun _ _ _ _ _ _ us hl => match us, hl with | [_], _ => rfl
  have F__law_is_path := fun_mk (st := top 26) l__law_is_path c__law_is_path k__law_is_path
  have b__law_is_path := F__law_is_path.binds (ps := ["_law_value"]) fun _ _ _ _ _ _ us hl => match us, hl with | [_], _ => rfl
  have F__law_most := fun_mk (st := top 27) l__law_most c__law_most k__law_most
  have b__law_most := F__law_most.binds (ps := ["_law_width", "_law_height"]) fun _ _ _ _ _ _ us hl => match us, hl with | [_, _], _ => rfl
  have F__law_padded_right := fun_mk (st := top 28) l__law_padded_right c__law_padded_right k__law_padded_right
  have b__law_padded_right := F__law_padded_right.binds (ps := ["_law_width", "_law_height", "_law_extra"]) fun _ _ _ _ _ _ us hl => match us, hl with | [_, _, _], _ => rfl
  have F__law_bent := fun_mk (st := top 29) l__law_bent c__law_bent k__law_bent
  have b__law_bent := F__law_bent.binds (ps := ["_law_pen_here", "_law_path"]) fun _ _ _ _ _ _ us hl => match us, hl with | [_, _], _ => rfl
  have T : Bv mg := ⟨PySem.W.mg_none_of X G z_isinstance, PySem.W.mg_none_of X G z_int, PySem.W.mg_none_of X G z_bool, PySem.W.mg_none_of X G z_str, PySem.W.mg_none_of X G z_tuple, PySem.W.mg_none_of X G z_list, PySem.W.mg_none_of X G z_dict, PySem.W.mg_none_of X G z_set, PySem.W.mg_none_of X G z_len, PySem.W.mg_none_of X G z_all, PySem.W.mg_none_of X G z_any, PySem.W.mg_none_of X G z_enumerate, PySem.W.mg_none_of X G z_zip, PySem.W.mg_none_of X G z_range, PySem.W.mg_none_of X G z_sorted, PySem.W.mg_none_of X G z_max, PySem.W.mg_none_of X G z_min, PySem.W.mg_none_of X G z_abs, PySem.W.mg_none_of X G z_repr, PySem.W.mg_none_of X G z_reversed, PySem.W.mg_none_of X G z_sum, PySem.W.mg_none_of X G z_divmod⟩
  obtain ⟨XC, hXC⟩ : ∃ XC : Str → Option Addr, XC = fun x => List.lookup x [(("BadNumber" : Str), C_BadNumber), (("BadRow" : Str), C_BadRow)] := ⟨_, rfl⟩
  have y_BadNumber : XC "BadNumber" = some C_BadNumber := by rw [hXC]; kernel_rfl
  have y_BadRow : XC "BadRow" = some C_BadRow := by rw [hXC]; kernel_rfl
  have EX : Exm ⟨K, XC⟩ ([(("BadNumber" : Str), C_BadNumber), (("BadRow" : Str), C_BadRow)].map (·.1)) := Exm.of (G := ⟨K, XC⟩) [(("BadNumber" : Str), C_BadNumber), (("BadRow" : Str), C_BadRow)] (List.forall_mem_cons.mpr ⟨y_BadNumber, List.forall_mem_cons.mpr ⟨y_BadRow, (fun _ h => nomatch h)⟩⟩)
    (List.forall_mem_cons.mpr ⟨List.forall_mem_cons.mpr ⟨(m_BadNumber_BadNumber.trans (by kernel_rfl)), List.forall_mem_cons.mpr ⟨(m_BadNumber_BadRow.trans (by kernel_rfl)), (fun _ h => nomatch h)⟩⟩, List.forall_mem_cons.mpr ⟨List.forall_mem_cons.mpr ⟨(m_BadRow_BadNumber.trans (by kernel_rfl)), List.forall_mem_cons.mpr ⟨(m_BadRow_BadRow.trans (by kernel_rfl)), (fun _ h => nomatch h)⟩⟩, (fun _ h => nomatch h)⟩⟩)
  have W__law_fault : WhyAt K mg "_law_fault" "_law_call" (top 23) f__law_fault := ⟨PySem.W.mg_of X G a__law_fault, k__law_fault, _, _, _, _, _, _, _, _, _, l__law_fault, c__law_fault, b__law_fault⟩
  have Y__law_fault := fun Xc eK em hg hu q0 cd0 => at__law_fault (g0 := f__law_fault) T EX y_BadNumber (PySem.W.mg_of X G g_BadNumber) (E_BadNumber.xf hasB) n_BadNumber_what n_BadNumber_number y_BadRow (PySem.W.mg_of X G g_BadRow) (E_BadRow.xf hasB) n_BadRow_row Xc eK em hg hu q0 cd0
  obtain ⟨hP, hC⟩ := own.at X l_law lc_law vt_law
  refine ⟨(PySem.W.fnOf "law" "law" (defArgs (top 30)) (defBody (top 30)) (defScope (top 30)) .none kV_law dc_law pm_law an_law (.ref c_law) ct_law), [(c_law, P_law)], spLaw K [(P_law, ((("law" : Str) ++ (".<locals>." : Str)) ++ ("<lambda>" : Str)))], fun p hp => ?_, fun p hp => ?_, fun p hp => ?_, fun s u => .of_eq rfl, fun H a ns hl hH hS => ⟨a, ns, rfl, hS, hl, fun t ht => ?_, fun _ => rfl⟩, fun base XB GB HT => ?_⟩
  · rw [List.mem_singleton.mp hp]; exact hP
  · rw [List.mem_singleton.mp hp]; exact np_law
  · rw [List.mem_singleton.mp hp]; exact hC
  · rw [List.mem_singleton.mp ht]; exact hH _ (List.mem_singleton.mpr rfl)
  have H_BadNumber : Exn K XC mg l.prog w base "BadNumber" ["what", "number"] ["self", "what", "number"] C_BadNumber f_BadNumber _ := ⟨E_BadNumber.oex hasB refsS, a_BadNumber, t_BadNumber, ok_BadNumber_init F_BadNumber (E_BadNumber.oex hasB refsS) n_BadNumber_what n_BadNumber_number, b_BadNumber, PySem.W.mg_of X G g_BadNumber, y_BadNumber⟩
  have H_BadRow : Exn K XC mg l.prog w base "BadRow" ["row"] ["self", "row"] C_BadRow f_BadRow _ := ⟨E_BadRow.oex hasB refsS, a_BadRow, t_BadRow, ok_BadRow_init F_BadRow (E_BadRow.oex hasB refsS) n_BadRow_row, b_BadRow, PySem.W.mg_of X G g_BadRow, y_BadRow⟩
  have H_is_integer : Fw.Fn K mg l.prog w base CX0 "is_integer" 1 f_is_integer _ ["value"] (spN ⟨K, XC⟩ false 1 (defF false 1 Sb.F_is_integer)) := ⟨PySem.W.mg_of X G a_is_integer, k_is_integer, b_is_integer, ok_is_integer F_is_integer T⟩
  have H_is_below : Fw.Fn K mg l.prog w base CX0 "is_below" 2 f_is_below _ ["value", "end"] (spN ⟨K, XC⟩ false 2 (defF false 2 Sb.F_is_below)) := ⟨PySem.W.mg_of X G a_is_below, k_is_below, b_is_below, ok_is_below F_is_below T H_is_integer⟩
  have H_is_row : Fw.Fn K mg l.prog w base CX0 "is_row" 1 f_is_row _ ["value"] (spN ⟨K, XC⟩ false 1 (defF false 1 Sb.F_is_row)) := ⟨PySem.W.mg_of X G a_is_row, k_is_row, b_is_row, ok_is_row F_is_row T⟩
  have H_is_cell : Fw.Fn K mg l.prog w base CX0 "is_cell" 2 f_is_cell _ ["value"] (spN ⟨K, XC⟩ false 1 (defF false 1 Sb.F_is_cell)) := ⟨PySem.W.mg_of X G a_is_cell, k_is_cell, b_is_cell, ok_is_cell F_is_cell T H_is_row H_is_integer⟩
  have H_are_told_cells : Fw.Fn K mg l.prog w base CX0 "are_told_cells" 3 f_are_told_cells _ ["value"] (spN ⟨K, XC⟩ false 1 (defF false 2 Sb.F_are_told_cells)) := ⟨PySem.W.mg_of X G a_are_told_cells, k_are_told_cells, b_are_told_cells, ok_are_told_cells F_are_told_cells T H_is_cell⟩
  have H__are_paths : Fw.Fn K mg l.prog w base CX0 "_are_paths" 1 f__are_paths _ ["rows"] (spN ⟨K, XC⟩ false 1 (defF false 9 Sb.F__are_paths)) := ⟨PySem.W.mg_of X G a__are_paths, k__are_paths, b__are_paths, ok__are_paths F__are_paths T⟩
  have H_is_path : Fw.Fn K mg l.prog w base CX0 "is_path" 4 f_is_path _ ["cells"] (spN ⟨K, XC⟩ false 1 (defF false 1 Sb.F_is_path)) := ⟨PySem.W.mg_of X G a_is_path, k_is_path, b_is_path, ok_is_path F_is_path T H_are_told_cells H__are_paths⟩
  have H_most_extra : Fw.Fn K mg l.prog w base CX0 "most_extra" 1 f_most_extra _ ["width", "height"] (spN ⟨K, XC⟩ false 2 (defF false 2 Sb.F_most_extra)) := ⟨PySem.W.mg_of X G a_most_extra, k_most_extra, b_most_extra, ok_most_extra F_most_extra T⟩
  have H__bump : Fw.Fn K mg l.prog w base CX0 "_bump" 1 f__bump _ ["x", "extra"] (spN ⟨K, XC⟩ false 2 (defF false 5 Sb.F__bump)) := ⟨PySem.W.mg_of X G a__bump, k__bump, b__bump, ok__bump F__bump T⟩
  have H__bumped : Fw.Fn K mg l.prog w base CX0 "_bumped" 2 f__bumped _ ["width", "height", "extra"] (spN ⟨K, XC⟩ false 3 (defF false 6 Sb.F__bumped)) := ⟨PySem.W.mg_of X G a__bumped, k__bumped, b__bumped, ok__bumped F__bumped T H__bump⟩
  have H_padded : Fw.Fn K mg l.prog w base (L2.CX l.prog w) "padded" 3 f_padded _ ["width", "height", "extra"] (spX ⟨K, XC⟩ false 3 (defF false 3 Sb.F_padded)) := ⟨PySem.W.mg_of X G a_padded, k_padded, b_padded, ok_padded F_padded T H_is_below H_most_extra H__bumped H_BadNumber⟩
  have H__law_pen : Fw.Fn K mg l.prog w base CX0 "_law_pen" 1 f__law_pen _ ["_law_script"] (Fw.spPen K) := ⟨PySem.W.mg_of X G a__law_pen, k__law_pen, b__law_pen, ok_pen F__law_pen T⟩
  have H__law_draw : Fw.Fn K mg l.prog w base CX0 "_law_draw" 1 f__law_draw _ ["_law_pen_here", "_law_many"] (spN ⟨K, XC⟩ true 1 drawF) := ⟨PySem.W.mg_of X G a__law_draw, k__law_draw, b__law_draw, ok__law_draw F__law_draw T⟩
  have H__law_pick : Fw.Fn K mg l.prog w base CX0 "_law_pick" 2 f__law_pick _ ["_law_pen_here", "_law_some"] (spN ⟨K, XC⟩ true 1 (defF true 2 Sb.F__law_pick)) := ⟨PySem.W.mg_of X G a__law_pick, k__law_pick, b__law_pick, ok__law_pick F__law_pick T H__law_draw⟩
  have H__law_is_whole : Fw.Fn K mg l.prog w base CX0 "_law_is_whole" 1 f__law_is_whole _ ["_law_thing"] (spN ⟨K, XC⟩ false 1 (defF false 1 Sb.F__law_is_whole)) := ⟨PySem.W.mg_of X G a__law_is_whole, k__law_is_whole, b__law_is_whole, ok__law_is_whole F__law_is_whole T⟩
  have H__law_is_cell : Fw.Fn K mg l.prog w base CX0 "_law_is_cell" 2 f__law_is_cell _ ["_law_value"] (spN ⟨K, XC⟩ false 1 (defF false 1 Sb.F__law_is_cell)) := ⟨PySem.W.mg_of X G a__law_is_cell, k__law_is_cell, b__law_is_cell, ok__law_is_cell F__law_is_cell T H__law_is_whole⟩
  have H__law_near : Fw.Fn K mg l.prog w base CX0 "_law_near" 1 f__law_near _ ["_law_cell"] (spN ⟨K, XC⟩ false 1 (defF false 6 Sb.F__law_near)) := ⟨PySem.W.mg_of X G a__law_near, k__law_near, b__law_near, ok__law_near F__law_near T⟩
  have H__law_is_path : Fw.Fn K mg l.prog w base CX0 "_law_is_path" 3 f__law_is_path _ ["_law_value"] (spN ⟨K, XC⟩ false 1 (defF false 6 Sb.F__law_is_path)) := ⟨PySem.W.mg_of X G a__law_is_path, k__law_is_path, b__law_is_path, ok__law_is_path F__law_is_path T H__law_is_cell H__law_near⟩
  have H__law_most : Fw.Fn K mg l.prog w base CX0 "_law_most" 1 f__law_most _ ["_law_width", "_law_height"] (spN ⟨K, XC⟩ false 2 (defF false 2 Sb.F__law_most)) := ⟨PySem.W.mg_of X G a__law_most, k__law_most, b__law_most, ok__law_most F__law_most T⟩
  have H__law_padded_right : Fw.Fn K mg l.prog w base CX0 "_law_padded_right" 5 f__law_padded_right _ ["_law_width", "_law_height", "_law_extra"] (spN ⟨K, XC⟩ false 3 (defF false 6 Sb.F__law_padded_right)) := ⟨PySem.W.mg_of X G a__law_padded_right, k__law_padded_right, b__law_padded_right, ok__law_padded_right F__law_padded_right T H_padded H__law_is_path H_is_path⟩
  have H__law_bent : Fw.Fn K mg l.prog w base CX0 "_law_bent" 3 f__law_bent _ ["_law_pen_here", "_law_path"] (spN ⟨K, XC⟩ true 1 (defF true 7 Sb.F__law_bent)) := ⟨PySem.W.mg_of X G a__law_bent, k__law_bent, b__law_bent, ok__law_bent F__law_bent T H__law_draw H__law_pick⟩
  exact ok_law l_law cd_law T rfl (HT _ (List.mem_singleton.mpr rfl)) H__law_pen H__law_draw H__law_most H_most_extra H__law_padded_right H_padded H_is_path H__law_is_path H__law_bent W__law_fault Y__law_fault law_holds
end Sb
open PySem PySem.W PyProof.Rows
set_option maxRecDepth 100000 in
set_option maxHeartbeats 0 in
theorem PySem.Challenge.cw_sparkboard_k24_whole_wires_of_each_lengt_holds : PySem.Challenge.rw_sparkboard_k24_whole_wires_of_each_lengt.Holds := by
  w_on; o_law; k_head; (case hw => w_witness2)
  k_fill
  refine Fw.walk_T (l := PySem.Challenge.rw_sparkboard_k24_whole_wires_of_each_lengt) (n := 63) (x := "_law_script") rfl (by decide) rfl (by kernel_rfl) ?F
  case F =>
    intro w mg fa h Y G hmg
    have KX := PySem.W.km_in_of Y
    refine' ⟨_, KX, fun own => ?_⟩
    refine' Sb.all_mk KX G hmg own ?hn ?ht ?g_BadNumber ?x_BadNumber ?sa_BadNumber ?ga_BadNumber ?gg_BadNumber ?hc_BadNumber ?kc_BadNumber ?n_BadNumber_what ?n_BadNumber_number ?g_BadRow ?x_BadRow ?sa_BadRow ?ga_BadRow ?gg_BadRow ?hc_BadRow ?kc_BadRow ?n_BadRow_row ?m_BadNumber_BadNumber ?m_BadNumber_BadRow ?m_BadRow_BadNumber ?m_BadRow_BadRow ?a_BadNumber ?l_BadNumber ?c_BadNumber ?k_BadNumber ?t_BadNumber ?a_BadRow ?l_BadRow ?c_BadRow ?k_BadRow ?t_BadRow ?a_is_integer ?l_is_integer ?c_is_integer ?k_is_integer ?a_is_below ?l_is_below ?c_is_below ?k_is_below ?a_is_row ?l_is_row ?c_is_row ?k_is_row ?a_is_cell ?l_is_cell ?c_is_cell ?k_is_cell ?a_are_told_cells ?l_are_told_cells ?c_are_told_cells ?k_are_told_cells ?a__are_paths ?l__are_paths ?c__are_paths ?k__are_paths ?a_is_path ?l_is_path ?c_is_path ?k_is_path ?a_most_extra ?l_most_extra ?c_most_extra ?k_most_extra ?a__bump ?l__bump ?c__bump ?k__bump ?a__bumped ?l__bumped ?c__bumped ?k__bumped ?a_padded ?l_padded ?c_padded ?k_padded ?a__law_pen ?l__law_pen ?c__law_pen ?k__law_pen ?a__law_draw ?l__law_draw ?c__law_draw ?k__law_draw ?a__law_pick ?l__law_pick ?c__law_pick ?k__law_pick ?a__law_is_whole ?l__law_is_whole ?c__law_is_whole ?k__law_is_whole ?a__law_fault ?l__law_fault ?c__law_fault ?k__law_fault ?a__law_is_cell ?l__law_is_cell ?c__law_is_cell ?k__law_is_cell ?a__law_near ?l__law_near ?c__law_near ?k__law_near ?a__law_is_path ?l__law_is_path ?c__law_is_path ?k__law_is_path ?a__law_most ?l__law_most ?c__law_most ?k__law_most ?a__law_padded_right ?l__law_padded_right ?c__law_padded_right ?k__law_padded_right ?a__law_bent ?l__law_bent ?c__law_bent ?k__law_bent ?a_law ?l_law ?cd_law ?lc_law ?vt_law ?np_law ?z_isinstance ?z_int ?z_bool ?z_str ?z_tuple ?z_list ?z_dict ?z_set ?z_len ?z_all ?z_any ?z_enumerate ?z_zip ?z_range ?z_sorted ?z_max ?z_min ?z_abs ?z_repr ?z_reversed ?z_sum ?z_divmod
    (case hn => k_is)
    (case ht => k_is)
    (case g_BadNumber => k_is)
    (case x_BadNumber => k_is)
    (case sa_BadNumber => k_is)
    (case ga_BadNumber => k_is)
    (case gg_BadNumber => k_is)
    (case hc_BadNumber => k_is)
    (case kc_BadNumber => k_is)
    (case n_BadNumber_what => k_is)
    (case n_BadNumber_number => k_is)
    (case g_BadRow => k_is)
    (case x_BadRow => k_is)
    (case sa_BadRow => k_is)
    (case ga_BadRow => k_is)
    (case gg_BadRow => k_is)
    (case hc_BadRow => k_is)
    (case kc_BadRow => k_is)
    (case n_BadRow_row => k_is)
    (case m_BadNumber_BadNumber => kts_exm)
    (case m_BadNumber_BadRow => kts_exm)
    (case m_BadRow_BadNumber => kts_exm)
    (case m_BadRow_BadRow => kts_exm)
    (case a_BadNumber => k_is)
    (case l_BadNumber => k_is)
    (case c_BadNumber => k_is)
    (case k_BadNumber => k_is)
    (case t_BadNumber => k_is)
    (case a_BadRow => k_is)
    (case l_BadRow => k_is)
    (case c_BadRow => k_is)
    (case k_BadRow => k_is)
    (case t_BadRow => k_is)
    (case a_is_integer => k_is)
    (case l_is_integer => k_is)
    (case c_is_integer => k_is)
    (case k_is_integer => k_is)
    (case a_is_below => k_is)
    (case l_is_below => k_is)
    (case c_is_below => k_is)
    (case k_is_below => k_is)
    (case a_is_row => k_is)
    (case l_is_row => k_is)
    (case c_is_row => k_is)
    (case k_is_row => k_is)
    (case a_is_cell => k_is)
    (case l_is_cell => k_is)
    (case c_is_cell => k_is)
    (case k_is_cell => k_is)
    (case a_are_told_cells => k_is)
    (case l_are_told_cells => k_is)
    (case c_are_told_cells => k_is)
    (case k_are_told_cells => k_is)
    (case a__are_paths => k_is)
    (case l__are_paths => k_is)
    (case c__are_paths => k_is)
    (case k__are_paths => k_is)
    (case a_is_path => k_is)
    (case l_is_path => k_is)
    (case c_is_path => k_is)
    (case k_is_path => k_is)
    (case a_most_extra => k_is)
    (case l_most_extra => k_is)
    (case c_most_extra => k_is)
    (case k_most_extra => k_is)
    (case a__bump => k_is)
    (case l__bump => k_is)
    (case c__bump => k_is)
    (case k__bump => k_is)
    (case a__bumped => k_is)
    (case l__bumped => k_is)
    (case c__bumped => k_is)
    (case k__bumped => k_is)
    (case a_padded => k_is)
    (case l_padded => k_is)
    (case c_padded => k_is)
    (case k_padded => k_is)
    (case a__law_pen => k_is)
    (case l__law_pen => k_is)
    (case c__law_pen => k_is)
    (case k__law_pen => k_is)
    (case a__law_draw => k_is)
    (case l__law_draw => k_is)
    (case c__law_draw => k_is)
    (case k__law_draw => k_is)
    (case a__law_pick => k_is)
    (case l__law_pick => k_is)
    (case c__law_pick => k_is)
    (case k__law_pick => k_is)
    (case a__law_is_whole => k_is)
    (case l__law_is_whole => k_is)
    (case c__law_is_whole => k_is)
    (case k__law_is_whole => k_is)
    (case a__law_fault => k_is)
    (case l__law_fault => k_is)
    (case c__law_fault => k_is)
    (case k__law_fault => k_is)
    (case a__law_is_cell => k_is)
    (case l__law_is_cell => k_is)
    (case c__law_is_cell => k_is)
    (case k__law_is_cell => k_is)
    (case a__law_near => k_is)
    (case l__law_near => k_is)
    (case c__law_near => k_is)
    (case k__law_near => k_is)
    (case a__law_is_path => k_is)
    (case l__law_is_path => k_is)
    (case c__law_is_path => k_is)
    (case k__law_is_path => k_is)
    (case a__law_most => k_is)
    (case l__law_most => k_is)
    (case c__law_most => k_is)
    (case k__law_most => k_is)
    (case a__law_padded_right => k_is)
    (case l__law_padded_right => k_is)
    (case c__law_padded_right => k_is)
    (case k__law_padded_right => k_is)
    (case a__law_bent => k_is)
    (case l__law_bent => k_is)
    (case c__law_bent => k_is)
    (case k__law_bent => k_is)
    (case a_law => k_is)
    (case l_law => k_is)
    (case cd_law => k_is)
    (case lc_law => k_is)
    (case vt_law => rfl)
    (case np_law => kernel_rfl)
    (case z_isinstance => k_is)
    (case z_int => k_is)
    (case z_bool => k_is)
    (case z_str => k_is)
    (case z_tuple => k_is)
    (case z_list => k_is)
    (case z_dict => k_is)
    (case z_set => k_is)
    (case z_len => k_is)
    (case z_all => k_is)
    (case z_any => k_is)
    (case z_enumerate => k_is)
    (case z_zip => k_is)
    (case z_range => k_is)
    (case z_sorted => k_is)
    (case z_max => k_is)
    (case z_min => k_is)
    (case z_abs => k_is)
    (case z_repr => k_is)
    (case z_reversed => k_is)
    (case z_sum => k_is)
    (case z_divmod => k_is)
