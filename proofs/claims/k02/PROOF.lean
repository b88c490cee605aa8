import PyProof.Rows.All
import Wide.All
import OpenK.AllK
import Wide.FinOn
import HandS.ForMost
import HandS.Wide
import HandS.IsInst
import HandS.More
import HandS.Conv
import HandS.Codes
import HandS.ForExc
import HandS.ExcInit
import HandS.ExcField
import HandS.TryMany
import KE.GoesEnum
import KE.KExcIs
import HandS.ExcIs
import HandS.TupSets
import HandS.SetTxt0
import HandS.ExcCtx
import HandS.RaiseFrom
import HandS.ExcInitHot
import HandS.WordsExc
import HandS.Defaults
import HandS.HotCalls
import HandS.Comp
import HandS.List
import PyProof.SumWalkG
import PyProof.EqLayable
import PyProof.NeData
import HandS.Text
import PyProof.StrOps2
import KE.KxText
import HandS.Walk
import HandS.Star
import PyProof.Rows.SortStr
import PyProof.Rows.ReprOcc
import PySem.Challenge.RW_passproven_k02_refused_texts
set_option Elab.async false
set_option linter.all false
set_option maxRecDepth 100000
namespace PKR
open PySem L2
/-! ### one of two walks, as it comes -/
theorem pi_or {X : Cx} {tg iter : Expr} {w1 w2 : TI} (a : PI X tg iter w1) (b : PI X tg iter w2) : PI X tg iter (fun σ H R => w1 σ H R ∨ w2 σ H R) :=
  ⟨fun pins s σ H R I h => h.elim (a.run pins s σ H R I) (b.run pins s σ H R I)⟩
/-! ### enumerate over a tuple -/
set_option maxHeartbeats 2000000 in
theorem meets_enum_any {v : Value} {o : Obj} {Hh : Heap → Prop} (B : Begins v o Hh) :
    Meets (Builtin.«enumerate.__new__» ⟨[.type "enumerate", v], []⟩) (fun _ R s => Hh s.heap ∧
      R (.ok (.ret (.ref (s.heap.push o).objs.size))) { s with heap := (s.heap.push o).push { cls := .type "enumerate", data := .fields #[.none, .bool false, .ref s.heap.objs.size, rawInt 0, .none, .none] } }) := by
  refine .of_wp fun prog w A R s h => ?_
  obtain ⟨hp, g, d, tk, os⟩ := s
  obtain ⟨hH, hR⟩ := h
  have sub_e := sub_enumerate
  have it_v : ∀ {A' : Around} {E Q : Value → Shared → Prop}, Q (.ref hp.objs.size) ⟨hp.push o, g, d, tk, os⟩ → wpAny (model prog w) A' (pyIter v) Q E ⟨hp, g, d, tk, os⟩ := fun z => B.iter prog w _ _ ⟨hp, g, d, tk, os⟩ _ hH z
  wp_walk using it_v
  refine wpAny_stack_any fun st => wpAny_pure ?_
  split
  · rename_i c _ _ _ _ _
    cases (c == Value.type "enumerate") <;> (wp_walk using it_v; exact ⟨_, rfl, hR⟩)
  · wp_walk using it_v
    exact ⟨_, rfl, hR⟩
theorem call_enum_any {prog : Program} {w : World} {A : Around} {E : Value → Shared → Prop} {s : Shared} {v : Value} {o : Obj} {Hh : Heap → Prop} {Q : Value → Shared → Prop} (B : Begins v o Hh) (hH : Hh s.heap)
    (hq : ∀ h', IsEnum h' (s.heap.objs.size + 1) s.heap.objs.size 0 .none → h'.get? s.heap.objs.size = some o → (∀ b u, s.heap.get? b = some u → h'.get? b = some u) → Q (.ref (s.heap.objs.size + 1)) { s with heap := h' }) :
    wpAny (model prog w) A (call (.type "enumerate") [v]) Q E s := by
  refine callType_new F.called_enumerate (by decide) (F.typeCall_enumerate_1 _) (F.newCall_enumerate_1 _) (fun obj => F.args_object_init_2 obj _) F.entry_enumerate_new (meets_enum_any B) ⟨hH, ?_⟩
  have sz : (s.heap.push o).objs.size = s.heap.objs.size + 1 := Heap.size_push ..
  show _ ∧ _
  rw [sz]
  have en : IsEnum ((s.heap.push o).push { cls := .type "enumerate", data := .fields #[.none, .bool false, .ref s.heap.objs.size, rawInt 0, .none, .none] }) (s.heap.objs.size + 1) s.heap.objs.size 0 .none := by
    have g := Heap.get?_push_size (s.heap.push o) (o := { cls := .type "enumerate", data := .fields #[.none, .bool false, .ref s.heap.objs.size, rawInt 0, .none, .none] }) rfl
    rw [sz] at g
    exact g
  exact ⟨⟨_, en, rfl⟩, hq _ en (Heap.get?_push_of_some _ (Heap.get?_push_size _ B.free)) fun b u z => Heap.get?_push_of_some _ (Heap.get?_push_of_some _ z)⟩
/-- the tuple at a, each item in a new pair with its number -/
def ItE (K : PySem.W.Frag) (a : Addr) : It :=
  ⟨fun i H => ∃ (xs : List V) (x : V), SqT K H a xs ∧ xs[i]? = some x, fun i H v H' => ∃ T x, v = .ref T ∧ H T = none ∧ H' = upd H T (.tup [.int (i : Nat), x]) ∧ ∀ xs, SqT K H a xs → xs[i]? = some x, fun i H => ∃ xs : List V, SqT K H a xs ∧ xs.length = i⟩
theorem pair_mem {b e it : Addr} (h : b ∈ [e, it]) : b = e ∨ b = it := by simpa using h
theorem turn_enumT {P : Program} {w : World} {K : PySem.W.Frag} {es : List Expr} {k : Nat} {pos : Pos} (a e it : Addr) :
    Turn P w K (.Tuple es k pos) (ItE K a) [e, it] e (fun i h => (∃ old, IsEnum h e it ((i : Nat) : Int) old) ∧ h.IsTupleIter it a i ∧ e ≠ it ∧ a ≠ it ∧ e ≠ a) where
  mem := List.mem_cons_self
  obj := fun i h st b hb => by
    obtain ⟨⟨old, he⟩, ⟨o, ho, _, hd⟩, _⟩ := st
    rcases pair_mem hb with rfl | rfl
    · exact ⟨_, he, fun v q => nomatch q⟩
    · exact ⟨o, ho, fun v q => by rw [hd] at q; cases q⟩
  keep := fun i h h' st k => by
    obtain ⟨⟨old, he⟩, hi, ne⟩ := st
    exact ⟨⟨old, k e List.mem_cons_self _ he⟩, hi.at fun o q => k it (List.mem_cons_of_mem _ List.mem_cons_self) o q, ne⟩
  item := by
    intro X eP ew eK calm i pins s σ H E I free st go
    subst eP ew eK
    obtain ⟨⟨old, he⟩, hi, ne, na, nea⟩ := st
    obtain ⟨xs, x, hx, gx⟩ := go
    obtain ⟨its, rv, pT, _⟩ := I.tuple hx
    obtain ⟨u, gu, ru⟩ := rv.get gx
    have hh : X.A.handled = none := I.ok.hd calm
    have D := Draws.tuple (prog := X.prog) (w := X.w) (A := X.A.in1) hh it a na its.toArray
    have lt : i < its.toArray.size := by
      have := (List.getElem?_eq_some_iff.mp gu).1
      simpa using this
    have be := Heap.lt_size he
    have bi : it < s.heap.objs.size := by obtain ⟨_, q, _⟩ := hi; exact Heap.lt_size q
    refine wpAny_pyNext_enum_itemD D he ⟨hi, show s.heap.IsTuple a its.toArray from pT⟩ lt ne (fun m => (pair_mem m).elim ne nea) fun y h1 tk hy out st1 hT _ old1 => ?_
    have ey : y = u := by
      have : its.toArray[i]? = some u := by simpa using gu
      rw [hy] at this
      exact Option.some.inj this
    subst ey
    refine ⟨_, rfl, wpAny_letOwnedTupleGo_enum (s := { s with heap := h1, toks := tk + 1 }) out fun h2 en sb => ?_⟩
    have hT2 := (sb.2 _ (Nat.ne_of_gt be)).trans hT
    have obj : ObjOk X.prog X.w (upd H s.heap.objs.size (.tup [.int (i : Nat), x])) h2 s.heap.objs.size (.tup [.int (i : Nat), x]) :=
      ⟨by show 2 ≤ sizeLine; decide, [.int i tk, y], .cons ⟨_, rfl⟩ (.cons ru .nil), ⟨_, hT2, rfl, _, rfl⟩⟩
    have J : Inv X pins σ (upd H s.heap.objs.size (.tup [.int (i : Nat), x])) { s with heap := h2, toks := tk + 1 } :=
      I.turnedNew (ch := [e, it]) (fun b ob nb q => by
        have n1 : b ≠ e := fun z => nb (by rw [z]; exact List.mem_cons_self)
        have n2 : b ≠ it := fun z => nb (by rw [z]; exact List.mem_cons_of_mem _ List.mem_cons_self)
        exact (sb.2 b n1).trans (old1 b ob n1 n2 q)) free (Nat.le_refl _) obj
    refine ⟨.ref s.heap.objs.size, _, J, rfl, ⟨_, x, rfl, I.hok.fresh (Nat.le_refl _), rfl, fun ys hy' => by rw [I.tuple_inj hy' hx]; exact gx⟩, ⟨⟨y, ?_⟩, st1.1.at fun o q => (sb.2 it ne.symm).trans q, ne, na, nea⟩, fun b hb => ?_⟩
    · rw [show ((i + 1 : Nat) : Int) = (i : Int) + 1 by omega]
      exact en
    · have lb : b < s.heap.objs.size := by
        rcases pair_mem hb with rfl | rfl
        · exact be
        · exact bi
      rw [upd_ne (Nat.ne_of_lt lb)]
      exact (free b hb).1
  done := by
    intro X eP ew eK calm i pins s σ H E I free st stop
    subst eP ew eK
    obtain ⟨⟨old, he⟩, hi, ne, na, nea⟩ := st
    obtain ⟨xs, hx, lx⟩ := stop
    obtain ⟨its, rv, pT, _⟩ := I.tuple hx
    have hh : X.A.handled = none := I.ok.hd calm
    have D := Draws.tuple (prog := X.prog) (w := X.w) (A := X.A.in1) hh it a na its.toArray
    have ei : its.toArray.size = i := by rw [List.size_toArray, ← rv.length, lx]
    obtain ⟨f0, f1, f2, f3, f4, f5⟩ := free it (List.mem_cons_of_mem _ List.mem_cons_self)
    exact wpAny_pyNext_enum_endD D he ⟨by rw [ei]; exact hi, show s.heap.IsTuple a its.toArray from pT⟩ fun h2 old1 => ⟨rfl, I.turned (t' := s.toks) (fun b o nb q => old1 b o nb q) f0 f1 f3 f4 f5⟩
  self := fun A i s Q E st h => by
    obtain ⟨⟨_, he⟩, _⟩ := st
    exact wpAny_pyIter_enum he h
def iEnumT (K : PySem.W.Frag) (ta : TA) : TI := fun σ H R => ta σ H fun vs H1 => ∃ a xs, vs = [.ref a] ∧ SqT K H1 a xs ∧ R (ItE K a) H1
theorem pi_enumT {X : Cx} {e : Expr} {ta : TA} {p pos tpos : Pos} {es : List Expr} {k : Nat} (hg : Gl X "enumerate") (hm : X.mg "enumerate" = none) (ha : PA X [e] ta) (hs : starEach [e] X.env = [(false, eval e X.env)] := by rfl) :
    PI X (.Tuple es k tpos) (.Call (.Name "enumerate" p) [e] [] pos) (iEnumT X.K ta) := by
  refine ⟨fun pins s σ H R I h => PyProof.Rows.Call_ (ld_blt I hg hm PyProof.Rows.boot_enumerate (PyProof.Rows.callWith_type1 (thn (ha.run pos pins s σ H _ I h) fun us s1 hz => ?_) hs rfl))⟩
  obtain ⟨vs, H1, I1, rs, a, xs, rfl, hx, q⟩ := hz
  cases rs with
  | cons r rest =>
    cases rest
    cases r
    obtain ⟨its, rv, pT, _⟩ := I1.tuple hx
    have la : a < s1.heap.objs.size := pT.lt
    refine call_enum_any (begins_tuple a its.toArray) (show s1.heap.IsTuple a its.toArray from pT) fun h2 en gi old => wpAny_pyIter_enum en ?_
    have J : Inv X pins σ H1 { s1 with heap := h2 } := I1.kept (t' := s1.toks) old
    have na : a ≠ s1.heap.objs.size := Nat.ne_of_lt la
    have nea : s1.heap.objs.size + 1 ≠ a := Nat.ne_of_gt (Nat.lt_succ_of_lt la)
    refine ⟨_, [s1.heap.objs.size + 1, s1.heap.objs.size], _, _, H1, rfl, J, turn_enumT a (s1.heap.objs.size + 1) s1.heap.objs.size, ⟨⟨.none, en⟩, ⟨_, gi, rfl, rfl⟩, Nat.succ_ne_self _, na, nea⟩, fun b hb => ?_, q⟩
    have lb : s1.heap.objs.size ≤ b := by
      rcases pair_mem hb with rfl | rfl
      · exact Nat.le_succ _
      · exact Nat.le_refl _
    exact I1.fpOk lb (I1.hok.fresh lb)
/-! ### an empty tuple and another one -/
def rCat0 (K : PySem.W.Frag) : R2 := fun x y H Q => ∃ a b ys, x = .ref a ∧ y = .ref b ∧ SqT K H a [] ∧ SqT K H b ys ∧ Q (.ref b) H
theorem op_cat0 {X : Cx} : OpR X (binaryOp .Add) (rCat0 X.K) := by
  intro pins s σ H x y v u Q I rx ry h
  obtain ⟨a, b, ys, rfl, rfl, ha, hb, q⟩ := h
  cases rx
  cases ry
  obtain ⟨i1, r1, p1, _⟩ := I.tuple ha
  obtain ⟨i2, r2, p2, _⟩ := I.tuple hb
  cases r1
  obtain ⟨⟨c1, d1, t1, l1⟩, g1, e1, n1, f1⟩ := id p1
  obtain ⟨⟨c2, d2, t2, l2⟩, g2, e2, n2, f2⟩ := id p2
  simp only at e1 f1 e2 f2
  subst e1 f1 e2 f2
  exact PySem.concat_meets ⟨_, g1, rfl⟩ ⟨_, g2, rfl⟩ PySem.noFill_tuple_add PySem.seq_tuple_add PySem.F.slot_tuple_add PySem.F.entry_tuple_add (PySem.F.args_tuple_add_2 _ _)
    (PyProof.Rows.tuple_addW0 a b #[] i2.toArray n1 n2 d1 d2 l1 l2 rfl) ⟨g1, g2, ⟨.ref b, H, I, rfl, q⟩⟩
/-- t + u -/
def rCatA (K : PySem.W.Frag) : R2 := fun x y H Q => rCatT K x y H Q ∨ rCat0 K x y H Q
theorem op_catA {X : Cx} : OpR X (binaryOp .Add) (rCatA X.K) := op_catT.or op_cat0
end PKR
/-! a try with several clauses 'except X as n', every one with its own suite -/
namespace L2.PKR
open PySem PySem.Spec PyProof.Rows
abbrev Suite := Addr → Value → Option Addr → TS
/-- the ends of a suite whose name is given back -/
def offEnds (i : Nat) (D : Ends) : Ends := ⟨fun p q => D.nx (p.set i none) q, D.rt, fun p q => D.bk (p.set i none) q, fun p q => D.ct (p.set i none) q⟩
/-- the wish of the clauses, in their order -/
def wRow (K : PySem.W.Frag) (Wout : WX) (D : Ends) : List (Value × Nat × Suite) → WX
  | [] => Wout
  | (c, i, ts) :: rest => fun cls d σ H =>
    ∃ yes, PySem.W.exmOne K cls c = some yes ∧ (yes = true → ∀ a, H a = none → ts a cls d (offEnds i D) (σ.set i (some (.ref a))) H) ∧ (yes = false → wRow K Wout D rest cls d σ H)
/-- the exception at a, caught and on the ground -/
structure Down (X : Cx) (pins : List (Addr × Obj)) (B : Heap) (a : Addr) (before : Shared) (σ : St) (H : Hp) (cls : Value) (d : Option Addr) (s : Shared) : Prop where
  inv : Inv X pins σ H before
  base : ∀ b o, before.heap.get? b = some o → b ∉ frs X.stack → B.get? b = some o
  slots : before.heap.UpToSlots s.heap
  fly : HandSPX.FlyingZ B (X.env :: X.outer) a (Zc cls d) s.heap
  out : H a = none
  os : s.os = before.os
  bare : AllBare s.gens
section
variable {X : Cx} {pins : List (Addr × Obj)} {B : Heap} {a : Addr} {before s : Shared} {σ : St} {H : Hp} {cls : Value} {d : Option Addr} {D : Ends} {Wout : WX}
theorem Down.here (z : Down X pins B a before σ H cls d s) : Inv X pins σ H s := z.inv.landed z.base z.fly.1 z.slots z.os z.bare
/-- its object, and that it is none of the frames' -/
theorem Down.obj (hf : X.env.frame = some X.env.locals) (z : Down X pins B a before σ H cls d s) : ∃ oe vs, s.heap.get? a = some oe ∧ Zc cls d oe ∧ oe.data = .fields vs ∧ a ≠ X.env.locals ∧ a ∉ X.fs := by
  obtain ⟨oe, vs, he, hz, hd⟩ := z.fly.there
  have nfr : a ∉ frs (X.env :: X.outer) := fun hm => by
    obtain ⟨_, o2, e2, no⟩ := z.fly.2.2.1.mem hm
    rw [he] at e2
    cases e2
    exact no _ hd
  refine ⟨oe, vs, he, hz, hd, fun q => nfr (List.mem_filterMap.mpr ⟨X.env, .head _, by rw [hf, q]⟩), fun q => ?_⟩
  obtain ⟨en, m, r⟩ := List.mem_filterMap.mp q
  exact nfr (List.mem_filterMap.mpr ⟨en, .tail _ m, r⟩)
theorem Down.more (z : Down X pins B a before σ H cls d s) {h : Heap} (fl : HandSPX.FlyingZ B (X.env :: X.outer) a (Zc cls d) h) (up : s.heap.UpToSlots h) : Down X pins B a before σ H cls d { s with heap := h } :=
  ⟨z.inv, z.base, z.slots.trans up, fl, z.out, z.os, z.bare⟩
/-- no clause is left -/
theorem row_nil (hs : X.stack = X.env :: X.outer) (hf : X.env.frame = some X.env.locals) (tk : Takes X Wout) (z : Down X pins B a before σ H cls d s) (w : Wout cls d σ H) :
    wpAny (model X.prog X.w) X.A (handleBy (.ref a) X.env []) (SP X pins D) X.xe s := by
  refine wpAny_handleBy_nil ?_
  obtain ⟨_, _, _, oe, vs, T, _, _, he, _, hd, h1, _⟩ := id z.fly
  unfold PySem.passOn
  refine wpAny_bind (wpAny_field he hd h1 ?_)
  rw [if_neg (show ¬ ((Value.ref T == Value.none) = true) by simp)]
  have last : wpAny (model X.prog X.w) X.A (setFlight (.ref a) X.env.frame) (fun _ s2 => wpAny (model X.prog X.w) X.A (throw (.ref a) : Sem Flow) (SP X pins D) X.xe s2) X.xe s := by
    rw [hf]
    refine HandSPX.setFlight_upZ z.fly fun h2 held up => wpAny_throw (tk _ _ ?_)
    exact ⟨a, B, before, pins, σ, H, cls, d, rfl, z.inv, z.base, z.slots.trans up, .inr (.inr (by rw [hs]; exact held)), z.out, z.os, z.bare, w⟩
  first
    | exact wpAny_bind (wpAny_pure (wpAny_bind last))
    | exact wpAny_bind last
/-- one clause -/
theorem row_cons {x n : Str} {c : Value} {i : Nat} {b₀ : Stmt} {more : List Stmt} {np pos : Pos} {ts : Suite} {hds : List ExceptHandler} {yes : Bool} (hf : X.env.frame = some X.env.locals) (hN : X.N.Nodup) (hi : X.N[i]? = some n)
    (hl : X.env.kindOf n = some .local) (hc : Names X x c)
    (body : ∀ (a : Addr) (oe : Obj) (cls : Value) (d : Option Addr) (pn : List (Addr × Obj)), Zc cls d oe → (∃ vs, oe.data = .fields vs) → PSs (X.suite a ((a, oe) :: pn)) (b₀ :: more) (ts a cls d))
    (z : Down X pins B a before σ H cls d s) (hy : PySem.W.exmOne X.K cls c = some yes) (t : yes = true → ts a cls d (offEnds i D) (σ.set i (some (.ref a))) H)
    (f : yes = false → wpAny (model X.prog X.w) X.A (handleBy (.ref a) X.env hds) (SP X pins D) X.xe s) :
    wpAny (model X.prog X.w) X.A (handleBy (.ref a) X.env (.ExceptHandler (some (.Name x np)) (some n) (b₀ :: more) pos :: hds)) (SP X pins D) X.xe s := by
  have ok := z.inv.ok
  obtain ⟨oe, vs, he, hz, hd, nL, nF⟩ := z.obj hf
  have S := z.here.suite he hd z.out nL nF
  refine wpAny_handleBy_cons (codeAny_handlers_test ?_) (fun q => nomatch q)
  have ty : PySem.W.Looks (model X.prog X.w) s.heap (typeOf (.ref a)) cls := fun _ _ _ _ k q => wpAny_typeOf_ref (k _ _ he) (by rw [hz.1]; exact q)
  have isIt := PySem.W.exm_one (M := model X.prog X.w) z.here.kIn ty hy
  have named : ∀ {Q E : Value → Shared → Prop}, Q c s → wpAny (model X.prog X.w) (X.A.mark (some (.ref a))) (eval (.Name x np) X.env) Q E s := fun {Q E} q => by
    obtain ⟨hg, nd, hm | ⟨hm, hv, hn⟩⟩ := hc
    · exact ld_glob (X := X.suite a ((a, oe) :: (X.pn ++ pins))) S hg hm q nd
    · exact ld_blt (X := X.suite a ((a, oe) :: (X.pn ++ pins))) S hg hm hv q hn nd
  refine named (isIt.here ?_)
  cases yes with
  | false => exact f rfl
  | true =>
    refine codeAny_handlers_suite_as (HandSPX.lands_againZ z.fly fun h2 fl up => ?_)
    have z2 := z.more fl up
    obtain ⟨oe2, vs2, he2, hz2, hd2, nL2, nF2⟩ := z2.obj hf
    refine store_ok (X := X.suite a ((a, oe2) :: (X.pn ++ pins))) (v := .ref a) (z2.here.suite he2 hd2 z.out nL2 nF2) hN hi (.inl hl) rfl (fun s3 S3 => ?_) (.inr hl)
    have run := (body a oe2 cls d (X.pn ++ pins) hz2 ⟨_, hd2⟩).run [] s3 (σ.set i (some (.ref a))) H (offEnds i D) S3 (t rfl)
    have gone : ∀ {p : St} {q : Hp} {s4 : Shared} {Q : Shared → Prop}, Inv (X.suite a ((a, oe2) :: (X.pn ++ pins))) [] p q s4 → (∀ s5, Inv X pins (p.set i none) q s5 → Q s5) →
        wpAny (model X.prog X.w) X.A (do bindName X.env n .none; unbindBehindTheSuite X.env n pos) (fun _ s5 => Q s5) X.xe s4 := fun S4 k => gone_ok (S4.unsuite ok) hN hi hl k
    refine wpAny_mono run (fun fl4 s4 done => ?_) (fun _ _ no => False.elim no)
    rcases fl4 with _ | _ | _ | u
    · obtain ⟨p, q, S4, k⟩ := done
      exact gone S4 fun s5 J => ⟨_, _, J, k⟩
    · obtain ⟨p, q, S4, k⟩ := done
      exact gone S4 fun s5 J => ⟨_, _, J, k⟩
    · obtain ⟨p, q, S4, k⟩ := done
      exact gone S4 fun s5 J => ⟨_, _, J, k⟩
    · obtain ⟨v, p, q, S4, r, k⟩ := done
      exact gone S4 fun s5 J => ⟨_, _, _, J, r, k⟩
end
/-- the clauses and their wishes -/
inductive Row (X : Cx) : List ExceptHandler → List (Value × Nat × Suite) → Prop
  | nil : Row X [] []
  | cons {x n : Str} {c : Value} {i : Nat} {b₀ : Stmt} {more : List Stmt} {np pos : Pos} {ts : Suite} {hds : List ExceptHandler} {l : List (Value × Nat × Suite)} (hi : X.N[i]? = some n) (hl : X.env.kindOf n = some .local) (hc : Names X x c)
      (body : ∀ (a : Addr) (oe : Obj) (cls : Value) (d : Option Addr) (pn : List (Addr × Obj)), Zc cls d oe → (∃ vs, oe.data = .fields vs) → PSs (X.suite a ((a, oe) :: pn)) (b₀ :: more) (ts a cls d)) (r : Row X hds l) :
      Row X (.ExceptHandler (some (.Name x np)) (some n) (b₀ :: more) pos :: hds) ((c, i, ts) :: l)
theorem row_runs {X : Cx} {pins : List (Addr × Obj)} {B : Heap} {a : Addr} {before s : Shared} {σ : St} {H : Hp} {cls : Value} {d : Option Addr} {D : Ends} {Wout : WX} (hs : X.stack = X.env :: X.outer) (hf : X.env.frame = some X.env.locals) (hN : X.N.Nodup) (tk : Takes X Wout)
    {hds : List ExceptHandler} {l : List (Value × Nat × Suite)} (hh : Row X hds l) (z : Down X pins B a before σ H cls d s) (w : wRow X.K Wout D l cls d σ H) : wpAny (model X.prog X.w) X.A (handleBy (.ref a) X.env hds) (SP X pins D) X.xe s := by
  induction hh with
  | nil => exact row_nil hs hf tk z w
  | cons hi hl hc body r ih =>
    obtain ⟨yes, hy, t, f⟩ := w
    exact row_cons hf hN hi hl hc body z hy (fun e => t e a z.out) fun e => ih (f e)
theorem ps_try_row {X : Cx} {body : List Stmt} {h₀ : ExceptHandler} {hds : List ExceptHandler} {l : List (Value × Nat × Suite)} {pos : Pos} {tb : WX → TS} {Wout : WX} (hs : X.stack = X.env :: X.outer) (hf : X.env.frame = some X.env.locals) (hN : X.N.Nodup) (tk : Takes X Wout)
    (hb : ∀ (W : WX) (pn : List (Addr × Obj)) (xe : Value → Shared → Prop), Takes (X.tr pn xe) W → PassesOwn (model X.prog X.w) X.A X.env xe → PSs (X.tr pn xe) body (tb W))
    (hh : Row X (h₀ :: hds) l) : PS X (.Try body (h₀ :: hds) [] [] pos) (fun D σ H => tb (wRow X.K Wout D l) D σ H) := by
  refine ⟨fun pins s σ H D I h => wpAny_Try_except ?_⟩
  have ok := I.ok
  have fr : X.A.frames = some (X.env :: X.outer) := by rw [ok.frames, hs]
  have inner := hb (wRow X.K Wout D l) (X.pn ++ pins)
    (fun e s1 => wpAny (model X.prog X.w) X.A (noteFrame e X.env) (fun _ s2 => wpAny (model X.prog X.w) X.A (setFlight e none) (fun _ s3 => wpAny (model X.prog X.w) X.A (handleBy e X.env (h₀ :: hds)) (SP X pins D) X.xe s3) X.xe s2) X.xe s1)
    (fun u s1 air => by
      obtain ⟨a, B, before, pins1, p, q, cls, d, rfl, J, base, up, sky, out, os, bare, w⟩ := air
      have J1 : Inv X pins p q before := J.ofTry ok
      refine Sky.land Zc.steady fr hf (show Sky B (X.env :: X.outer) a (Zc cls d) X.env.locals s1.heap by rw [← hs]; exact sky) fun h2 fl up2 => ?_
      exact row_runs hs hf hN tk hh (s := { s1 with heap := h2 }) ⟨J1, base, up.trans up2, fl, out, os, bare⟩ w)
    PassesOwn.looking
  refine wpAny_mono (inner.run [] s σ H D (I.toTry _) h) (fun f s1 done => ?_) (fun _ _ k => k)
  rcases f with _ | _ | _ | u
  · obtain ⟨p, q, J, k⟩ := done
    exact wpAny_execs_nil ⟨p, q, J.ofTry ok, k⟩
  · obtain ⟨p, q, J, k⟩ := done
    exact ⟨p, q, J.ofTry ok, k⟩
  · obtain ⟨p, q, J, k⟩ := done
    exact ⟨p, q, J.ofTry ok, k⟩
  · obtain ⟨v, p, q, J, r, k⟩ := done
    exact ⟨v, p, q, J.ofTry ok, r, k⟩
end L2.PKR
/-! isinstance(e, C), e a caught error of an own class with fields -/
namespace L2.PKR
open PySem PySem.Spec PyProof.Rows
def rIsX (K : PySem.W.Frag) (a : Addr) (cls : Value) (d : Option Addr) : List V → Hp → VK → Prop := fun xs H Q =>
  ∃ (c : V) (cv : Value) (yes : Bool) (D dd : Addr) (fs : List (Str × V)), xs = [.ref a, c] ∧ (∀ u, RelV c u → u = cv) ∧ cls = .ref D ∧ d = some dd ∧ H dd = some (.xd fs) ∧ ExcC K D ∧ PySem.W.kitOne K (.ref D) cv = some yes ∧ Q (.bl yes) H
theorem call_isX {X : Cx} {a : Addr} {oe : Obj} {cls : Value} {d : Option Addr} {pn : List (Addr × Obj)} (hz : Zc cls d oe) (hf : ∃ vs, oe.data = .fields vs) : CallR (X.suite a ((a, oe) :: pn)) (.builtin "isinstance") (rIsX X.K a cls d) := by
  intro pins s σ H xs us Q I r h
  obtain ⟨c, cv, yes, D, dd, fs, rfl, hcv, rfl, rfl, hx, C, hk, q⟩ := h
  rcases r with _ | ⟨rx, rr⟩
  rcases rr with _ | ⟨rc, rr⟩
  cases rr
  cases rx
  cases hcv _ rc
  have at_a := (I.pin (a, oe) (List.mem_append_left _ (.head _))).1
  obtain ⟨vs, hd⟩ := hf
  obtain ⟨mA, hns, _⟩ := (show ObjOk X.prog X.w H s.heap dd (.xd fs) from I.hok dd _ hx)
  obtain ⟨od, ho, _⟩ := lookIn_ns hns
  have J : PySem.W.InstAt s.heap a oe D (some od) := ⟨at_a, hz.1, by unfold PySem.W.notCls; rw [hd] <;> rfl, by rw [hz.2]; exact ho⟩
  obtain ⟨cd, hcd, _⟩ := PySem.W.any_some C.hd
  exact PySem.W.kia_one (PySem.W.kitx_exc (by rw [hcd]; rfl) C.hg C.hk C.hs C.ha C.hn C.ht C.hm) I.kIn J hk (fun e => nomatch e) fun tk => ⟨.bl yes, H, I.kept (t' := tk) fun _ _ k => k, rfl, q⟩
end L2.PKR
/-! sorted(set(xs)), xs a list of texts -/
namespace PKT
open PySem PySem.Spec PyProof.Rows L2 PySem.Froz
/-- the set at a: its texts l, in some order; it can be walked -/
structure TS (P : Program) (w : World) (h : Heap) (a : Addr) (l : List Str) : Prop where
  ex : ∃ D : SD, h.get? a = some (sObj "set" D) ∧ TxOk P w D l ∧ Ris D.2.2.place.toList ∧ (w.params.followText "set-order" = true ∨ D.2.2.led = true)
  nd : l.Nodup
theorem TS.at {P : Program} {w : World} {h h' : Heap} {a : Addr} {l : List Str} (R : TS P w h a l) (k : ∀ o, h.get? a = some o → h'.get? a = some o) : TS P w h' a l := by
  obtain ⟨⟨D, e, r⟩, nd⟩ := R
  exact ⟨⟨D, k _ e, r⟩, nd⟩
theorem TS.new {P : Program} {w : World} {h : Heap} {a : Addr} (e : h.get? a = some { cls := .type "set", dict := none, data := .set #[] 0 (.fresh 0 0 (!w.params.followText "set-order")) }) : TS P w h a [] := by
  refine ⟨⟨(#[], 0, .fresh 0 0 (!w.params.followText "set-order")), e, TxOk.nil rfl, List.Pairwise.nil, ?_⟩, List.nodup_nil⟩
  show _ ∨ (!w.params.followText "set-order") = true
  cases w.params.followText "set-order" with
  | false => exact .inr rfl
  | true => exact .inl rfl
theorem tail_ris {ep : Nat} {es : Array (Int × Value)} {t : SetTable} {d : Bool} (r : Ris t.place.toList) : Ris (tailTx ep es t d).2.2.place.toList := by
  unfold tailTx
  split
  · exact relayAll_ris _ _ _
  · exact r
theorem tail_led {ep : Nat} {es : Array (Int × Value)} {t : SetTable} {d : Bool} : (tailTx ep es t d).2.2.led = t.led := by
  unfold tailTx
  split
  · exact relayAll_led _ _ _
  · rfl
theorem addTx_ris {h : Int} {v : Value} {D : SD} (r : Ris D.2.2.place.toList) : Ris (addTx h v D).2.2.place.toList := by
  have r1 := layNew_ris D.2.2 D.1 h v r
  unfold addTx
  refine tail_ris ?_
  split <;> exact r1
theorem addTx_led {h : Int} {v : Value} {D : SD} : (addTx h v D).2.2.led = D.2.2.led := by
  have r1 := layNew_led D.2.2 D.1 h v
  unfold addTx
  rw [tail_led]
  split <;> exact r1
section
variable {P : Program} {w : World} {A : Around} {E : Value → Shared → Prop} {s : Shared} {a : Addr} {l : List Str}
/-- a text is put in -/
theorem add_hashed {k : Str} {tk : Tok} {Q : Bool → Shared → Prop} (R : TS P w s.heap a l) (room : l.length + 1 < scanBound)
    (hQ : ∀ b h', Heap.SameBut a s.heap h' → TS P w h' a (if k ∈ l then l else k :: l) → Q b { s with heap := h' }) : wpAny (model P w) A (setAddHashed a (.str k tk) (hashStr w k)) Q E s := by
  obtain ⟨⟨D, eo, tx, ri, le⟩, nd⟩ := R
  by_cases hk : k ∈ l
  · have q := hQ false s.heap (Heap.SameBut.refl a s.heap) (by rw [if_pos hk]; exact ⟨⟨D, eo, tx, ri, le⟩, nd⟩)
    obtain ⟨es, ep, t⟩ := D
    have bd : es.size < scanBound := by have e : es.size = l.length := tx.sz; omega
    obtain ⟨e0, me, pe⟩ := (tx.mem k).mp hk
    cases fi : List.findIdx? (fun e => (strKind P w).is k e.2) es.toList with
    | none => have c := List.findIdx?_eq_none_iff.mp fi e0 me; rw [pe] at c; cases c
    | some j =>
      unfold setAddHashed setAddHashedIn
      refine wpAny_holding (wpAny_bind (wpAny_setState_of eo (es := es) (ep := ep) (t := t) rfl tx.fit ?_)); dsimp only
      rw [byScan_of (knd := strKind P w) rfl bd tx.el]; simp only [↓reduceIte]
      unfold setAddByScan
      refine wpAny_bind (wpAny_bind (wpAny_rule (wpAny_bind (wpAny_setScan_of (knd := strKind P w) (k := k) (is_str k tk) eo (es := es) (ep := ep) (t := t) rfl tx.fit tx.el ?_)))); rw [fi]
      exact wpAny_pure (wpAny_pure q)
  · refine add_x (l := l) (D := D) (u := tk) eo tx hk room (hQ true _ (Heap.SameBut.update s.heap a _) ?_)
    rw [if_neg hk]
    exact ⟨⟨_, get_upd _ eo rfl, add_ok tk tx, addTx_ris ri, le.imp id fun z => by rw [addTx_led]; exact z⟩, List.nodup_cons.mpr ⟨hk, nd⟩⟩
end
theorem strs_get : ∀ {vs : List Value} {xs : List Str} {i : Nat} {v : Value}, StrsAre vs xs → vs[i]? = some v → ∃ k t, xs[i]? = some k ∧ v = .str k t
  | _, _, _, _, .nil, e => by simp at e
  | _, _, 0, _, .cons n t _, e => by simp at e; exact ⟨n, t, rfl, e.symm⟩
  | _, _, i + 1, _, .cons n t r, e => by
    obtain ⟨k, t', h1, h2⟩ := strs_get (i := i) r (by simpa using e)
    exact ⟨k, t', by simpa using h1, h2⟩
/-- what was met of the first i texts -/
def Met (xs : List Str) (i : Nat) (l : List Str) : Prop := l.length ≤ i ∧ ∀ x, x ∈ l ↔ x ∈ xs.take i
theorem Met.zero (xs : List Str) : Met xs 0 [] := ⟨Nat.le_refl _, fun x => by simp⟩
theorem Met.next {xs : List Str} {i : Nat} {l : List Str} {k : Str} (m : Met xs i l) (hk : xs[i]? = some k) : Met xs (i + 1) (if k ∈ l then l else k :: l) := by
  refine ⟨?_, fun x => ?_⟩
  · split
    · exact Nat.le_succ_of_le m.1
    · exact Nat.succ_le_succ m.1
  · rw [List.take_add_one, hk]
    show _ ↔ x ∈ xs.take i ++ [k]
    rw [List.mem_append, List.mem_singleton, ← m.2 x]
    by_cases q : k ∈ l
    · rw [if_pos q]
      exact ⟨.inl, fun z => z.elim id fun e => e ▸ q⟩
    · rw [if_neg q, List.mem_cons]
      exact Or.comm
section
variable {P : Program} {w : World} {A : Around} {I : Addr} {fp wr : List Addr} {G : Array GenState → Array GenState → Prop} {n : Nat} {Pv : Nat → Value → Prop} {St : Nat → Shared → Prop} {R : Result → Shared → Prop}
theorem update_txts (W : WalksS P w A.in1 I fp wr G n Pv St) (S : Addr) (hS : S ∉ fp) (xs : List Str) (hn : n = xs.length) (few : xs.length + 1 < scanBound) (hval : ∀ i v, Pv i v → ∃ k t, xs[i]? = some k ∧ v = .str k t) :
    ∀ (k i : Nat) (s : Shared) (l : List Str), n - i = k → i ≤ n → St i s → TS P w s.heap S l → Met xs i l → (∀ s' l', Moved (S :: wr) G s s' → TS P w s'.heap S l' → Met xs n l' → R (.ok (.ret .none)) s') →
      codeAny (model P w) A (.builtin "set.update.loop" ⟨[.ref S, .ref I], []⟩) R s := by
  have hw : S ∉ wr := fun z => hS (W.sub _ z)
  have sub : ∀ b ∈ wr, b ∈ S :: wr := fun b z => List.mem_cons_of_mem _ z
  intro k
  induction k with
  | zero =>
    intro i s l hk hi st R0 m hR
    obtain rfl : i = n := by omega
    refine codeAny_builtin F.entry_set_update_loop ?_; rw [Around.under_plainId F.plain_set_update_loop _]
    show wpAny _ A.in1 (pyNext (.ref I) >>= _) _ _ s
    refine wpAny_bind (W.done s _ _ st fun s' hm => ?_); show wpAny _ A.in1 (ret Value.none) _ _ s'
    exact wpAny_pure (hR s' l (hm.mono sub) (R0.at fun o e => hm.heap S o hw e) m)
  | succ k ih =>
    intro i s l hk hi st R0 m hR
    have lt : i < n := by omega
    refine codeAny_builtin F.entry_set_update_loop ?_; rw [Around.under_plainId F.plain_set_update_loop _]
    show wpAny _ A.in1 (pyNext (.ref I) >>= _) _ _ s
    refine wpAny_bind (W.item i s _ _ lt st fun v s' hP st' hm => ?_)
    obtain ⟨x, t, hx, rfl⟩ := hval i v hP
    show wpAny _ A.in1 (holding [Value.str x t] (setAdd S (.str x t)) >>= _) _ _ s'
    refine wpAny_bind (wpAny_holding ?_); unfold setAdd; refine wpAny_holding ?_
    refine wpAny_bind ((strKind P w).pyHash (k := x) (is_str x t) ?_)
    have R1 : TS P w s'.heap S l := R0.at fun o e => hm.heap S o hw e
    refine add_hashed (s := { s' with toks := s'.toks + 1 }) R1 (by have := m.1; omega) fun b h' sb R2 => ?_
    refine wpAny_pure ⟨plainId_quiet F.plain_set_update_loop _, ih (i + 1) _ _ (by omega) lt (W.frame _ s' _ _ st' (Nat.le_add_right _ _) fun c hc o e => ?_) R2 (m.next hx) fun s2 l2 hm2 R3 m2 => hR s2 l2 (Moved.trans W.gtrans ((hm.mono sub).then_heap (Nat.le_add_right _ _) fun c o hc e => ?_) hm2) R3 m2⟩
    · rw [sb.2 c (fun z : c = S => hS (z ▸ hc))]; exact e
    · rw [sb.2 c (fun z : c = S => hc (z ▸ List.mem_cons_self))]; exact e
end
abbrev setObj0 (w : World) : Obj := { cls := .type "set", dict := none, data := .set #[] 0 (.fresh 0 0 (!w.params.followText "set-order")) }
section
variable {P : Program} {w : World} {A : Around} {E : Value → Shared → Prop} {s : Shared}
set_option maxHeartbeats 3200000 in
/-- set(xs), xs a list of texts -/
theorem set_txts {b : Addr} {its : Array Value} (xs : List Str) {Q : Value → Shared → Prop} (hh : A.handled = none) (hl : s.heap.IsList b its) (hit : StrsAre its.toList xs) (few : xs.length + 1 < scanBound)
    (h : ∀ (h' : Heap) (tk : Nat) (l : List Str), TS P w h' s.heap.objs.size l → Met xs xs.length l → (∀ c o, s.heap.get? c = some o → h'.get? c = some o) → Q (.ref s.heap.objs.size) { s with heap := h', toks := tk }) :
    wpAny (model P w) A (call (.type "set") [.ref b]) Q E s := by
  have hn : its.size = xs.length := by have q := StrsAre.length hit; rw [Array.length_toList] at q; exact q
  have f0 := F.called_set.mro; have f1 := F.called_set.made; have f2 := F.called_set.sub; have f3 := F.called_set.notType; have f4 := F.called_set.canCreate; have f5 := F.typeCall_set_1 (.ref b)
  obtain ⟨c, tl, f0⟩ := f0
  refine wpAny_call (codeAny_of_tree ?_); show wpAny _ _ (callAny (.type "set") _) _ _ _
  refine wpAny_pure ⟨Code.quiet_builtin _ (by decide +kernel), codeAny_builtin F.entry_type_call ?_⟩; rw [Around.under_plain (weight_type_call_type "set" [.ref b] []) rfl]
  repeat (any_goals (first | assumption | wp_step))
  refine codeAny_mono (code_set_led1 (.ref b) (E := E) (Q₁ := fun obj z => obj = .ref s.heap.objs.size ∧ z = { s with heap := s.heap.push (setObj0 w) }) ⟨rfl, rfl⟩) fun r z hr => ?_
  cases r with
  | error _ => exact hr
  | ok fl =>
    cases fl with
    | ret obj =>
      obtain ⟨rfl, rfl⟩ := hr
      have e0 : (s.heap.push (setObj0 w)).get? s.heap.objs.size = some (setObj0 w) := Heap.get?_push_size _ rfl
      have ty : Shared.TypeIs { s with heap := s.heap.push (setObj0 w) } (.ref s.heap.objs.size) "set" := ⟨_, e0, rfl⟩
      have i1 := F.called_set.init.lookup; have i2 := F.called_set.init.bind (.ref s.heap.objs.size)
      repeat (any_goals (first | assumption | wp_step))
      refine codeAny_mono (codeAny_call_builtin (R := wants (fun r z => r = .none ∧ ∃ h' tk l, z = { s with heap := h', toks := tk } ∧ TS P w h' s.heap.objs.size l ∧ Met xs xs.length l ∧ (∀ c o, s.heap.get? c = some o → h'.get? c = some o)) E) F.called_set.init.plain F.entry_set_init (check_set_init_1 ty ?_)) fun r2 z2 hr2 => ?_
      · have hbS : b < s.heap.objs.size := let ⟨o, ho, _⟩ := hl; Heap.lt_size ho
        have hl1 : (s.heap.push (setObj0 w)).IsList b its := hl.push _
        obtain ⟨ol, hol, hcl, nl, hdl⟩ := hl
        obtain ⟨ocls, odict, odata, oslots⟩ := ol
        simp only at hcl hdl
        subst hcl; subst hdl
        have g1 : (s.heap.push (setObj0 w)).get? b = some { cls := .type "list", dict := odict, data := .seq its nl, slots := oslots } := Heap.get?_push_of_some _ hol
        have g2 := F.sub_list_set; have g3 := F.sub_list_frozenset; have g4 : (Value.type "list" == Value.type "dict") = false := by decide
        unfold Builtin.«set.__init__» noKeywords Builtin.Frozenset.updateFrom
        generalize hPI : pyIter = PI
        wp_walk
        subst hPI
        refine wpAny_pyIter_list hl1 (wpAny_bind (wpAny_runValue ?_))
        have hI : b ≠ (s.heap.push (setObj0 w)).objs.size := by rw [Heap.size_push]; exact Nat.ne_of_lt (Nat.lt_succ_of_lt hbS)
        have hS : s.heap.objs.size ∉ [(s.heap.push (setObj0 w)).objs.size, b] := by
          rw [Heap.size_push]; simp only [List.mem_cons, List.not_mem_nil, or_false, not_or]
          exact ⟨Nat.ne_of_lt (Nat.lt_succ_self _), Nat.ne_of_gt hbS⟩
        have val : ∀ (i : Nat) (v : Value), its[i]? = some v → ∃ k t, xs[i]? = some k ∧ v = .str k t := fun i v hv => by
          have q : its.toList[i]? = some v := by rw [Array.getElem?_toList]; exact hv
          exact strs_get hit q
        refine update_txts ((Walks.list (by simp [hh]) _ b hI its).toS) s.heap.objs.size hS xs hn few val (its.size - 0) 0 _ [] (by omega) (Nat.zero_le _) ⟨⟨_, Heap.get?_push_size _ rfl, rfl, rfl⟩, (hl1.push _)⟩ (TS.new (Heap.get?_push_of_some _ e0)) (Met.zero xs) fun s' l hm R1 m => ?_
        obtain ⟨h', gs, d', tk', os'⟩ := s'
        obtain rfl : gs = s.gens := hm.gens
        obtain rfl : d' = s.drawn := hm.drawn
        obtain rfl : os' = s.os := hm.os
        refine wpAny_pure ?_; show wpAny _ _ (ret Value.none) _ _ _
        rw [hn] at m
        refine wpAny_pure ⟨rfl, h', tk', l, rfl, R1, m, fun c o e => hm.heap c o (fun z => ?_) (Heap.get?_push_of_some _ (Heap.get?_push_of_some _ e))⟩
        have lt := Heap.lt_size e
        rcases List.mem_cons.mp z with z | z
        · exact absurd lt (by rw [z]; exact Nat.lt_irrefl _)
        · rw [List.mem_singleton.mp z, Heap.size_push] at lt
          exact absurd (Nat.lt_of_succ_lt lt) (Nat.lt_irrefl _)
      · cases r2 with
        | error _ => exact hr2
        | ok fl2 =>
          cases fl2 with
          | ret r =>
            obtain ⟨rfl, h', tk, l, rfl, R1, m, k⟩ := hr2
            repeat (any_goals (first | assumption | wp_step))
            exact h _ _ _ R1 m k
          | _ => exact hr2.elim
    | _ => exact hr.elim
end
end PKT
namespace PKT
open PySem PySem.Spec PyProof.Rows L2 PySem.Froz
theorem strs_of : ∀ {vs : List Value}, (∀ v ∈ vs, ∃ k t, v = Value.str k t) → ∃ xs, StrsAre vs xs
  | [], _ => ⟨[], .nil⟩
  | v :: r, h => by
    obtain ⟨k, t, rfl⟩ := h v List.mem_cons_self
    obtain ⟨xs, q⟩ := strs_of (vs := r) fun u hu => h u (List.mem_cons_of_mem _ hu)
    exact ⟨_, .cons k t q⟩
theorem perm_sub : ∀ {l ys : List Str}, l.Nodup → (∀ x ∈ l, x ∈ ys) → ys.length = l.length → ys.Perm l
  | [], ys, _, _, e => by rw [List.length_eq_zero_iff.mp e]
  | x :: r, ys, nd, h, e => by
    obtain ⟨n1, n2⟩ := List.nodup_cons.mp nd
    have hx := h x List.mem_cons_self
    refine (List.perm_cons_erase hx).trans ((perm_sub (ys := ys.erase x) n2 (fun y hy => ?_) ?_).cons x)
    · have ne : y ≠ x := fun z => n1 (z ▸ hy)
      exact (List.mem_erase_of_ne ne).mpr (h y (List.mem_cons_of_mem _ hy))
    · rw [List.length_erase_of_mem hx, e]; rfl
/-- the texts of a payload are the set's -/
theorem TxOk.perm_of {P : Program} {w : World} {D : SD} {l ys : List Str} {vs : List Value} (F : TxOk P w D l) (nd : l.Nodup) (pm : vs.Perm (D.1.toList.map (·.2))) (hs : StrsAre vs ys) : ys.Perm l := by
  have len : ys.length = l.length := by rw [← F.sz, ← StrsAre.length hs, pm.length_eq, List.length_map, Array.length_toList]
  have sub : ∀ x ∈ l, x ∈ ys := fun x hx => by
    obtain ⟨e, me, pe⟩ := (F.mem x).mp hx
    have mv : e.2 ∈ vs := pm.mem_iff.mpr (List.mem_map.mpr ⟨e, me, rfl⟩)
    obtain ⟨i, hi⟩ := List.getElem?_of_mem mv
    obtain ⟨k, t, hk, ev⟩ := strs_get hs hi
    rw [ev] at pe
    have : x = k := (strKind P w).inj (.str k t) x k pe (is_str k t)
    rw [this]
    exact List.mem_of_getElem? hk
  exact perm_sub nd sub len
section
variable {P : Program} {w : World} {A : Around} {E : Value → Shared → Prop} {s : Shared} {a : Addr} {l : List Str}
set_option maxHeartbeats 3200000 in
theorem sorted_txts {Q : Value → Shared → Prop} (R : TS P w s.heap a l) (hh : A.handled = none) (few : l.length < 64)
    (hQ : ∀ s' p (out : Array Value) (c : Nat) (ys : List Str), (∀ b o, s.heap.get? b = some o → s'.heap.get? b = some o) → s'.gens = s.gens → s'.os = s.os → s.heap.objs.size ≤ p → s'.heap.get? p = some (seqObj "list" out c) → StrsAre out.toList ys → ys.Perm l → sortedS ys = true → Q (.ref p) s') :
    wpAny (model P w) A (call (.builtin "sorted") [.ref a]) Q E s := by
  obtain ⟨⟨D, eo, tx, ri, le⟩, nd⟩ := R
  refine Calls.call_function_entry kind_sorted plain_sorted entry_sorted (args_sorted1 _) ?_
  unfold Builtin.«sorted»; refine wpAny_bind (m := checkCount "sorted" 1 1 _) (wpAny_pure ?_)
  have sz : D.1.size < scanBound := by have := tx.sz; unfold scanBound; omega
  refine wpAny_bind (collect_set (A := A.in1) hh ⟨_, eo, rfl, rfl⟩ tx.fit sz ri le fun s1 vs k1 hz g1 o1 pm => ?_)
  have hv : vs.length = l.length := by rw [pm.length_eq, List.length_map, Array.length_toList]; exact tx.sz
  obtain ⟨ys, hs⟩ := strs_of (vs := vs) fun v hv => by
    obtain ⟨e, me, q⟩ := List.mem_map.mp (pm.mem_iff.mp hv)
    obtain ⟨⟨k, hk, _⟩, _⟩ := tx.el e me
    obtain ⟨t, q2⟩ := Value.isStrOf_shape (x := k) (v := e.2) hk
    exact ⟨k, t, by rw [← q, q2]⟩
  have py : ys.Perm l := TxOk.perm_of tx nd pm hs
  refine wpAny_bind (wpAny_newList ?_ (by rw [hv, sizeLine_eq]; omega))
  have e2 : (s1.heap.push (seqObj "list" vs.toArray 0)).get? s1.heap.objs.size = some (seqObj "list" vs.toArray 0) := Heap.get?_push_size _ rfl
  refine wpAny_bind (wpAny_holding (wpAny_call_entry slot_list_sort ⟨_, e2, rfl⟩ entry_list_sort (list_sort_treeK strKind_oneLt e2 hs.keysOf (fun _ _ _ e => keyKind_strs (by rw [← e]; exact hs)) (by rw [hv]; exact few) fun st hp hso => ⟨_, rfl, ?_⟩) (args_list_sort _)))
  obtain ⟨zs, z1, z2, z3⟩ := sorted_out_str hs hp hso
  obtain ⟨c, hc⟩ := sortedHeap_at (vs := vs) (out := (arrOf st).map (·.2)) e2
  refine wpAny_pure ⟨_, rfl, hQ _ s1.heap.objs.size _ c zs (fun b o e => ?_) g1 o1 hz hc z1 (z2.trans py) z3⟩
  have q := k1 b o e
  have lt := Heap.lt_size q
  exact (sortedHeap_old (Nat.ne_of_lt lt) (by rw [Heap.size_push]; exact Nat.lt_succ_of_lt lt)).trans (Heap.get?_push_of_some _ q)
end
end PKT
namespace PKT
open PySem PySem.Spec PyProof.Rows L2 PySem.Froz
/-- a set of texts -/
def SetX (P : Program) (w : World) (a : Addr) (l : List Str) : HO := .ext fun h => TS P w h a l
theorem setX_ok {P : Program} {w : World} {H : Hp} {h : Heap} {a : Addr} {l : List Str} (R : TS P w h a l) : ObjOk P w H h a (SetX P w a l) := by
  obtain ⟨⟨D, e, r⟩, nd⟩ := R
  exact ⟨⟨⟨D, e, r⟩, nd⟩, ⟨_, e⟩, fun h1 h2 R1 k => R1.at k⟩
def rSetS (K : PySem.W.Frag) (P : Program) (w : World) : List V → Hp → VK → Prop := fun vs H Q => ∃ (b : Addr) (xs : List Str), vs = [.ref b] ∧ SqL K H b (xs.map V.str) ∧ xs.length < 64 ∧
  ∀ a l, H a = none → Met xs xs.length l → l.Nodup → Q (.ref a) (upd H a (SetX P w a l))
theorem vals_strs : ∀ {xs : List Str} {vs : List Value}, StrsAre vs xs → Vals (xs.map V.str) vs
  | _, _, .nil => .nil
  | _, _, .cons k t r => .cons ⟨t, rfl⟩ (vals_strs r)
theorem strs_vals : ∀ {xs : List Str} {vs : List Value}, Vals (xs.map V.str) vs → StrsAre vs xs
  | [], _, .nil => .nil
  | x :: r, _, .cons h t => by obtain ⟨k, rfl⟩ := h; exact .cons x k (strs_vals t)
theorem one_ref {b : Addr} {us : List Value} (r : Vals [.ref b] us) : us = [.ref b] := by
  cases r with
  | cons h t => cases t; cases h; rfl
theorem cr_setS {X : Cx} (hc : X.calm = true) : CallR X (.type "set") (rSetS X.K X.prog X.w) := by
  intro pins s σ H vs us Q I r h
  obtain ⟨b, xs, rfl, hl, few, q⟩ := h
  rw [one_ref r]
  obtain ⟨its, rv, pl, _⟩ := I.list hl
  refine set_txts (P := X.prog) (w := X.w) xs (I.ok.hd hc) pl.isList (by simpa using strs_vals rv) (by unfold scanBound; omega) fun h' tk l R m k => ?_
  exact ⟨.ref s.heap.objs.size, _, I.laid (t' := tk) k (Nat.le_refl _) (setX_ok R), rfl, q _ l (I.hok.fresh (Nat.le_refl _)) m R.nd⟩
def rSortX (P : Program) (w : World) : List V → Hp → VK → Prop := fun vs H Q => ∃ (a : Addr) (l : List Str), vs = [.ref a] ∧ H a = some (SetX P w a l) ∧ l.length < 64 ∧
  ∀ zs p, zs.Perm l → sortedS zs = true → H p = none → Q (.ref p) (upd H p (.lst (zs.map V.str)))
theorem cr_sortX {X : Cx} (hc : X.calm = true) : CallR X (.builtin "sorted") (rSortX X.prog X.w) := by
  intro pins s σ H vs us Q I r h
  obtain ⟨a, l, rfl, ha, few, q⟩ := h
  rw [one_ref r]
  have R : TS X.prog X.w s.heap a l := (I.hok a _ ha).1
  refine sorted_txts R (I.ok.hd hc) few fun s' p out c ys k g o hp hg hy pm so => ?_
  have hn : H p = none := I.hok.fresh hp
  have hlen : (ys.map V.str).length ≤ sizeLine := by rw [List.length_map, pm.length_eq, sizeLine_eq]; omega
  have J : Inv X pins σ (upd H p (.lst (ys.map V.str))) { s with heap := s'.heap, gens := s'.gens, drawn := s'.drawn, toks := s'.toks } :=
    I.call (ch := []) (Un.laid k hp hn) (I.hok.laid k hp ⟨hlen, out.toList, c, vals_strs hy, hg⟩) (by rw [g]; exact I.bare) fun _ z => nomatch z
  have e : s' = { s with heap := s'.heap, gens := s'.gens, drawn := s'.drawn, toks := s'.toks } := by
    cases s'; cases s; cases o; rfl
  rw [e]
  exact ⟨.ref p, _, J, rfl, q ys p pm so hn⟩
end PKT
namespace PK
open PySem L2
/-- what len(xs) asks, by its name (within comprehensions) -/
def rLenS (K : PySem.W.Frag) : List V → Hp → VK → Prop := fun xs H Q => ∃ p ys, xs = [V.ref p] ∧ (SqL K H p ys ∨ SqT K H p ys) ∧ Q (.int ys.length) H
theorem call_lenS {X : Cx} : CallR X (.builtin "len") (rLenS X.K) := call_len_seq
end PK
/-! errors whose context is None: a try with several clauses 'except X as n', where it is known -/
namespace L2.PKN
open PySem PySem.Spec PyProof.Rows PKR
/-- the exception at a, caught and on the ground -/
structure Down (X : Cx) (pins : List (Addr × Obj)) (B : Heap) (a : Addr) (before : Shared) (σ : St) (H : Hp) (cls : Value) (d : Option Addr) (s : Shared) : Prop where
  inv : Inv X pins σ H before
  base : ∀ b o, before.heap.get? b = some o → b ∉ frs X.stack → B.get? b = some o
  slots : before.heap.UpToSlots s.heap
  fly : HandSPX.FlyingZ B (X.env :: X.outer) a (L2N.Zn cls d) s.heap
  out : H a = none
  os : s.os = before.os
  bare : AllBare s.gens
section
variable {X : Cx} {pins : List (Addr × Obj)} {B : Heap} {a : Addr} {before s : Shared} {σ : St} {H : Hp} {cls : Value} {d : Option Addr} {D : Ends} {Wout : WX}
theorem Down.here (z : Down X pins B a before σ H cls d s) : Inv X pins σ H s := z.inv.landed z.base z.fly.1 z.slots z.os z.bare
/-- its object, and that it is none of the frames' -/
theorem Down.obj (hf : X.env.frame = some X.env.locals) (z : Down X pins B a before σ H cls d s) : ∃ oe vs, s.heap.get? a = some oe ∧ L2N.Zn cls d oe ∧ oe.data = .fields vs ∧ a ≠ X.env.locals ∧ a ∉ X.fs := by
  obtain ⟨oe, vs, he, hz, hd⟩ := z.fly.there
  have nfr : a ∉ frs (X.env :: X.outer) := fun hm => by
    obtain ⟨_, o2, e2, no⟩ := z.fly.2.2.1.mem hm
    rw [he] at e2
    cases e2
    exact no _ hd
  refine ⟨oe, vs, he, hz, hd, fun q => nfr (List.mem_filterMap.mpr ⟨X.env, .head _, by rw [hf, q]⟩), fun q => ?_⟩
  obtain ⟨en, m, r⟩ := List.mem_filterMap.mp q
  exact nfr (List.mem_filterMap.mpr ⟨en, .tail _ m, r⟩)
theorem Down.more (z : Down X pins B a before σ H cls d s) {h : Heap} (fl : HandSPX.FlyingZ B (X.env :: X.outer) a (L2N.Zn cls d) h) (up : s.heap.UpToSlots h) : Down X pins B a before σ H cls d { s with heap := h } :=
  ⟨z.inv, z.base, z.slots.trans up, fl, z.out, z.os, z.bare⟩
/-- no clause is left -/
theorem row_nil (hs : X.stack = X.env :: X.outer) (hf : X.env.frame = some X.env.locals) (tk : L2N.Takes X Wout) (z : Down X pins B a before σ H cls d s) (w : Wout cls d σ H) :
    wpAny (model X.prog X.w) X.A (handleBy (.ref a) X.env []) (SP X pins D) X.xe s := by
  refine wpAny_handleBy_nil ?_
  obtain ⟨_, _, _, oe, vs, T, _, _, he, _, hd, h1, _⟩ := id z.fly
  unfold PySem.passOn
  refine wpAny_bind (wpAny_field he hd h1 ?_)
  rw [if_neg (show ¬ ((Value.ref T == Value.none) = true) by simp)]
  have last : wpAny (model X.prog X.w) X.A (setFlight (.ref a) X.env.frame) (fun _ s2 => wpAny (model X.prog X.w) X.A (throw (.ref a) : Sem Flow) (SP X pins D) X.xe s2) X.xe s := by
    rw [hf]
    refine HandSPX.setFlight_upZ z.fly fun h2 held up => wpAny_throw (tk _ _ ?_)
    exact ⟨a, B, before, pins, σ, H, cls, d, rfl, z.inv, z.base, z.slots.trans up, .inr (.inr (by rw [hs]; exact held)), z.out, z.os, z.bare, w⟩
  first
    | exact wpAny_bind (wpAny_pure (wpAny_bind last))
    | exact wpAny_bind last
/-- one clause -/
theorem row_cons {x n : Str} {c : Value} {i : Nat} {b₀ : Stmt} {more : List Stmt} {np pos : Pos} {ts : Suite} {hds : List ExceptHandler} {yes : Bool} (hf : X.env.frame = some X.env.locals) (hN : X.N.Nodup) (hi : X.N[i]? = some n)
    (hl : X.env.kindOf n = some .local) (hc : Names X x c)
    (body : ∀ (a : Addr) (oe : Obj) (cls : Value) (d : Option Addr) (pn : List (Addr × Obj)), L2N.Zn cls d oe → (∃ vs, oe.data = .fields vs) → PSs (X.suite a ((a, oe) :: pn)) (b₀ :: more) (ts a cls d))
    (z : Down X pins B a before σ H cls d s) (hy : PySem.W.exmOne X.K cls c = some yes) (t : yes = true → ts a cls d (offEnds i D) (σ.set i (some (.ref a))) H)
    (f : yes = false → wpAny (model X.prog X.w) X.A (handleBy (.ref a) X.env hds) (SP X pins D) X.xe s) :
    wpAny (model X.prog X.w) X.A (handleBy (.ref a) X.env (.ExceptHandler (some (.Name x np)) (some n) (b₀ :: more) pos :: hds)) (SP X pins D) X.xe s := by
  have ok := z.inv.ok
  obtain ⟨oe, vs, he, hz, hd, nL, nF⟩ := z.obj hf
  have S := z.here.suite he hd z.out nL nF
  refine wpAny_handleBy_cons (codeAny_handlers_test ?_) (fun q => nomatch q)
  have ty : PySem.W.Looks (model X.prog X.w) s.heap (typeOf (.ref a)) cls := fun _ _ _ _ k q => wpAny_typeOf_ref (k _ _ he) (by rw [hz.1]; exact q)
  have isIt := PySem.W.exm_one (M := model X.prog X.w) z.here.kIn ty hy
  have named : ∀ {Q E : Value → Shared → Prop}, Q c s → wpAny (model X.prog X.w) (X.A.mark (some (.ref a))) (eval (.Name x np) X.env) Q E s := fun {Q E} q => by
    obtain ⟨hg, nd, hm | ⟨hm, hv, hn⟩⟩ := hc
    · exact ld_glob (X := X.suite a ((a, oe) :: (X.pn ++ pins))) S hg hm q nd
    · exact ld_blt (X := X.suite a ((a, oe) :: (X.pn ++ pins))) S hg hm hv q hn nd
  refine named (isIt.here ?_)
  cases yes with
  | false => exact f rfl
  | true =>
    refine codeAny_handlers_suite_as (HandSPX.lands_againZ z.fly fun h2 fl up => ?_)
    have z2 := z.more fl up
    obtain ⟨oe2, vs2, he2, hz2, hd2, nL2, nF2⟩ := z2.obj hf
    refine store_ok (X := X.suite a ((a, oe2) :: (X.pn ++ pins))) (v := .ref a) (z2.here.suite he2 hd2 z.out nL2 nF2) hN hi (.inl hl) rfl (fun s3 S3 => ?_) (.inr hl)
    have run := (body a oe2 cls d (X.pn ++ pins) hz2 ⟨_, hd2⟩).run [] s3 (σ.set i (some (.ref a))) H (offEnds i D) S3 (t rfl)
    have gone : ∀ {p : St} {q : Hp} {s4 : Shared} {Q : Shared → Prop}, Inv (X.suite a ((a, oe2) :: (X.pn ++ pins))) [] p q s4 → (∀ s5, Inv X pins (p.set i none) q s5 → Q s5) →
        wpAny (model X.prog X.w) X.A (do bindName X.env n .none; unbindBehindTheSuite X.env n pos) (fun _ s5 => Q s5) X.xe s4 := fun S4 k => gone_ok (S4.unsuite ok) hN hi hl k
    refine wpAny_mono run (fun fl4 s4 done => ?_) (fun _ _ no => False.elim no)
    rcases fl4 with _ | _ | _ | u
    · obtain ⟨p, q, S4, k⟩ := done
      exact gone S4 fun s5 J => ⟨_, _, J, k⟩
    · obtain ⟨p, q, S4, k⟩ := done
      exact gone S4 fun s5 J => ⟨_, _, J, k⟩
    · obtain ⟨p, q, S4, k⟩ := done
      exact gone S4 fun s5 J => ⟨_, _, J, k⟩
    · obtain ⟨v, p, q, S4, r, k⟩ := done
      exact gone S4 fun s5 J => ⟨_, _, _, J, r, k⟩
end
/-- the clauses and their wishes -/
inductive Row (X : Cx) : List ExceptHandler → List (Value × Nat × Suite) → Prop
  | nil : Row X [] []
  | cons {x n : Str} {c : Value} {i : Nat} {b₀ : Stmt} {more : List Stmt} {np pos : Pos} {ts : Suite} {hds : List ExceptHandler} {l : List (Value × Nat × Suite)} (hi : X.N[i]? = some n) (hl : X.env.kindOf n = some .local) (hc : Names X x c)
      (body : ∀ (a : Addr) (oe : Obj) (cls : Value) (d : Option Addr) (pn : List (Addr × Obj)), L2N.Zn cls d oe → (∃ vs, oe.data = .fields vs) → PSs (X.suite a ((a, oe) :: pn)) (b₀ :: more) (ts a cls d)) (r : Row X hds l) :
      Row X (.ExceptHandler (some (.Name x np)) (some n) (b₀ :: more) pos :: hds) ((c, i, ts) :: l)
theorem row_runs {X : Cx} {pins : List (Addr × Obj)} {B : Heap} {a : Addr} {before s : Shared} {σ : St} {H : Hp} {cls : Value} {d : Option Addr} {D : Ends} {Wout : WX} (hs : X.stack = X.env :: X.outer) (hf : X.env.frame = some X.env.locals) (hN : X.N.Nodup) (tk : L2N.Takes X Wout)
    {hds : List ExceptHandler} {l : List (Value × Nat × Suite)} (hh : Row X hds l) (z : Down X pins B a before σ H cls d s) (w : wRow X.K Wout D l cls d σ H) : wpAny (model X.prog X.w) X.A (handleBy (.ref a) X.env hds) (SP X pins D) X.xe s := by
  induction hh with
  | nil => exact row_nil hs hf tk z w
  | cons hi hl hc body r ih =>
    obtain ⟨yes, hy, t, f⟩ := w
    exact row_cons hf hN hi hl hc body z hy (fun e => t e a z.out) fun e => ih (f e)
theorem ps_try_row {X : Cx} {body : List Stmt} {h₀ : ExceptHandler} {hds : List ExceptHandler} {l : List (Value × Nat × Suite)} {pos : Pos} {tb : WX → TS} {Wout : WX} (hs : X.stack = X.env :: X.outer) (hf : X.env.frame = some X.env.locals) (hN : X.N.Nodup) (tk : L2N.Takes X Wout)
    (hb : ∀ (W : WX) (pn : List (Addr × Obj)) (xe : Value → Shared → Prop), L2N.Takes (X.tr pn xe) W → PassesOwn (model X.prog X.w) X.A X.env xe → PSs (X.tr pn xe) body (tb W))
    (hh : Row X (h₀ :: hds) l) : PS X (.Try body (h₀ :: hds) [] [] pos) (fun D σ H => tb (wRow X.K Wout D l) D σ H) := by
  refine ⟨fun pins s σ H D I h => wpAny_Try_except ?_⟩
  have ok := I.ok
  have fr : X.A.frames = some (X.env :: X.outer) := by rw [ok.frames, hs]
  have inner := hb (wRow X.K Wout D l) (X.pn ++ pins)
    (fun e s1 => wpAny (model X.prog X.w) X.A (noteFrame e X.env) (fun _ s2 => wpAny (model X.prog X.w) X.A (setFlight e none) (fun _ s3 => wpAny (model X.prog X.w) X.A (handleBy e X.env (h₀ :: hds)) (SP X pins D) X.xe s3) X.xe s2) X.xe s1)
    (fun u s1 air => by
      obtain ⟨a, B, before, pins1, p, q, cls, d, rfl, J, base, up, sky, out, os, bare, w⟩ := air
      have J1 : Inv X pins p q before := J.ofTry ok
      refine L2N.Sky.land L2N.Zn.steady fr hf (show Sky B (X.env :: X.outer) a (L2N.Zn cls d) X.env.locals s1.heap by rw [← hs]; exact sky) fun h2 fl up2 => ?_
      exact row_runs hs hf hN tk hh (s := { s1 with heap := h2 }) ⟨J1, base, up.trans up2, fl, out, os, bare⟩ w)
    PassesOwn.looking
  refine wpAny_mono (inner.run [] s σ H D (I.toTry _) h) (fun f s1 done => ?_) (fun _ _ k => k)
  rcases f with _ | _ | _ | u
  · obtain ⟨p, q, J, k⟩ := done
    exact wpAny_execs_nil ⟨p, q, J.ofTry ok, k⟩
  · obtain ⟨p, q, J, k⟩ := done
    exact ⟨p, q, J.ofTry ok, k⟩
  · obtain ⟨p, q, J, k⟩ := done
    exact ⟨p, q, J.ofTry ok, k⟩
  · obtain ⟨v, p, q, J, r, k⟩ := done
    exact ⟨v, p, q, J.ofTry ok, r, k⟩
end L2.PKN

namespace L2.PKN
open PySem PySem.Spec PyProof.Rows PKR
theorem passLN {X : Cx} : Passes (L2N.CX X.prog X.w) X C8.E0 := fun _ _ _ _ _ _ _ air => by
  obtain ⟨_, _, _, _, _, _, _, _, _, _, _, _, none_⟩ := air
  exact none_.elim
theorem takes0N {X : Cx} : L2N.Takes X (fun _ _ _ _ => False) := fun _ _ air => by
  obtain ⟨_, _, _, _, _, _, _, _, _, _, _, _, _, _, _, _, none_⟩ := air
  exact none_.elim
/-- a def that may raise, by its body; nothing is handled when it runs -/
theorem okXN {P : Program} {w : World} {K : PySem.W.Frag} {mg : Str → Option Value} {base : Heap} {x qual : Str} {st : Stmt} {f : Addr} {fd : FuncData} {N ps : List Str} {k : Nat} {sp : Sp} (F : Fun K x qual st f fd) (S : FnScope N ps (defScope st)) (len : ∀ vs H Q E, sp vs H Q E → vs.length = ps.length)
    (body : ∀ (cdv : Value) (A : Around) (outer : List Env) (s : Shared) (H : Hp) (vs : List V) (Q : VK) (E : XK), Room k (A.deeper (envOfC qual (defScope st) s.heap.objs.size f cdv)) → sp vs H Q E →
      ∃ t, PSs (cxOf (L2N.CX P w) P w K mg base N qual (defScope st) f cdv A outer s H E) (defBody st) t ∧ t { nx := fun _ H' => Q .non H', rt := Q } (start N vs) H) : FnOk P w K mg base (L2N.CX P w) (k + 1) f fd ps sp := by
  obtain ⟨_, _, _, _, _, _, cdv, _, _, rfl, there, code⟩ := F.ex
  exact fn_of there code S len fun A outer s H vs Q E room pre => body cdv A outer s H vs Q E room pre
/-- C(e, ..), C an own class of errors with an own __init__: its context is None -/
theorem pmk_N {X : Cx} {CX : CXT} {x : Str} {e : Expr} {es : List Expr} {ta : TA} {p pos : Pos} {C fI : Addr} {k : Nat} {fd : FuncData} {ps : List Str} {sp : Sp} (T : OexC X.K C) (own : PySem.W.findIn X.K (.ref C) "__init__" = some (some (.ref fI))) (isF : PySem.W.typeIn X.K (.ref fI) = some (.type "function"))
    (G : FnOk X.prog X.w X.K X.mg X.base CX k fI fd ps sp) (room : Room (k + 1) X.A) (bs : Binds X.K fd ps []) (px : Passes CX X (fun _ _ _ => False)) (gl : Gl X x) (mx : X.mg x = some (.ref C)) (args : PA X (e :: es) ta)
    (hdb : (x == ("__debug__" : Str)) = false := by decide) (he : starEach (e :: es) X.env = (false, eval e X.env) :: starEach es X.env := by rfl) (hpl : (backTo pos (starEach es X.env)).any (·.1) = false := by rfl) :
    L2N.PMk X (.Call (.Name x p) (e :: es) [] pos) (tMkO C sp [] ta) := by
  intro pins s σ H Q I pre
  obtain ⟨_, _, _, _, bm, _, _, _, _, _, _, _, _, _, _, isC, ofVE⟩ := T.cls
  refine wpAny_Call_Name_kw (ld_glob I gl mx ?_ hdb)
  refine PySem.W.callWith_K (h₀ := X.base) I.ok.mod.kin T.kC (thn (args.run pos pins s σ H _ I pre) fun us s1 done => ?_) he hpl
  obtain ⟨vs, H1, I1, rel, few, then_⟩ := done
  refine ⟨I1.kIn, ?_⟩
  show wpAny _ _ (call (.ref C) us) _ _ _
  obtain ⟨hp, gn, dr, tk, os⟩ := s1
  have up : hp.objs.size ≤ hp.objs.size + 1 := Nat.le_succ _
  have free : H1 (hp.objs.size + 1) = none := I1.hok.fresh up
  have pre2 := then_ (hp.objs.size + 1) free
  rw [List.append_nil] at pre2
  generalize hh2 : (hp.push (PySem.W.kdv_tup us)).push (PySem.HandSPX.excO C hp.objs.size) = h2
  have kept : ∀ b o, hp.get? b = some o → h2.get? b = some o := fun b o z => by rw [← hh2]; exact Heap.get?_push_of_some _ (Heap.get?_push_of_some _ z)
  have made : h2.get? (hp.objs.size + 1) = some (PySem.HandSPX.excO C hp.objs.size) := by rw [← hh2]; heap_get
  have I2 : Inv X pins σ (upd H1 (hp.objs.size + 1) (exo (hp.objs.size + 1) C none)) ⟨h2, gn, dr, tk, os⟩ := I1.laid (t' := tk) (h' := h2) kept up (exo_ok made)
  have rel2 : Vals (V.ref (hp.objs.size + 1) :: vs) (Value.ref (hp.objs.size + 1) :: us) := .cons rfl rel
  have many : (Value.ref (hp.objs.size + 1) :: us ++ []).length = ps.length := by
    have z := rel2.length
    rw [G.len _ _ _ _ pre2] at z
    rw [List.append_nil]; exact z.symm
  have small_ : us.length ≤ sizeLine := by
    rw [← Paired.length rel, sizeLine_eq]; omega
  have bd := bs _ (Value.ref (hp.objs.size + 1) :: us) I2.kIn many
  rw [List.append_nil] at bd
  have inner := G.run _ X.stack _ _ ⟨Value.ref (hp.objs.size + 1) :: us, []⟩ (Value.ref (hp.objs.size + 1) :: us) _ _ (fun _ _ _ => False) (room.make C us []) (I2.env0.make C us []) bd rel2 pre2
  refine wpAny_call (PySem.HandSPX.call_own F.excBase_ValueError (fun Y => PySem.HandSPX.refsVE_contains Y bm ofVE) (I1.kIn _ _ isC) (PySem.W.looks_findIn I1.kIn own) (fun self => PySem.W.bind_fn I1.kIn self isF) small_ (codeAny_mono (by rw [← hh2] at inner; exact inner) fun r s2 fin => ?_))
  match r, fin with
  | .error er, fin => exact px pins σ _ _ er s2 I2 (by rw [← hh2]; exact fin)
  | .ok .next, fin => exact False.elim fin
  | .ok .brk, fin => exact False.elim fin
  | .ok .cont, fin => exact False.elim fin
  | .ok (.ret u), fin =>
    obtain ⟨v, H2, os2, bare2, un2, hok2, rv, ev, d, fs, ea, ed, hd1, q2⟩ := fin
    subst ev
    obtain ⟨h3, g3, d3, t3, os3⟩ := s2
    rw [← hh2] at kept
    obtain ⟨t0, G0, J, kG, ge, hoe, na⟩ := mk_end0 (d2 := d3) (t2 := t3) I1 up kept un2 hok2 os2 bare2 ea ed hd1
    refine ⟨rv, hp.objs.size + 1, _, _, ⟨G0, g3, d3, t3, os3⟩, _, .ref C, some d, rfl, J, kG, ge, hoe, ⟨rfl, rfl, fun ws e0 => ?_⟩, rfl, rfl, na, rfl, bare2, raises_own T.exC T.tyC, q2⟩
    cases e0
    rfl
end L2.PKN
/-! a caught error that is handed to another def -/
namespace L2.PKX
open PySem PySem.Spec PyProof.Rows L2H
/-- the promise of a def that is called in an except suite and knows the error p that is handled there -/
structure FnE (P : Program) (w : World) (K : PySem.W.Frag) (mg : Str → Option Value) (base : Heap) (k : Nat) (f : Addr) (fd : FuncData) (ps : List Str) (sp : Addr × Obj → Sp) : Prop where
  len : ∀ p vs H Q E, sp p vs H Q E → vs.length = ps.length
  run : ∀ (A : Around) (outer : List Env) (s : Shared) (H : Hp) (args : Args) (us : List Value) (vs : List V) (Q : VK) (E : XK) (p : Addr × Obj), RoomH k A → Hot1 A p → PinOk outer H s p → Env0 P w K mg base A outer s H → BindsTo s fd args (ps.zip us) → Vals vs us → sp p vs H Q E →
    codeAny (model P w) A (.call (.ref f) args) (CR CX0 outer P w H s Q E) s
theorem of_body {P : Program} {w : World} {K : PySem.W.Frag} {mg : Str → Option Value} {base : Heap} {k : Nat} {f : Addr} {fd : FuncData} {N ps : List Str} {sp : Addr × Obj → Sp} {x qual : Str} {st : Stmt} (F : Fun K x qual st f fd) (S : FnScope N ps (defScope st)) (len : ∀ p vs H Q E, sp p vs H Q E → vs.length = ps.length)
    (hbody : ∀ (cdv : Value) (A : Around) (outer : List Env) (s : Shared) (H : Hp) (vs : List V) (Q : VK) (E : XK) (p : Addr × Obj), HotC (cxH CX0 P w K mg base N qual (defScope st) f cdv A outer s H E p) → RoomH k (A.deeper (envOfC qual (defScope st) s.heap.objs.size f cdv)) → sp p vs H Q E →
      ∃ t, PSs (cxH CX0 P w K mg base N qual (defScope st) f cdv A outer s H E p) (defBody st) t ∧ t { nx := fun _ H' => Q .non H', rt := Q } (start N vs) H) : FnE P w K mg base (k + 1) f fd ps sp := by
  obtain ⟨oc, od, kV, doc, pm, an, cdv, ct, osl, rfl, lk, hcd⟩ := F.ex
  refine ⟨len, fun A outer s H args us vs Q E p room hot hpin env bd rel pre => ?_⟩
  have inK : K.In s.heap := env.mod.kin.keeps fun b o z => (env.bs b o z).1
  have noLim : s.heap.NoLimit := env.mod.nolimit.keeps fun b o z => (env.bs b o z).1
  refine codeAny_call_function room.depth (inK _ _ lk) rfl S.co S.gen rfl (PySem.W.codeRec_of inK hcd) (bd _ _ _ _ ?_)
  refine wpAny_newFunctionEnv_cells S.kind (fun y hy => ?_) fun e1 he s1 x1 => ?_
  · have m := S.par y.1 (List.of_mem_zip (show (y.1, y.2) ∈ ps.zip us from hy)).1
    exact m.imp id fun z => ⟨z, PySem.W.cellsFrom_some _ _ _ (.inl z)⟩
  subst he
  refine ⟨noLim.keeps x1.toInCall.keep, codeAny_func ?_⟩
  obtain ⟨t, ht, hq⟩ := hbody cdv A outer s H vs Q E p ⟨p, hot, List.mem_singleton.mpr rfl⟩ (room.deeper _) pre
  have I := inv_startH (CX := CX0) (P := P) (w := w) (E := E) S hpin env (len _ _ _ _ _ pre) rel x1
  refine wpAny_mono (ht.run [] s1 (start N vs) H _ I hq) (fun fl s2 done => ?_) fun _ _ z => z
  cases fl with
  | ret u =>
    obtain ⟨v, σ2, H2, J, rv, q⟩ := done
    exact ⟨v, H2, J.os, J.bare, J.base, J.hok, rv, q⟩
  | next =>
    obtain ⟨σ2, H2, J, q⟩ := done
    exact ⟨V.non, H2, J.os, J.bare, J.base, J.hok, rfl, q⟩
  | brk => exact done.elim fun _ z => z.elim fun _ z => z.2.elim
  | cont => exact done.elim fun _ z => z.elim fun _ z => z.2.elim
/-- a def of the module that may be called so -/
structure CalE (P : Program) (w : World) (K : PySem.W.Frag) (mg : Str → Option Value) (base : Heap) (k : Nat) (x : Str) (sp : Addr × Obj → Sp) : Prop where
  ex : ∃ (f : Addr) (fd : FuncData) (ps : List Str), FnE P w K mg base k f fd ps sp ∧ mg x = some (.ref f) ∧ PySem.W.keepIn K (.ref f) = true ∧ Binds K fd ps []
/-- f(e, ..) in the suite of the error a -/
def tCallE (a : Addr) (cls : Value) (d : Option Addr) (sp : Addr × Obj → Sp) (t : TA) : TE := fun σ H Q => t σ H fun vs H1 => ∀ oe, Zc cls d oe → (∃ vs, oe.data = .fields vs) → sp (a, oe) vs H1 Q C8.E0
theorem pin_stack {X : Cx} {pins : List (Addr × Obj)} {σ : St} {H : Hp} {s : Shared} (I : Inv X pins σ H s) {p : Addr × Obj} (hp : p ∈ X.pn ++ pins) : PinOk X.stack H s p := by
  obtain ⟨p1, p2, p3, p4, p5⟩ := I.pin _ hp
  refine ⟨p1, p2, fun hx => ?_, p5⟩
  rcases I.ok.stk with e | ⟨e, hf⟩
  · rw [e] at hx; exact p4 hx
  · rw [e] at hx
    have e3 : frs (X.env :: X.outer) = X.env.locals :: frs X.outer := by show List.filterMap _ _ = _; rw [List.filterMap_cons, hf]; rfl
    rw [e3] at hx
    exact (List.mem_cons.mp hx).elim p3 p4
theorem pe_cE {X : Cx} {k j : Nat} {x : Str} {sp : Addr × Obj → Sp} {a : Addr} {cls : Value} {d : Option Addr} {oe : Obj} {pn : List (Addr × Obj)} {p pos : Pos} {e : Expr} {es : List Expr} {t : TA}
    (c : CalE X.prog X.w X.K X.mg X.base k x sp) (hz : L2N.Zn cls d oe) (hf : ∃ vs, oe.data = .fields vs) (hr : Room j X.A) (hk : k ≤ j) (hg : Gl (X.suite a ((a, oe) :: pn)) x) (ha : PA (X.suite a ((a, oe) :: pn)) (e :: es) t)
    (hdb : (x == ("__debug__" : Str)) = false := by decide) (he : starEach (e :: es) X.env = (false, eval e X.env) :: starEach es X.env := by rfl) (hpl : (backTo pos (starEach es X.env)).any (·.1) = false := by rfl) :
    PE (X.suite a ((a, oe) :: pn)) (.Call (.Name x p) (e :: es) [] pos) (tCallE a cls d sp t) := by
  obtain ⟨f, fd, ps, F, hm, kp, b⟩ := c.ex
  refine ⟨fun pins s σ H Q I h => ?_⟩
  refine wpAny_Call_Name_kw (ld_glob I hg hm ?_ hdb)
  refine PySem.W.callWith_K (h₀ := X.base) I.ok.mod.kin kp (thn (ha.run pos pins s σ H _ I h) fun us s1 ⟨vs, H1, I1, r, q⟩ => ⟨I1.kIn, ?_⟩) he hpl
  have q1 := q oe hz.zc hf
  obtain ⟨vs0, hf0⟩ := id hf
  have hl : us.length = ps.length := by rw [← r.length]; exact F.len _ _ _ _ _ q1
  have bd := b s1 us I1.kIn (by rw [List.append_nil]; exact hl)
  rw [List.append_nil] at bd
  have hr2 : RoomH k (X.suite a ((a, oe) :: pn)).A := ⟨(hr.mono hk).dp, (hr.mono hk).un⟩
  refine wpAny_call (codeAny_mono (F.run _ _ s1 H1 ⟨us, []⟩ us vs Q C8.E0 (a, oe) hr2 ⟨rfl, vs0, hf0, hz.2.2 vs0 hf0⟩ (pin_stack I1 (List.mem_append_left _ (.head _))) I1.env0 bd r q1) fun r s' hq => ?_)
  cases r with
  | error e => exact hq.elim
  | ok fl =>
    cases fl with
    | ret u => exact I1.after hq
    | next => exact False.elim hq
    | brk => exact False.elim hq
    | cont => exact False.elim hq
/-- isinstance of the error that is pinned -/
def rIsP (K : PySem.W.Frag) (p : Addr × Obj) : List V → Hp → VK → Prop := fun xs H Q =>
  ∃ (c : V) (cv : Value) (yes : Bool) (D dd : Addr) (fs : List (Str × V)), xs = [.ref p.1, c] ∧ Zc (.ref D) (some dd) p.2 ∧ (∃ vs, p.2.data = .fields vs) ∧ (∀ u, RelV c u → u = cv) ∧ H dd = some (.xd fs) ∧ ExcC K D ∧ PySem.W.kitOne K (.ref D) cv = some yes ∧ Q (.bl yes) H
theorem call_isP {X : Cx} {p : Addr × Obj} (hp : p ∈ X.pn) : CallR X (.builtin "isinstance") (rIsP X.K p) := by
  intro pins s σ H xs us Q I r h
  obtain ⟨c, cv, yes, D, dd, fs, rfl, hz, hf, hcv, hx, C, hk, q⟩ := h
  rcases r with _ | ⟨rx, rr⟩
  rcases rr with _ | ⟨rc, rr⟩
  cases rr
  cases rx
  cases hcv _ rc
  have at_a := (I.pin p (List.mem_append_left _ hp)).1
  obtain ⟨vs, hd⟩ := hf
  obtain ⟨mA, hns, _⟩ := (show ObjOk X.prog X.w H s.heap dd (.xd fs) from I.hok dd _ hx)
  obtain ⟨od, ho, _⟩ := lookIn_ns hns
  have J : PySem.W.InstAt s.heap p.1 p.2 D (some od) := ⟨at_a, hz.1, by unfold PySem.W.notCls; rw [hd] <;> rfl, by rw [hz.2]; exact ho⟩
  obtain ⟨cd, hcd, _⟩ := PySem.W.any_some C.hd
  exact PySem.W.kia_one (PySem.W.kitx_exc (by rw [hcd]; rfl) C.hg C.hk C.hs C.ha C.hn C.ht C.hm) I.kIn J hk (fun e => nomatch e) fun tk => ⟨.bl yes, H, I.kept (t' := tk) fun _ _ k => k, rfl, q⟩
/-- its field -/
def tXfP (K : PySem.W.Frag) (p : Addr × Obj) (f : Str) (te : TE) : TE := fun σ H Q => te σ H fun x H1 => ∃ (C : Addr) (dd : Addr) (fs : List (Str × V)) (v : V), x = .ref p.1 ∧ Zc (.ref C) (some dd) p.2 ∧ (∃ vs, p.2.data = .fields vs) ∧ XfC K C ∧ PySem.W.findIn K (.ref C) f = some none ∧ H1 dd = some (.xd fs) ∧ fs.lookup f = some v ∧ Q v H1
theorem pe_xfP {X : Cx} {p : Addr × Obj} {e : Expr} {te : TE} {pos : Pos} {n : Str} (hp : p ∈ X.pn) (he : PE X e te) (hb : attributeBase e n X.env (eval e X.env) = eval e X.env := by rfl) : PE X (.Attribute e n pos) (tXfP X.K p n te) := by
  refine ⟨fun pins s σ H Q I h => ?_⟩
  refine attr_of hb (thn (he.run pins s σ H _ I h) fun u s1 hh => ?_)
  obtain ⟨x, H1, I1, rx, C, dd, fs, v, ex, hz, hf, T, hno, ea, l, q⟩ := hh
  subst ex
  obtain rfl : u = Value.ref p.1 := rx
  have ha := (I1.pin p (List.mem_append_left _ hp)).1
  obtain ⟨vs, hd⟩ := hf
  have hx : ObjOk X.prog X.w H1 s1.heap dd (.xd fs) := I1.hok dd _ ea
  obtain ⟨mA, hns, hr⟩ := hx
  obtain ⟨od, ho, hl⟩ := lookIn_ns hns
  obtain ⟨u, hu, ru⟩ := RelO.some_of (v := v) (o := mA n) (by rw [← l]; exact hr n)
  have J : PySem.W.InstAt s1.heap p.1 p.2 C (some od) := ⟨ha, hz.1, by unfold PySem.W.notCls; rw [hd] <;> rfl, by rw [hz.2]; exact ho⟩
  exact HandSPX.exc_get I1.kIn J T.ga T.gg T.exC (PySem.W.findObj_own T.hdC hno rfl (by rw [hl, hu])) (handed_of ru) ⟨v, H1, I1.tok _, ru, q⟩
end L2.PKX
/-! lists walked while an error is handled: its end, sum, a comprehension -/
namespace L2.PKH
open PySem PySem.Spec PyProof.Rows L2H HotX
section
variable {prog : Program} {w : World} {A : Around} {E : Value → Shared → Prop} {s : Shared}
theorem no_third {a b : Value} {vs : Array Value} (e : (#[a, b] : Array Value) = vs) : vs[2]? = none := by rw [← e]; rfl
/-- the end of a list that is walked -/
theorem list_over {it src x1 : Addr} {n : Nat} {vals : Array Value} {Q : Option Value → Shared → Prop} (hot : HotAt A x1 s.heap) (walk : s.heap.IsListIter it src n) (have_ : s.heap.IsList src vals) (over : vals[n]? = none)
    (then_ : ∀ h', (∀ b o, b ≠ it → s.heap.get? b = some o → h'.get? b = some o) → Q none { s with heap := h' }) : wpAny (model prog w) A (pyNext (.ref it)) Q E s := by
  obtain ⟨o, there, kind, fields⟩ := id walk
  obtain ⟨ol, lthere, _, nl, ldata⟩ := have_
  obtain ⟨hh, o1, vs1, h1, d1, c1⟩ := hot
  have ne : x1 ≠ it := fun z => by
    subst z
    rw [there] at h1
    cases h1
    rw [fields] at d1
    have := no_third (Data.fields.inj d1)
    rw [c1] at this; cases this
  unfold pyNext
  refine wpAny_bind (wpAny_attempt (wpAny_callSpecial?_slot (name := Str.ofString "__next__") walk.typeIs slot_listiter_next (wpAny_call_entry slot_listiter_next walk.typeIs entry_listiter_next ?_ (args_listiter_next _))))
  show wpAny _ _ (field (.ref it) 0 >>= _) _ _ s
  refine wpAny_bind (wpAny_field there fields (x := .ref src) rfl ?_)
  show wpAny _ _ (if (Value.ref src == Value.none) = true then _ else _) _ _ s
  rw [if_neg (show ¬ ((Value.ref src == Value.none) = true) from Bool.false_ne_true)]
  show wpAny _ _ (field (.ref it) 1 >>= _) _ _ s
  refine wpAny_bind (wpAny_field there fields (x := .int n 0) rfl ?_)
  show wpAny _ _ (seqItems? (.ref src) >>= _) _ _ s
  refine wpAny_bind (wpAny_seqItems lthere ldata ?_)
  simp only [Int.toNat_natCast, over]
  refine wpAny_bind (wpAny_rule (wpAny_bind (wpAny_setField there fields (by simp) ?_)))
  show wpAny _ _ (newExc (.type "StopIteration") [] >>= _) _ _ _
  refine wpAny_bind ?_
  simp only [newExc, newTuple]
  refine wpAny_bind (wpAny_newObj_type ?_ (by size_fits))
  refine wpAny_bind (m := firstArgMember _ _) (wpAny_of_eq (a := Value.none) (by first | rfl | (simp only [firstArgMember]; rfl)) ?_)
  refine wpAny_newObj_type ?_ (by size_fits)
  have h1' : (s.heap.update it (Obj.mapFields (·.setIfInBounds 0 .none))).get? x1 = some o1 := (Heap.get?_update_other _ _ (fun z => ne z.symm)).trans h1
  refine raiseNew_hot (x1 := x1) ⟨hh, o1, vs1, Heap.get?_push_of_some _ (Heap.get?_push_of_some _ h1'), d1, c1⟩ (Nat.ne_of_lt (Heap.lt_size (Heap.get?_push_of_some _ h1'))) (Heap.get?_push_size _ rfl) rfl (by first | (simp; done) | (simp; omega) | (simp only [Array.size_append]; simp; omega)) ?_
  refine wpAny_bind (wpAny_isInstance (T := "StopIteration") (b := true) ⟨_, Heap.get?_update_self _ (Heap.get?_push_size _ rfl) rfl, rfl⟩ isSubtype_stop ?_)
  refine wpAny_pure (then_ _ fun b ob nb at_ => ?_)
  have at2 := (Heap.get?_update_other s.heap (Obj.mapFields (·.setIfInBounds 0 .none)) (fun z : it = b => nb z.symm)).trans at_
  rw [Heap.get?_update_other _ _ (Nat.ne_of_gt (Heap.lt_size (Heap.get?_push_of_some _ at2)))]
  exact Heap.get?_push_of_some _ (Heap.get?_push_of_some _ at2)
/-- walking a list while x1 is handled -/
theorem walks_hot {x1 : Addr} {o1 : Obj} {vs1 : Array Value} (hh : A.handled = some (.ref x1)) (d1 : o1.data = .fields vs1) (c1 : vs1[2]? = some .none) (it src : Addr) (apart : src ≠ it) (apart1 : x1 ≠ it) (vals : Array Value) :
    Walks prog w A it [it, src, x1] [it] vals.size (fun i v => vals[i]? = some v) (fun i h => h.IsListIter it src i ∧ h.IsList src vals ∧ h.get? x1 = some o1) where
  sub := fun b m => by simp at m; simp [m]
  frame := fun _ _ _ st same => ⟨st.1.at fun o z => same it (by simp) o z, st.2.1.at fun o z => same src (by simp) o z, same x1 (by simp) _ st.2.2⟩
  item := fun i s Q E more st then_ => by
    refine wpAny_pyNext_list_item st.1 st.2.1 (x := vals[i]) (by simp [more]) fun h' on but => ?_
    exact then_ _ h' s.toks (by simp [more]) ⟨on, st.2.1.extBut but.extBut apart, but.extBut x1 _ apart1 st.2.2⟩ fun b o nb z => but.extBut b o (fun q => nb (by simp [q])) z
  done := fun s Q E st then_ => list_over ⟨hh, o1, vs1, st.2.2, d1, c1⟩ st.1 st.2.1 (by simp) fun h' but => then_ h' s.toks fun b o nb z => but b o (fun q => nb (by simp [q])) z
  self := fun _ _ _ _ st then_ => wpAny_pyIter_listiter st.1 then_
/-- sum of a list of integers while something is handled -/
theorem sum_hot {X : Cx} (hc : HotC X) : CallR X (.builtin "sum") (rSum X.K) := by
  intro pins s σ H vs us Q I r h
  obtain ⟨a, ns, rfl, hs, q⟩ := h
  obtain ⟨its, rv, pl, _⟩ := I.list hs
  rw [Vals.ref1 r]
  obtain ⟨xs, e⟩ := rv.ints.allInts.items
  have total : numsOf (intItems xs).toList = ns := by rw [← e]; exact rv.ints.numsOf
  rw [nums_intItems] at total
  have pl2 := pl.isList
  rw [e] at pl2
  obtain ⟨x1, hh, o1, vs1, h1, d1, c1⟩ := hc.at I
  refine PySem.call_sum_walkG (PySem.iter_intList pl2 fun s2 e2 st below apart => ?_)
  subst e2
  have lt1 := Heap.lt_size h1
  refine ⟨_, _, _, _, _, _, PySem.numAt xs, rfl, walks_hot (A := X.A.in1) hh d1 c1 _ a apart (Nat.ne_of_lt lt1) (PySem.intItems xs), ⟨st.1, st.2, Heap.get?_push_of_some _ h1⟩, fun b m => ?_, (fun _ _ => PySem.intItems_at), fun h' tk t' kept => ?_⟩
  · rcases List.mem_cons.mp m with z | m
    · exact below b (by rw [z]; exact .head _)
    rcases List.mem_cons.mp m with z | m
    · exact below b (by rw [z]; exact .tail _ (.head _))
    · rw [List.mem_singleton.mp m, Heap.size_push]; exact Nat.lt_succ_of_lt lt1
  · have old := PySem.old_kept kept
    refine ⟨.int ns.sum, H, I.kept old, ⟨t', ?_⟩, q⟩
    rw [preSum_eq, List.take_of_length_le (by simp [PySem.intItems]), total]
/-- [elt for tg in l if ..], l a list, while something is handled -/
theorem lc_hot {X : Cx} {elt tg l : Expr} {ifs : List Expr} {scope : Scope} {own : List (Str × Nat)} {pos : Pos} {tl : TE} {g : TG} {tt : TT} {te : TE} (hot : HotC X) (nd : X.N.Nodup) (src : PE X l tl) (blk : BlkOk X.N X.env.scope scope own)
    (pg : ∀ (s : Shared) (H : Hp) (C : Addr) (cl : List (Str × Addr)) (fp : List Addr), PG (X.blk s H scope (compEnvC scope cl C X.env) fp) tg g) (pt : ∀ (s : Shared) (H : Hp) (C : Addr) (cl : List (Str × Addr)) (fp : List Addr), PTs (X.blk s H scope (compEnvC scope cl C X.env) fp) ifs tt)
    (pe : ∀ (s : Shared) (H : Hp) (C : Addr) (cl : List (Str × Addr)) (fp : List Addr), PE (X.blk s H scope (compEnvC scope cl C X.env) fp) elt te) (plain : ∀ x, foldedSetIterable l X.env x = pure x := by intro _; rfl) :
    PE X (.ListComp elt [⟨tg, l, ifs, 0⟩] scope pos) (tLc (iList X.K tl) g tt te (own.map (·.2))) := by
  refine ⟨fun pins s σ H Q I pre => ?_⟩
  rw [eval_ListComp]
  obtain ⟨px, ⟨hh, vs1, d1, c1⟩, inPn⟩ := hot
  have cells : ∀ y ∈ scope.names, y.2 = .free → ∃ c, X.env.cells.lookup y.1 = some c := fun y m z => (blk.free y m z).elim (fun k => I.ok.has _ (.inl k)) fun k => I.ok.has _ (.inr k)
  refine wpAny_comprehension_free (use := none) rfl plain (closure_ok cells) blk.kind (fun y m z => by rw [blk.uniq y m, z]) (thn (src.run pins s σ H _ I pre) fun v s1 got => ?_)
  obtain ⟨xv, H1, I1, rel, a, isA, ⟨xs, sq⟩, rest⟩ := got
  subst isA
  cases rel
  obtain ⟨_, _, pl, _⟩ := I1.list sq
  refine wpAny_pyIter_list pl.isList ?_
  have ltx : px.1 < s1.heap.objs.size := Heap.lt_size (I1.pin px (List.mem_append_left _ inPn)).1
  generalize hit : s1.heap.objs.size = it at ltx
  generalize hs2 : ({ s1 with heap := s1.heap.push { cls := .type "list_iterator", data := .fields #[.ref a, .int 0 0] } } : Shared) = s2
  have I2 : Inv X pins σ H1 s2 := by rw [← hs2]; exact I1.kept (t' := s1.toks) fun b o z => Heap.get?_push_of_some _ z
  have at0 : s2.heap.IsListIter it a 0 := by rw [← hs2, ← hit]; exact ⟨_, Heap.get?_push_size _ rfl, rfl, rfl⟩
  have fp0 : FpOk X pins H1 it := by rw [← hit]; exact I1.fpOk (Nat.le_refl _) (I1.hok.fresh (Nat.le_refl _))
  have lt2 : it < s2.heap.objs.size := by obtain ⟨o, z, _⟩ := at0; exact Heap.lt_size z
  refine wpAny_newObj_type (newEnv_comp ?_) (by show 0 ≤ sizeLine; decide)
  generalize hD : s2.heap.objs.size = D
  have newD : H1 D = none := I2.hok.fresh (Nat.le_of_eq hD)
  obtain ⟨W, ⟨m0, w0⟩, turn⟩ := rest D newD
  generalize hs3 : ({ s2 with heap := s2.heap.push { cls := .type "list", data := .seq ([] : List Value).toArray } } : Shared) = s3
  have h3 : s3.heap = s2.heap.push { cls := .type "list", data := .seq ([] : List Value).toArray } := by rw [← hs3]
  have I3 : Inv X pins σ (upd H1 D (.lst [])) s3 := by
    rw [← hs3]
    exact I2.laid (t' := s2.toks) (fun b o z => Heap.get?_push_of_some _ z) (Nat.le_of_eq hD) ⟨Nat.zero_le _, [], 0, .nil, by rw [← hD]; exact Heap.get?_push_size _ rfl⟩
  have fp3 : FpOk X pins (upd H1 D (.lst [])) it := ⟨by rw [upd_ne (by rw [← hD]; exact Nat.ne_of_lt lt2)]; exact fp0.1, fp0.2⟩
  have at3 : s3.heap.IsListIter it a 0 := at0.at fun o z => by rw [h3]; exact Heap.get?_push_of_some _ z
  have lt3 : it < s3.heap.objs.size := by rw [h3, Heap.size_push]; exact Nat.lt_succ_of_lt lt2
  have one : ∀ {φ : Addr → Prop}, φ it → ∀ b ∈ [it], φ b := fun {φ} z b m => by rw [List.mem_singleton.mp m]; exact z
  have I4 := block_start I3 blk nd (fp := [it]) (one ⟨fp3, lt3⟩)
  have pg' := pg s3 (upd H1 D (.lst [])) s3.heap.objs.size (cellsFrom (s3.heap.objs.size + 1) scope.names (cloFrom X.env.cells scope.names [])) [it]
  have pt' := pt s3 (upd H1 D (.lst [])) s3.heap.objs.size (cellsFrom (s3.heap.objs.size + 1) scope.names (cloFrom X.env.cells scope.names [])) [it]
  have pe' := pe s3 (upd H1 D (.lst [])) s3.heap.objs.size (cellsFrom (s3.heap.objs.size + 1) scope.names (cloFrom X.env.cells scope.names [])) [it]
  show codeAny _ _ (.compStart (.ListComp elt [⟨tg, l, ifs, 0⟩] scope pos) 0 (.ref it) (.ref D) (compEnvC scope (cellsFrom (s3.heap.objs.size + 1) scope.names (cloFrom X.env.cells scope.names [])) s3.heap.objs.size X.env)) (compPost (model X.prog X.w) X.A X.xe none (fun v s' => EP X pins σ Q v s') (.ref D) s3.heap.objs.size) { s3 with heap := pushCells (s3.heap.push { cls := .type "dict", data := .dict #[] }) scope.names }
  generalize hce : compEnvC scope (cellsFrom (s3.heap.objs.size + 1) scope.names (cloFrom X.env.cells scope.names [])) s3.heap.objs.size X.env = ce at I4 pg' pt' pe' ⊢
  have atC : ce.locals = s3.heap.objs.size := by subst hce; rfl
  generalize hH3 : upd H1 D (.lst []) = H3 at I3 I4 pg' pt' pe' w0 fp3
  generalize hs4 : ({ s3 with heap := pushCells (s3.heap.push { cls := .type "dict", data := .dict #[] }) scope.names } : Shared) = s4 at I4 ⊢
  have at4 : s4.heap.IsListIter it a 0 := at3.at fun o z => by rw [← hs4]; exact pushCells_keeps _ _ _ _ (Heap.get?_push_of_some _ z)
  -- the error stands there all the while
  have pin3 := I3.pin px (List.mem_append_left _ inPn)
  have nst := (PKX.pin_stack I3 (List.mem_append_left _ inPn)).nofs
  have still : ∀ {σ' : St} {H' : Hp} {s' : Shared}, Inv (X.blk s3 H3 scope ce [it]) [] σ' H' s' → HotAt X.A px.1 s'.heap := fun {σ' H' s'} J =>
    ⟨hh, px.2, vs1, J.base.keep px.1 px.2 pin3.1 pin3.2.1 nst (fun m => absurd (List.mem_singleton.mp m) (Nat.ne_of_lt ltx)), d1, c1⟩
  have own_ : ∀ {σ' : St} {H' : Hp} {s' : Shared}, Inv (X.blk s3 H3 scope ce [it]) [] σ' H' s' → H' it = none → FpOk (X.blk s3 H3 scope ce [it]) [] H' it := fun {σ' H' s'} J free =>
    ⟨free, (J.ok.exf it (.head _)).1, J.ok.exfs it (.head _), .inl (.head _), fun x c z => (J.ok.exf it (.head _)).2 x c z, fun p m => absurd (show p ∈ ([] : List (Addr × Obj)) ++ [] from m) (by simp)⟩
  have loop : codeAny (model X.prog X.w) X.A (.compLoop (.ListComp elt [⟨tg, l, ifs, 0⟩] scope pos) 0 (.ref it) (.ref D) ce) (compPost (model X.prog X.w) X.A X.xe none (fun v s' => EP X pins σ Q v s') (.ref D) s3.heap.objs.size) s4 := by
    refine compLoop_any (fun n s' => ∃ i H', Inv (X.blk s3 H3 scope ce [it]) [] (wipe σ (own.map (·.2))) H' s' ∧ s'.heap.IsListIter it a i ∧ H' it = none ∧ W i n H') ?_ m0 ⟨0, H3, I4, at4, fp3.1, w0⟩
    rintro n s5 ⟨i, H5, I5, at5, free5, w5⟩
    rcases turn i n H5 w5 with ⟨⟨ys, sq5, le5⟩, goal⟩ | ⟨⟨ys, y, sq5, has⟩, Nx, smaller, step⟩
    · obtain ⟨its5, rv5, p5, _⟩ := I5.list sq5
      have len5 := rv5.length
      obtain ⟨f0, f1, f2, f3, f4, f5⟩ := own_ I5 free5
      refine list_over (still I5) at5 p5.isList (by simp; omega) fun h' but => ?_
      have I6 : Inv (X.blk s3 H3 scope ce [it]) [] (wipe σ (own.map (·.2))) H5 { s5 with heap := h' } := I5.turned (t' := s5.toks) (fun b o nb z => but b o nb z) f0 f1 f3 f4 f5
      have I7 : Inv X pins σ H5 { s5 with heap := h' } := I3.call' (ch := [it]) I6.os I6.base I6.hok I6.bare (one ⟨fp3.2.2.2.1, fp3.2.1, fp3.2.2.2.2.1, fp3.2.2.2.2.2⟩)
      have freeC : H5 s3.heap.objs.size = none := by
        have z : H5 ce.locals = none := I6.free
        rwa [atC] at z
      obtain ⟨m, named, _⟩ := I6.loc
      have named : Heap.Ns h' ce.locals m := named
      rw [atC] at named
      refine ⟨m, named, fun h2 same => ?_⟩
      obtain ⟨g0, g1, g2, g3, g4, g5⟩ := I3.fpOk (H' := H5) (Nat.le_refl _) freeC
      exact ⟨.ref D, H5, I7.turned (t' := s5.toks) (fun b o nb z => (same.2 b nb).trans z) g0 g1 g3 g4 g5, rfl, goal⟩
    · obtain ⟨its5, rv5, p5, _⟩ := I5.list sq5
      obtain ⟨u, hu, ru⟩ := rv5.get has
      obtain ⟨f0, f1, f2, f3, f4, f5⟩ := own_ I5 free5
      refine wpAny_pyNext_list_item at5 p5.isList (x := u) (by simpa using hu) fun h' on but => ?_
      have I6 : Inv (X.blk s3 H3 scope ce [it]) [] (wipe σ (own.map (·.2))) H5 { s5 with heap := h' } := I5.turned (t' := s5.toks) (fun b o nb z => (but.2 b nb).trans z) f0 f1 f3 f4 f5
      obtain ⟨o, z0, z1, z2⟩ := id on
      refine go_of (s := { s5 with heap := h' }) z0 z1 z2 (by decide) ?_
      have I6' := I6.pinned (fp := [it]) (one (own_ I6 free5)) (one ⟨o, z0, fun v z => by rw [z2] at z; cases z⟩)
      refine thnF (pg'.run _ _ _ H5 y u _ I6' ru (step y H5 ⟨rfl, fun zs sz => by rw [I5.list_inj sz sq5]; exact has⟩)) fun _ s8 ⟨σ8, H8, I8, same8, q8⟩ => ?_
      refine thnF (pt'.run _ s8 σ8 H8 _ I8 q8) fun b s9 ⟨H9, I9, q9⟩ => ?_
      have again : ∀ {s' : Shared} {H' : Hp}, Inv (X.blk s3 H3 scope ce [it]) ([] ++ pinsAt [it] h') σ8 H' s' → Nx H' → ∃ m, m < n ∧ ∃ i H', Inv (X.blk s3 H3 scope ce [it]) [] (wipe σ (own.map (·.2))) H' s' ∧ s'.heap.IsListIter it a i ∧ H' it = none ∧ W i m H' := fun {s' H'} J nx => by
        obtain ⟨m, lt, w'⟩ := smaller H' nx
        have pin := J.pin (it, o) (List.mem_append_right _ (List.mem_append_right _ (mem_pinsAt (.head _) z0)))
        have len : (wipe σ (own.map (·.2))).length = σ8.length := by rw [← same8, wipe_length]
        refine ⟨m, lt, i + 1, H', (J.unpinned (pins := [])).weak len (fun j v z => ?_), ⟨o, pin.1, z1, z2⟩, pin.2.1, w'⟩
        rw [← same8] at z
        exact (wipe_some z).1
      cases b with
      | false =>
        simp only [Bool.false_eq_true, if_false] at q9 ⊢
        exact again I9 q9
      | true =>
        simp only [if_true] at q9 ⊢
        refine thnF (pe'.run _ s9 σ8 H9 _ I9 q9) fun z s10 ⟨yv, H10, I10, r10, acc, hD10, room, nx⟩ => ?_
        exact app_ok (X := X.blk s3 H3 scope ce [it]) I10 hD10 room r10 fun s11 I11 => again I11 nx
  exact codeAny_compStart_list loop (wpAny_pyIter_listiter at4 loop)
end
end L2.PKH
namespace PKE
open PySem L2
/-! == and != of data of any depth that there is room for -/
section
variable {X : Cx}
def rEqN (K : PySem.W.Frag) (n : Nat) : R2 := fun x y H Q => ∃ d e, Dp K H x d ∧ Dp K H y e ∧ d.canLay0 = true ∧ e.canLay0 = true ∧ (d.depth ≤ n ∨ e.depth ≤ n) ∧ Q (.bl (PyData.eqv d e)) H
theorem op_eqN {n : Nat} (hu : X.A.units + n < cLine) : OpR X (compareOp .Eq) (rEqN X.K n) := by
  intro pins s σ H x y v u Q I rx ry h
  obtain ⟨d, e, hd, he, sd, se, hn, q⟩ := h
  obtain ⟨as, r1⟩ := Dp.reads I d x v hd rx
  obtain ⟨bs, r2⟩ := Dp.reads I e y u he ry
  refine SeqAt.compareEq_reads r1 r2 sd se ?_ ⟨.bl _, H, I, rfl, q⟩
  rcases hn with h | h
  · exact Nat.lt_of_le_of_lt (Nat.add_le_add_left (Nat.le_trans (Nat.min_le_left _ _) h) _) hu
  · exact Nat.lt_of_le_of_lt (Nat.add_le_add_left (Nat.le_trans (Nat.min_le_right _ _) h) _) hu
end
end PKE
namespace PKE
open PySem L2
/-! != of data of any depth that there is room for -/
section
variable {X : Cx}
def rNeN (K : PySem.W.Frag) (n : Nat) : R2 := fun x y H Q => ∃ d e, Dp K H x d ∧ Dp K H y e ∧ d.canLay0 = true ∧ e.canLay0 = true ∧ (d.depth ≤ n ∨ e.depth ≤ n) ∧ Q (.bl (!PyData.eqv d e)) H
theorem op_neN {n : Nat} (hu : X.A.units + n < cLine) : OpR X (compareOp .NotEq) (rNeN X.K n) := by
  intro pins s σ H x y v u Q I rx ry h
  obtain ⟨d, e, hd, he, sd, se, hn, q⟩ := h
  obtain ⟨as, r1⟩ := Dp.reads I d x v hd rx
  obtain ⟨bs, r2⟩ := Dp.reads I e y u he ry
  refine SeqAt.compareNe_reads r1 r2 sd se ?_ ⟨.bl _, H, I, rfl, q⟩
  rcases hn with h | h
  · exact Nat.lt_of_le_of_lt (Nat.add_le_add_left (Nat.le_trans (Nat.min_le_left _ _) h) _) hu
  · exact Nat.lt_of_le_of_lt (Nat.add_le_add_left (Nat.le_trans (Nat.min_le_right _ _) h) _) hu
end
end PKE
/-! a text times a number -/
namespace PKR
open PySem PySem.Spec PyProof.Rows L2
def repS (x : Str) (n : Nat) : Str := ⟨(List.replicate n x.cps).foldl (· ++ ·) #[]⟩
theorem fold_len : ∀ (n : Nat) (x a : Array Nat), ((List.replicate n x).foldl (· ++ ·) a).toList = a.toList ++ (List.replicate n x.toList).flatten
  | 0, x, a => by simp
  | n + 1, x, a => by
    rw [List.replicate_succ, List.foldl_cons, fold_len n x (a ++ x), List.replicate_succ, List.flatten_cons, Array.toList_append, List.append_assoc]
theorem repS_list (x : Str) (n : Nat) : (repS x n).cps.toList = (List.replicate n x.cps.toList).flatten := by
  unfold repS
  rw [fold_len]
  simp
theorem repS_one (x : Str) : repS x 1 = x := by
  refine Str.ext' (Array.toList_inj.mp ?_)
  rw [repS_list]
  simp
theorem repS_zero (x : Str) : repS x 0 = Str.empty := rfl
section
variable {X : Cx}
theorem op_repS : OpR X (binaryOp .Mult) (fun x y H Q => ∃ i n, x = .str i ∧ y = .int n ∧ 0 ≤ n ∧ n ≤ 10000 ∧ i.length ≤ 100 ∧ Q (.str (repS i n.toNat)) H) := by
  intro pins s σ H x y v u Q I rx ry h
  obtain ⟨i, n, rfl, rfl, h0, h1, hl, q⟩ := h
  obtain ⟨t, rfl⟩ := rx
  obtain ⟨t', rfl⟩ := ry
  have hm : i.length * n.toNat ≤ 100 * 10000 := Nat.mul_le_mul hl (by omega)
  refine PySem.P.mul_str ?_ (fun h2 _ => ?_) (fun h2 _ => ?_) ?_
  · rw [decide_eq_false (by omega), decide_eq_false (by omega)]; rfl
  · have : (9223372036854775807 : Int) / 10000 ≤ (2 ^ 63 - 1) / n := by
      have e : (2 : Int) ^ 63 - 1 = 9223372036854775807 := by decide
      rw [e]
      exact (Int.le_ediv_iff_mul_le (by omega)).mpr (Int.le_trans (Int.mul_le_mul_of_nonneg_left h1 (by decide)) (by decide))
    have : (9223372036854775807 : Int) / 10000 = 922337203685477 := by decide
    omega
  · exact decide_eq_false (by rw [sizeLine_eq]; omega)
  · by_cases c1 : n < 1
    · rw [if_pos c1]
      have e0 : n.toNat = 0 := by omega
      rw [e0] at q
      exact ⟨by decide, ⟨.str _, H, I.tok _, ⟨_, rfl⟩, q⟩⟩
    rw [if_neg c1]
    by_cases c2 : (n == 1 || i.length == 0) = true
    · rw [if_pos c2]
      have e : repS i n.toNat = i := by
        rcases Bool.or_eq_true_iff.mp c2 with h | h
        · rw [show n.toNat = 1 by have := beq_iff_eq.mp h; omega]; exact repS_one i
        · have hz : i.cps.toList = [] := List.length_eq_zero_iff.mp (by have := beq_iff_eq.mp h; show i.cps.toList.length = 0; rw [Array.length_toList]; exact this)
          refine Str.ext' (Array.toList_inj.mp ?_)
          rw [repS_list, hz]
          simp
      rw [e] at q
      exact ⟨.str i, H, I, ⟨_, rfl⟩, q⟩
    · rw [if_neg c2]
      have lr : (repS i n.toNat).length ≤ sizeLine := by
        have e : (repS i n.toNat).length = (repS i n.toNat).cps.toList.length := by rw [Array.length_toList]; rfl
        rw [e, repS_list, List.length_flatten, List.map_replicate, List.sum_replicate_nat, Array.length_toList, sizeLine_eq]
        have : i.cps.size = i.length := rfl
        rw [this, Nat.mul_comm]; omega
      exact ⟨lr, ⟨.str _, H, I.tok _, ⟨_, rfl⟩, q⟩⟩
end
end PKR
namespace PK
open PySem L2
def topS (i : Nat) : Stmt := PySem.Challenge.pw_passproven_k02_refused_texts.main.body.getD i (.Pass ⟨0, 0, 0, 0⟩)
/-- xs[j] of a name -/
theorem vIx {K : PySem.W.Frag} {σ : L2.St} {H : Hp} {Q : VK} {i : Nat} {p : Addr} {xs : List V} {j : Int} {v : V} (h : σ[i]? = some (some (.ref p))) (hl : H p = some (.lst xs)) (ha : atI xs j = some v) (q : Q v H) :
    tOp (rIxL K) (tVar i) (tC (.int j)) σ H Q := ⟨_, h, p, xs, j, v, rfl, rfl, SqL.of hl, ha, q⟩
structure Txt (K : PySem.W.Frag) (mg : Str → Option Value) : Prop where
  z_len : mg "len" = none
  z_int : mg "int" = none
  z_range : mg "range" = none
  z_min : mg "min" = none
  z_str : mg "str" = none
  z_tuple : mg "tuple" = none
  z_sorted : mg "sorted" = none
  z_isinstance : mg "isinstance" = none
  z_any : mg "any" = none
  z_all : mg "all" = none
  z_list : mg "list" = none
  z_bool : mg "bool" = none
/-- all but what stands at l is as it was -/
def Keep (l : Addr) (H H' : Hp) : Prop := ∀ b o, b ≠ l → H b = some o → H' b = some o
def PoolR (H : Hp) (l c : Addr) (pos : Prop) : Prop := ∃ (ns : List Int) (i r s : Int), H l = some (.lst [.ref c, .int i, .int r, .int s]) ∧ H c = some (.lst (ns.map V.int)) ∧ c ≠ l ∧ (∀ n ∈ ns, 0 ≤ n) ∧ 0 ≤ i ∧ 0 ≤ r ∧ 0 ≤ s ∧ s < 2147483647 ∧ (pos → 0 < r)
abbrev Pool (H : Hp) (l c : Addr) : Prop := PoolR H l c False
/-- from H to H' the pool at l was drawn from, all else is kept -/
structure Ext (l c : Addr) (H H' : Hp) : Prop where
  keep : Keep l H H'
  pool : Pool H' l c
theorem Pool.ne {H : Hp} {l c p : Addr} (P : Pool H l c) (h : H p = none) : p ≠ l ∧ p ≠ c := by
  obtain ⟨ns, i, r, s, hl, hc, _⟩ := P
  exact ⟨(ne_of_none hl h).symm, (ne_of_none hc h).symm⟩
theorem Pool.upd {H : Hp} {l c p : Addr} {o : HO} (P : Pool H l c) (h1 : p ≠ l) (h2 : p ≠ c) : Pool (upd H p o) l c := by
  obtain ⟨ns, i, r, s, hl, hc, z⟩ := P
  exact ⟨ns, i, r, s, by rw [upd_ne h1.symm]; exact hl, by rw [upd_ne h2.symm]; exact hc, z⟩
theorem Ext.refl {l c : Addr} {H : Hp} (P : Pool H l c) : Ext l c H H := ⟨fun _ _ _ h => h, P⟩
theorem Ext.trans {l c : Addr} {H H1 H2 : Hp} (x : Ext l c H H1) (y : Ext l c H1 H2) : Ext l c H H2 := ⟨fun b o hb h => y.keep b o hb (x.keep b o hb h), y.pool⟩
/-- what was free ahead of the draws was free -/
theorem Ext.free {l c p : Addr} {H H' : Hp} (x : Ext l c H H') (P : Pool H l c) (h : H' p = none) : H p = none := by
  cases e : H p with
  | none => rfl
  | some o =>
    by_cases hb : p = l
    · subst hb
      obtain ⟨ns, i, r, s, hl, _⟩ := x.pool
      rw [hl] at h; cases h
    · rw [x.keep p o hb e] at h; cases h
theorem Ext.upd {l c p : Addr} {H H' : Hp} {o : HO} (x : Ext l c H H') (P : Pool H l c) (h : H p = none) : Ext l c H (L2.upd H' p o) :=
  ⟨fun b u hb hu => by rw [upd_ne (ne_of_none hu h)]; exact x.keep b u hb hu, x.pool.upd (P.ne h).1 (P.ne h).2⟩
theorem Ext.new {l c p : Addr} {H H' : Hp} {o : HO} (x : Ext l c H H') (P : Pool H l c) (h : H' p = none) : Ext l c H (L2.upd H' p o) := x.upd P (x.free P h)
theorem Ext.seqT {l c a : Addr} {K : PySem.W.Frag} {H H' : Hp} {xs : List V} (x : Ext l c H H') (P : Pool H l c) (h : SqT K H a xs) : SqT K H' a xs := by
  have nl : ∀ {o : HO}, H a = some o → (∀ ys, o ≠ .lst ys) → a ≠ l := fun e d z => by
    subst z
    obtain ⟨ns, i, r, s, hl, _⟩ := P
    rw [hl] at e; cases e
    exact d _ rfl
  rcases h with (h | ⟨o, h⟩) | h
  · exact .inl (.inl (x.keep _ _ (nl h (fun _ => HO.noConfusion)) h))
  · exact .inl (.inr ⟨o, x.keep _ _ (nl h (fun _ => HO.noConfusion)) h⟩)
  · exact .inr h
def spTake (n : Nat) : Sp := fun vs H Q _ => ∃ (l c : Addr) (m : Int) (p : Prop), vs = [.ref l, .int m] ∧ PoolR H l c p ∧ 0 < m ∧ m < 18446744073709551616 ∧ (2 ≤ n ∨ (1 ≤ n ∧ p)) ∧
  ∀ (d : Int) (H' : Hp), 0 ≤ d → d < m → Ext l c H H' → Q (.int d) H'
theorem vTake {σ : L2.St} {H : Hp} {Q : VK} {i : Nat} {m : Int} {l c : Addr} (h : σ[i]? = some (some (.ref l))) (P : Pool H l c) (h0 : 0 < m) (hm : m < 18446744073709551616)
    (q : ∀ (d : Int) (H' : Hp), 0 ≤ d → d < m → Ext l c H H' → Q (.int d) H') : tCall (spTake 2) [] E0 (tCons (tVar i) (tCons (tC (.int m)) tNil)) σ H Q :=
  ⟨_, h, l, c, m, False, rfl, P, h0, hm, .inl (Nat.le_refl 2), q⟩
section
variable {P : Program} {w : World} {K : PySem.W.Frag} {mg : Str → Option Value} {base : Heap}
abbrev s_law_take : Stmt := topS 28
theorem sc_law_take : FnScope ["pool", "many", "digit", "cell", "mixed"] ["pool", "many"] (defScope s_law_take) := ⟨rfl, rfl, rfl, by decide +kernel, rfl, by decide +kernel, by decide +kernel⟩
-- slots: 0:pool 1:many 2:digit 3:cell 4:mixed
theorem ok_take {n : Nat} {f : Addr} {fd : FuncData} (F : Fun K "_law_take" "_law_take" s_law_take f fd) (T : Txt K mg) (C_law_take : C8.Cal P w K mg base n "_law_take" (spTake n) []) :
    FnOk P w K mg base CX0 (n + 1) f fd ["pool", "many"] (spTake (n + 1)) := by
  refine F.ok sc_law_take (fun vs H Q E h => ?_) (fun cdv A outer s H vs Q E hr h => ?_)
  · obtain ⟨l, c, m, p, rfl, _⟩ := h
    rfl
  obtain ⟨l, c, m, p, rfl, ⟨ns, i, r, st, hl, hc, hcl, hns, hi, h0r, hs, hs2, hp⟩, hm, hm2, hn, q⟩ := h
  have hk : n ≤ n := Nat.le_refl n
  refine ⟨_, (pss_cons (ps_if (pt_cmpR op_gt (pe_ix ix_list (pv 0) pe_int (fun _ _ => rfl)) pe_int (nomark _)) (pss_cons (ps_set (i := 2) sc_law_take.nd rfl (Or.inl rfl) (pe_op op_mod (pe_callTy call_int1 (by rfl) T.z_int (by decide +kernel) (pa_cons (pe_ix ix_list (pv 0) pe_int (fun _ _ => rfl)) pa_nil)) (pv 1)))
    (pss_cons (ps_asg (pe_op op_fdivW (pe_ix ix_list (pv 0) pe_int (fun _ _ => rfl)) (pv 1)) (pg_sub (pv 0) pe_int set_list))
    (pss_one (ps_ret (pv 2))))) pss_nil)
    (pss_cons (ps_set (i := 3) sc_law_take.nd rfl (Or.inl rfl) pe_int)
    (C8.pss_cut (ps_if (pt_cmpR op_lt (pe_ix ix_list (pv 0) pe_int (fun _ _ => rfl)) (pe_callB call_len_seq (by rfl) T.z_len (by decide +kernel) (pa_cons (pe_ix ix_list (pv 0) pe_int (fun _ _ => rfl)) pa_nil)) (nomark _)) (pss_one (ps_set (i := 3) sc_law_take.nd rfl (Or.inl rfl) (pe_ix ix_list (pe_ix ix_list (pv 0) pe_int (fun _ _ => rfl)) (pe_ix ix_list (pv 0) pe_int (fun _ _ => rfl)) (fun _ _ => rfl)))) pss_nil)
    (pss_cons (ps_asg (pe_op op_add (pe_ix ix_list (pv 0) pe_int (fun _ _ => rfl)) pe_int) (pg_sub (pv 0) pe_int set_list))
    (pss_cons (ps_if (pt_cmpR op_ge (pv 3) (pe_op op_pow pe_int pe_int) (nomark _)) (pss_cons (ps_asg (pe_op op_fdivW (pv 3) pe_int) (pg_sub (pv 0) pe_int set_list))
    (pss_one (ps_ret (C8.pe_c C_law_take hr hk rfl (pa_cons (pv 0) (pa_cons (pv 1) pa_nil)))))) pss_nil)
    (pss_cons (ps_asg (pe_op op_mod (pe_callTy call_int1 (by rfl) T.z_int (by decide +kernel) (pa_cons (pe_op op_add (pe_op op_add (pe_op op_mul (pe_ix ix_list (pv 0) pe_int (fun _ _ => rfl)) pe_int) (pe_op op_mul (pv 3) pe_int)) (pe_op op_mul (pe_ix ix_list (pv 0) pe_int (fun _ _ => rfl)) pe_int)) pa_nil)) pe_int) (pg_sub (pv 0) pe_int set_list))
    (pss_cons (ps_set (i := 4) sc_law_take.nd rfl (Or.inl rfl) (pe_op op_mod (pe_callTy call_int1 (by rfl) T.z_int (by decide +kernel) (pa_cons (pe_op op_add (pe_op op_add (pe_op op_mul (pe_ix ix_list (pv 0) pe_int (fun _ _ => rfl)) (pe_ix ix_list (pv 0) pe_int (fun _ _ => rfl))) (pe_op op_mul (pe_ix ix_list (pv 0) pe_int (fun _ _ => rfl)) pe_int)) pe_int) pa_nil)) pe_int))
    (pss_one (ps_ret (pe_op op_mod (pe_callTy call_int1 (by rfl) T.z_int (by decide +kernel) (pa_cons (pe_op op_fdivW (pv 4) pe_int) pa_nil)) (pv 1))))))))))), ?_⟩
  have lgm : m.natAbs.log2 < 9000 := (wide_div (i := 0) (b := 64) hm (by rw [show (2 : Nat) ^ 64 = 18446744073709551616 from rfl]; omega) (by decide) (by decide)).2
  have lg2 : (2 : Int).natAbs.log2 < 9000 := by decide
  have ext : ∀ i' r' s' : Int, 0 ≤ i' → 0 ≤ r' → 0 ≤ s' → s' < 2147483647 → ∀ pp : Prop, (pp → 0 < r') → Keep l H (upd H l (.lst [.ref c, .int i', .int r', .int s'])) ∧ PoolR (upd H l (.lst [.ref c, .int i', .int r', .int s'])) l c pp := fun i' r' s' h1 h2 h3 h4 pp hpp =>
    ⟨fun b o hb hbo => by rw [upd_ne hb]; exact hbo, ns, i', r', s', upd_same, by rw [upd_ne hcl]; exact hc, hcl, hns, h1, h2, h3, h4, hpp⟩
  -- pool[2] > 0
  refine vIx rfl hl rfl ⟨_, _, rfl, rfl, _, rfl, ?_⟩
  refine ite2 (fun e => ?_) (fun e => ?_)
  · have e' : 0 < r := of_decide_eq_true e
    refine ⟨_, rfl, l, _, _, _, rfl, rfl, SqL.of hl, rfl, .inl ⟨_, rfl, _, rfl, _, _, rfl, rfl, hm, ?_⟩⟩
    refine vIx rfl hl rfl ⟨_, rfl, _, _, rfl, rfl, ⟨hm, lgm⟩, ?_⟩
    refine ⟨_, rfl, l, _, 2, 2, rfl, rfl, hl, rfl, _, rfl, ?_⟩
    have z := ext i (r / m) st hi (Int.ediv_nonneg h0r (by omega)) hs hs2 False False.elim
    exact q _ _ (Int.emod_nonneg _ (by omega)) (Int.emod_lt_of_pos _ hm) ⟨z.1, z.2⟩
  · have e0 : r = 0 := by have := of_decide_eq_false (Bool.eq_false_iff.mpr e); omega
    subst e0
    have n2 : 1 ≤ n := by
      rcases hn with hn | ⟨_, hn⟩
      · omega
      · exact absurd (hp hn) (by omega)
    refine ⟨fun σ' H' => ∃ z : Int, 0 ≤ z ∧ σ' = [some (.ref l), some (.int m), none, some (.int z), none] ∧ H' = H, ?_, ?_⟩
    · refine vIx rfl hl rfl (vIx rfl hl rfl ⟨c, _, rfl, .inl (SqL.of hc), _, _, rfl, rfl, _, rfl, ?_⟩)
      refine ite2 (fun e1 => ?_) (fun e1 => ⟨0, by omega, rfl, rfl⟩)
      have e1' : i < ((ns.map V.int).length : Nat) := of_decide_eq_true e1
      rw [List.length_map] at e1'
      obtain ⟨j, rfl⟩ : ∃ j : Nat, i = j := ⟨i.toNat, by omega⟩
      have hj : j < ns.length := by omega
      have g : (ns.map V.int)[j]? = some (.int ns[j]) := by rw [List.getElem?_map, List.getElem?_eq_getElem hj]; rfl
      refine vIx rfl hl rfl (vIx rfl hl rfl ⟨c, _, _, _, rfl, rfl, SqL.of hc, atI_nat g, ?_⟩)
      exact ⟨_, hns _ (List.getElem_mem hj), rfl, rfl⟩
    · rintro σ' H' ⟨z, hz, rfl, rfl⟩
      refine vIx rfl hl rfl ⟨_, _, rfl, rfl, _, rfl, l, _, 1, 1, rfl, rfl, hl, rfl, ?_⟩
      refine ⟨_, rfl, _, _, rfl, rfl, ⟨by decide, by decide, by decide⟩, _, _, rfl, rfl, _, rfl, ?_⟩
      refine ite2 (fun e1 => ?_) (fun e1 => ?_)
      · have e1' : (10 : Int) ^ 18 ≤ z := of_decide_eq_true e1
        refine ⟨_, rfl, _, _, rfl, rfl, ⟨by decide, lg2⟩, _, rfl, l, _, 2, 2, rfl, rfl, upd_same, rfl, ?_⟩
        refine ⟨_, rfl, _, rfl, ?_⟩
        have zz := ext (i + 1) (z / 2) st (by omega) (Int.ediv_nonneg hz (by omega)) hs hs2 True (fun _ => by omega)
        refine ⟨l, c, m, True, rfl, ?_, hm, hm2, .inr ⟨n2, trivial⟩, fun d H' h1 h2 x => q d H' h1 h2 ⟨?_, x.pool⟩⟩
        · show PoolR (upd (upd H' l _) l _) l c True
          rw [upd_upd]
          exact zz.2
        · intro b o hb hbo
          refine x.keep b o hb ?_
          show upd (upd _ l _) l _ b = _
          rw [upd_upd, upd_ne hb]
          exact hbo
      · have c1 : CMul st 48271 := .inr ⟨by decide, by decide⟩
        have c2 : CMul z 69621 := .inr ⟨by decide, by decide⟩
        have c3 : CMul (i + 1) 613 := .inr ⟨by decide, by decide⟩
        refine vIx rfl upd_same rfl ⟨_, _, rfl, rfl, c1, _, rfl, _, _, rfl, rfl, c2, _, _, rfl, rfl, vIx rfl upd_same rfl ⟨_, _, rfl, rfl, c3, _, _, rfl, rfl, .inl ⟨_, rfl, _, _, rfl, rfl, (show (0 : Int) < 2147483647 by decide), ?_⟩⟩⟩
        refine ⟨_, rfl, l, _, 3, 3, rfl, rfl, upd_same, rfl, ?_⟩
        have b1 : 0 ≤ (st * 48271 + z * 69621 + (i + 1) * 613) % 2147483647 := Int.emod_nonneg _ (by decide)
        have b2 : (st * 48271 + z * 69621 + (i + 1) * 613) % 2147483647 < 2147483647 := Int.emod_lt_of_pos _ (by decide)
        have c4 : CMul ((st * 48271 + z * 69621 + (i + 1) * 613) % 2147483647) ((st * 48271 + z * 69621 + (i + 1) * 613) % 2147483647) := .inr ⟨by omega, by omega⟩
        have c5 : CMul ((st * 48271 + z * 69621 + (i + 1) * 613) % 2147483647) 7919 := .inr ⟨by decide, by decide⟩
        refine vIx rfl upd_same rfl (vIx rfl upd_same rfl ⟨_, _, rfl, rfl, c4, vIx rfl upd_same rfl ⟨_, _, rfl, rfl, c5, _, _, rfl, rfl, _, _, rfl, rfl, .inl ⟨_, rfl, _, _, rfl, rfl, (show (0 : Int) < 1000000007 by decide), ?_⟩⟩⟩)
        have c6 : CDivW ((((st * 48271 + z * 69621 + (i + 1) * 613) % 2147483647) * ((st * 48271 + z * 69621 + (i + 1) * 613) % 2147483647) + ((st * 48271 + z * 69621 + (i + 1) * 613) % 2147483647) * 7919 + 104729) % 1000000007) 3 := ⟨by decide, by decide⟩
        refine ⟨_, rfl, _, _, rfl, rfl, c6, .inl ⟨_, rfl, _, rfl, _, _, rfl, rfl, hm, ?_⟩⟩
        have zz := ext (i + 1) 0 ((st * 48271 + z * 69621 + (i + 1) * 613) % 2147483647) (by omega) (by omega) b1 b2 False False.elim
        refine q _ _ (Int.emod_nonneg _ (by omega)) (Int.emod_lt_of_pos _ hm) ⟨?_, ?_⟩
        · show Keep l _ (upd (upd _ l _) l _)
          rw [upd_upd]
          exact zz.1
        · show Pool (upd (upd _ l _) l _) l c
          rw [upd_upd]
          exact zz.2
end
end PK
namespace PK
open PySem L2
/-! ### words -/
abbrev LET : Str := "abcdefghijklmnopqrstuvwxyz"
abbrev OTH : Str := "abcdefghijklmnopqrstuvwxyz0123456789_"
abbrev BARRED : List Str := ["get", "set", "plus", "minus", "new", "read", "write", "put"]
theorem let_len : LET.cps.toList.length = 26 := by decide +kernel
theorem oth_len : OTH.cps.toList.length = 37 := by decide +kernel
theorem line_big : (16777216 : Nat) ≤ sizeLine := by rw [sizeLine_eq]; decide
theorem small {n : Nat} (h : n ≤ 16777216) : n ≤ sizeLine := Nat.le_trans h line_big
theorem smallL {n : Nat} (h : n < 16777216) : n < sizeLine := Nat.lt_of_lt_of_le h line_big
theorem len_list (z : Str) : z.length = z.cps.toList.length := by unfold Str.length; simp
theorem yes_ {A B : Hp → Prop} {σ : L2.St} {H : Hp} (h : A H) : tYes σ H fun b H3 => if b = true then A H3 else B H3 := by
  show if true = true then A H else B H
  exact iteT h
/-- a drawn sign of a text -/
theorem strAt (z : Str) {n : Nat} (hz : z.cps.toList.length = n) (hn : n ≤ 1000) {d : Int} {H : Hp} {Q : VK} (h0 : 0 ≤ d) (h1 : d < (n : Int)) (q : ∀ s : Nat, s ∈ z.cps.toList → Q (.str ⟨#[s]⟩) H) : rIxS (.str z) (.int d) H Q := by
  obtain ⟨j, rfl⟩ : ∃ j : Nat, d = j := ⟨d.toNat, by omega⟩
  have hj : j < z.cps.toList.length := by omega
  exact ⟨z, _, _, rfl, rfl, by rw [len_list, hz]; exact small (by omega), atI_nat (List.getElem?_eq_getElem hj), q _ (List.getElem_mem hj)⟩
/-- the j-th word that is tried for the k-th place -/
def cand (j k : Nat) : Str := ("w" : Str) ++ (toString (j : Int) : Str) ++ ("_" : Str) ++ (toString (k : Int) : Str)
def pre (j : Nat) : Str := ("w" : Str) ++ (toString (j : Int) : Str) ++ ("_" : Str)
theorem pre_len : ∀ j, j < 27 → (pre j).length ≤ 4 := by decide +kernel
theorem str_len : ∀ j : Nat, j < 27 → ((toString (j : Int) : String) : Str).length ≤ 2 := by decide +kernel
theorem pre_inj : ∀ i, i < 27 → ∀ j, j < 27 → pre i = pre j → i = j := by decide +kernel
theorem app_cancel {a b t : Str} (h : a ++ t = b ++ t) : a = b := by
  have e : a.cps ++ t.cps = b.cps ++ t.cps := congrArg Str.cps h
  have e2 : a.cps.toList ++ t.cps.toList = b.cps.toList ++ t.cps.toList := by
    have := congrArg Array.toList e
    simpa using this
  exact Str.ext' (Array.toList_inj.mp (List.append_cancel_right e2))
theorem cand_inj {i j k : Nat} (hi : i < 27) (hj : j < 27) (h : cand i k = cand j k) : i = j := pre_inj i hi j hj (app_cancel h)
theorem cand_len {j k : Nat} (hj : j < 27) (hk : k < 27) : (cand j k).length ≤ 6 := by
  have h1 := pre_len j hj
  have h2 := str_len k hk
  show (pre j ++ _).length ≤ 6
  rw [Str.length_append]
  omega
theorem cand_bar (j k : Nat) : cand j k ∉ BARRED := by
  have h1 : 95 ∈ (cand j k).cps.toList := by
    show 95 ∈ ((((("w" : Str).cps ++ ((toString (j : Int) : String) : Str).cps) ++ ("_" : Str).cps) ++ ((toString (k : Int) : String) : Str).cps)).toList
    have e : ("_" : Str).cps.toList = [95] := by decide +kernel
    simp only [Array.toList_append, e, List.mem_append, List.mem_singleton]
    exact .inl (.inr trivial)
  have h2 : ∀ b ∈ BARRED, 95 ∉ b.cps.toList := by decide +kernel
  exact fun m => h2 _ m h1
theorem inj_le : ∀ (l m : List Str), l.Nodup → (∀ x ∈ l, x ∈ m) → l.length ≤ m.length
  | [], _, _, _ => Nat.zero_le _
  | x :: r, m, hn, hm => by
    obtain ⟨h1, h2⟩ := List.nodup_cons.mp hn
    have hx := hm x List.mem_cons_self
    have ih := inj_le r (m.erase x) h2 fun y hy => (List.mem_erase_of_ne (fun e => h1 (by rw [← e]; exact hy))).mpr (hm y (List.mem_cons_of_mem _ hy))
    rw [List.length_erase_of_mem hx] at ih
    have : 0 < m.length := List.length_pos_of_mem hx
    rw [List.length_cons]
    omega
/-- not all of m tried words stand in a list of fewer than m -/
theorem pigeon {m k : Nat} {ws : List Str} (hm : m < 27) (hl : ws.length < m) (h : ∀ t, t < m → cand t k ∈ ws) : False := by
  have n : ((List.range m).map fun t => cand t k).Nodup := by
    rw [List.Nodup, List.pairwise_map]
    refine List.Pairwise.imp_of_mem ?_ List.nodup_range
    intro a b ha hb hab e
    exact hab (cand_inj (Nat.lt_trans (List.mem_range.mp ha) hm) (Nat.lt_trans (List.mem_range.mp hb) hm) e)
  have := inj_le _ ws n fun x hx => by
    obtain ⟨t, ht, rfl⟩ := List.mem_map.mp hx
    exact h t (List.mem_range.mp ht)
  rw [List.length_map, List.length_range] at this
  omega
theorem inV_str (u : Str) : ∀ ws : List Str, inV (.str u) (ws.map V.str) = decide (u ∈ ws)
  | [] => by simp [inV]
  | x :: r => by
    have ih := inV_str u r
    unfold inV at ih ⊢
    rw [List.map_cons, List.any_cons, ih]
    show ((x == u) || decide (u ∈ r)) = _
    by_cases e : x = u
    · subst e; simp
    · have e2 : (x == u) = false := by simpa using e
      rw [e2, Bool.false_or]
      by_cases h : u ∈ r
      · simp [h]
      · simp [h, Ne.symm e]
theorem flat_strs (ws : List Str) : (ws.map V.str).all flatV = true := by
  rw [List.all_eq_true]
  intro x hx
  obtain ⟨s, _, rfl⟩ := List.mem_map.mp hx
  rfl
/-- signs of words -/
def one (s : Nat) : Str := ⟨#[s]⟩
def Ones (ss : List Nat) : Prop := ∀ s ∈ ss, s ∈ OTH.cps.toList
theorem join_one : ∀ ss : List Nat, (Str.join "" (ss.map one)).cps.toList = ss
  | [] => rfl
  | [s] => rfl
  | s :: t :: r => by
    have ih := join_one (t :: r)
    have e : ("" : Str).cps.toList = [] := by decide +kernel
    show ((one s).cps ++ ("" : Str).cps ++ (Str.join "" ((t :: r).map one)).cps).toList = _
    rw [Array.toList_append, Array.toList_append, ih, e]
    rfl
theorem txt_join (ss : List Nat) : (Txt.join "" (ss.map one)).cps.toList = ss := by
  show (Builtin.Str.glued ("" : Str) (ss.map one)).cps.toList = ss
  rw [StrLaws.glued_eq_join]
  exact join_one ss
theorem one_sum (ss : List Nat) : ((ss.map one).map (·.length)).sum = ss.length := by
  induction ss with
  | nil => rfl
  | cons s r ih =>
    rw [List.map_cons, List.map_cons, List.sum_cons, ih, List.length_cons]
    show 1 + r.length = _
    omega
/-- a word: signs that words have, the first one a letter -/
structure Wd (x : Str) : Prop where
  lo : 1 ≤ x.length
  hi : x.length ≤ 12
  hd : ∃ s r, x.cps.toList = s :: r ∧ s ∈ LET.cps.toList
  al : ∀ s ∈ x.cps.toList, s ∈ OTH.cps.toList
theorem Wd.of {x : Str} {s : Nat} {r : List Nat} (e : x.cps.toList = s :: r) (hs : s ∈ LET.cps.toList) (ho : Ones r) (hl : r.length ≤ 11) : Wd x where
  lo := by rw [len_list, e, List.length_cons]; omega
  hi := by rw [len_list, e, List.length_cons]; omega
  hd := ⟨s, r, e, hs⟩
  al := fun z hz => by
    rw [e] at hz
    rcases List.mem_cons.mp hz with h | h
    · rw [h]
      have : ∀ s ∈ LET.cps.toList, s ∈ OTH.cps.toList := by decide +kernel
      exact this s hs
    · exact ho z h
theorem pre_wd : ∀ j, j < 27 → ∀ s ∈ (pre j).cps.toList, s ∈ OTH.cps.toList := by decide +kernel
theorem num_wd : ∀ j : Nat, j < 27 → ∀ s ∈ ((toString (j : Int) : String) : Str).cps.toList, s ∈ OTH.cps.toList := by decide +kernel
theorem pre_hd : ∀ j, j < 27 → (pre j).cps.toList[0]? = some 119 := by decide +kernel
theorem cand_wd {j k : Nat} (hj : j < 27) (hk : k < 27) : Wd (cand j k) := by
  have e : (cand j k).cps.toList = (pre j).cps.toList ++ ((toString (k : Int) : String) : Str).cps.toList := by
    show ((pre j).cps ++ ((toString (k : Int) : String) : Str).cps).toList = _
    rw [Array.toList_append]
  have h0 := pre_hd j hj
  cases e1 : (pre j).cps.toList with
  | nil => rw [e1] at h0; cases h0
  | cons s r =>
    rw [e1] at h0 e
    have hs : s = 119 := Option.some.inj h0
    refine Wd.of (s := s) (r := r ++ ((toString (k : Int) : String) : Str).cps.toList) e (by rw [hs]; decide +kernel) (fun z hz => ?_) ?_
    · rcases List.mem_append.mp hz with h | h
      · exact pre_wd j hj z (by rw [e1]; exact List.mem_cons_of_mem _ h)
      · exact num_wd k hk z h
    · have h1 := pre_len j hj
      have h2 := str_len k hk
      rw [len_list] at h1 h2
      rw [e1, List.length_cons] at h1
      rw [List.length_append]
      omega
theorem let_oth : ∀ s ∈ LET.cps.toList, s ∈ OTH.cps.toList := by decide +kernel
theorem ixN_of {n : Nat} {k : Int} (h0 : 0 ≤ k) (h1 : k < (n : Int)) : ixN n k = some k.toNat := by
  unfold ixN
  rw [if_pos h0, if_pos h1]
theorem Ones.set {row : List Nat} (h : Ones row) {s : Nat} (hs : s ∈ OTH.cps.toList) (j : Nat) : Ones (row.set j s) := fun x hx => by
  rcases List.mem_or_eq_of_mem_set hx with h1 | h1
  · exact h x h1
  · rw [h1]; exact hs
/-- the signs of a word, one of them another letter -/
theorem set_hd {s0 : Nat} {r : List Nat} (h0 : s0 ∈ LET.cps.toList) (hr : Ones r) {s : Nat} (hs : s ∈ LET.cps.toList) (j : Nat) : ∃ s1 r1, (s0 :: r).set j s = s1 :: r1 ∧ s1 ∈ LET.cps.toList ∧ Ones r1 ∧ r1.length = r.length := by
  cases j with
  | zero => exact ⟨s, r, rfl, hs, hr, rfl⟩
  | succ j => exact ⟨s0, r.set j s, rfl, h0, hr.set (let_oth _ hs) j, List.length_set ..⟩
end PK
namespace PK
open PySem L2
/-! ### data of tuples -/
mutual
inductive Dt (K : PySem.W.Frag) (H : Hp) : V → PyData → Prop
  | non : Dt K H .non .none
  | bl (b : Bool) : Dt K H (.bl b) (.bool b)
  | int (i : Int) : Dt K H (.int i) (.int i)
  | str (x : Str) : Dt K H (.str x) (.str x)
  | tup {a : Addr} {xs : List V} {ds : List PyData} : SqT K H a xs → DtAll K H xs ds → Dt K H (.ref a) (.tuple ds)
inductive DtAll (K : PySem.W.Frag) (H : Hp) : List V → List PyData → Prop
  | nil : DtAll K H [] []
  | cons {v : V} {vs : List V} {d : PyData} {ds : List PyData} : Dt K H v d → DtAll K H vs ds → DtAll K H (v :: vs) (d :: ds)
end
section
variable {K : PySem.W.Frag} {H H' : Hp}
mutual
theorem Dt.dp : ∀ (d : PyData) (v : V), Dt K H v d → Dp K H v d
  | .none, _, h => by cases h; exact .non
  | .bool _, _, h => by cases h; exact .bl _
  | .int _, _, h => by cases h; exact .int _
  | .str _, _, h => by cases h; exact .str _
  | .list _, _, h => by cases h
  | .dict _, _, h => by cases h
  | .tuple ds, _, h => by
    cases h with
    | tup s a => exact .tup s (DtAll.dp ds _ a)
theorem DtAll.dp : ∀ (ds : List PyData) (vs : List V), DtAll K H vs ds → DpAll K H vs ds
  | [], _, h => by cases h; exact .nil
  | d :: ds, _, h => by
    cases h with
    | cons h1 h2 => exact .cons (Dt.dp d _ h1) (DtAll.dp ds _ h2)
end
mutual
theorem Dt.mono (hT : ∀ a xs, SqT K H a xs → SqT K H' a xs) : ∀ (d : PyData) (v : V), Dt K H v d → Dt K H' v d
  | .none, _, h => by cases h; exact .non
  | .bool _, _, h => by cases h; exact .bl _
  | .int _, _, h => by cases h; exact .int _
  | .str _, _, h => by cases h; exact .str _
  | .list _, _, h => by cases h
  | .dict _, _, h => by cases h
  | .tuple ds, _, h => by
    cases h with
    | tup s a => exact .tup (hT _ _ s) (DtAll.mono hT ds _ a)
theorem DtAll.mono (hT : ∀ a xs, SqT K H a xs → SqT K H' a xs) : ∀ (ds : List PyData) (vs : List V), DtAll K H vs ds → DtAll K H' vs ds
  | [], _, h => by cases h; exact .nil
  | d :: ds, _, h => by
    cases h with
    | cons h1 h2 => exact .cons (Dt.mono hT d _ h1) (DtAll.mono hT ds _ h2)
end
theorem Same.seqT {a : Addr} {xs : List V} (e : Same H H') (h : SqT K H a xs) : SqT K H' a xs := by
  rcases h with (h | ⟨o, h⟩) | h
  · exact .inl (.inl (e _ _ h))
  · exact .inl (.inr ⟨o, e _ _ h⟩)
  · exact .inr h
theorem Dt.same {d : PyData} {v : V} (h : Dt K H v d) (e : Same H H') : Dt K H' v d := Dt.mono (fun _ _ q => Same.seqT e q) d v h
theorem Dt.ext {l c : Addr} {d : PyData} {v : V} (h : Dt K H v d) (P : Pool H l c) (x : Ext l c H H') : Dt K H' v d := Dt.mono (fun _ _ q => x.seqT P q) d v h
theorem same_new {p : Addr} {o : HO} (h : H p = none) : Same H (upd H p o) := fun b u e => by
  rw [upd_ne (ne_of_none e h)]
  exact e
theorem Dt.new {d : PyData} {v : V} {p : Addr} {o : HO} (h : Dt K H v d) (hp : H p = none) : Dt K (upd H p o) v d := h.same (same_new hp)
theorem Dt.s {v : V} {x : Str} (h : Dt K H v (.str x)) : v = .str x := by cases h; rfl
theorem Dt.i {v : V} {x : Int} (h : Dt K H v (.int x)) : v = .int x := by cases h; rfl
theorem Dt.t1 {v : V} {d : PyData} (h : Dt K H v (.tuple [d])) : ∃ a x, v = .ref a ∧ SqT K H a [x] ∧ Dt K H x d := by
  cases h with
  | tup s a => cases a with
    | cons h1 r => cases r; exact ⟨_, _, rfl, s, h1⟩
theorem Dt.t2 {v : V} {d e : PyData} (h : Dt K H v (.tuple [d, e])) : ∃ a x y, v = .ref a ∧ SqT K H a [x, y] ∧ Dt K H x d ∧ Dt K H y e := by
  cases h with
  | tup s a => cases a with
    | cons h1 r => cases r with
      | cons h2 r => cases r; exact ⟨_, _, _, rfl, s, h1, h2⟩
theorem Dt.t3 {v : V} {d e f : PyData} (h : Dt K H v (.tuple [d, e, f])) : ∃ a x y z, v = .ref a ∧ SqT K H a [x, y, z] ∧ Dt K H x d ∧ Dt K H y e ∧ Dt K H z f := by
  cases h with
  | tup s a => cases a with
    | cons h1 r => cases r with
      | cons h2 r => cases r with
        | cons h3 r => cases r; exact ⟨_, _, _, _, rfl, s, h1, h2, h3⟩
theorem Dt.tn {v : V} {ds : List PyData} (h : Dt K H v (.tuple ds)) : ∃ a xs, v = .ref a ∧ SqT K H a xs ∧ DtAll K H xs ds := by
  cases h with
  | tup s a => exact ⟨_, _, rfl, s, a⟩
theorem Dt.mk2 {p : Addr} {x y : V} {d e : PyData} (hp : H p = none) (h1 : Dt K H x d) (h2 : Dt K H y e) : Dt K (upd H p (.tup [x, y])) (.ref p) (.tuple [d, e]) :=
  .tup (SqT.of upd_same) (.cons (h1.new hp) (.cons (h2.new hp) .nil))
theorem Dt.mk3 {p : Addr} {x y z : V} {d e f : PyData} (hp : H p = none) (h1 : Dt K H x d) (h2 : Dt K H y e) (h3 : Dt K H z f) : Dt K (upd H p (.tup [x, y, z])) (.ref p) (.tuple [d, e, f]) :=
  .tup (SqT.of upd_same) (.cons (h1.new hp) (.cons (h2.new hp) (.cons (h3.new hp) .nil)))
theorem Dt.mk1 {p : Addr} {x : V} {d : PyData} (hp : H p = none) (h1 : Dt K H x d) : Dt K (upd H p (.tup [x])) (.ref p) (.tuple [d]) :=
  .tup (SqT.of upd_same) (.cons (h1.new hp) .nil)
end
/-- xs[j] of a name, a tuple -/
theorem vTx {K : PySem.W.Frag} {σ : L2.St} {H : Hp} {Q : VK} {i : Nat} {p : Addr} {xs : List V} {j : Int} {v : V} (h : σ[i]? = some (some (.ref p))) (hl : SqT K H p xs) (ha : atI xs j = some v) (q : Q v H) :
    tOp (rIxT K) (tVar i) (tC (.int j)) σ H Q := ⟨_, h, p, xs, j, v, rfl, rfl, hl, ha, q⟩
section
variable {s t : Str} {A B : Prop}
theorem sT (e : s = t) (h : A) : if decide (V.str s = V.str t) = true then A else B := by rw [decide_eq_true (by rw [e])]; exact iteT h
theorem sF (e : s ≠ t) (h : B) : if decide (V.str s = V.str t) = true then A else B := by rw [decide_eq_false (fun z => e (V.str.inj z))]; exact iteF h
theorem nT (e : s ≠ t) (h : A) : if (!decide (V.str s = V.str t)) = true then A else B := by rw [decide_eq_false (fun z => e (V.str.inj z))]; exact iteT h
theorem nF (e : s = t) (h : B) : if (!decide (V.str s = V.str t)) = true then A else B := by rw [decide_eq_true (by rw [e])]; exact iteF h
end
theorem Same.upd {H H' : Hp} {p : Addr} {o : HO} (e : Same H H') (h : H p = none) : Same H (L2.upd H' p o) := fun b u q => by
  rw [upd_ne (ne_of_none q h)]
  exact e _ _ q
/-- isinstance(x, T) of a name and a built-in class -/
theorem vIsi {σ : L2.St} {H : Hp} {Q : VK} {i : Nat} {v : V} {U Tn : String} {b : Bool} (h : σ[i]? = some (some v)) (ty : TyX K H v (.type U)) (kb : kitB U Tn = some b) (q : Q (.bl b) H) :
    tCB (rIsi K) (tCons (tVar i) (tCons (tC (.ty Tn)) tNil)) σ H Q := ⟨_, h, v, .ty Tn, _, _, b, rfl, .ty Tn, ty, kit_ty kb, q⟩
theorem ty_tup {H : Hp} {a : Addr} {xs : List V} (h : SqT K H a xs) : TyX K H (.ref a) (.type "tuple") := by
  rcases h with (h | ⟨o, h⟩) | ⟨o, its, n, h, hc, _⟩
  · exact .base (.tup h)
  · exact .fTuple h
  · exact .kTuple h hc
theorem ty_lst {H : Hp} {a : Addr} {xs : List V} (h : SqL K H a xs) : TyX K H (.ref a) (.type "list") := by
  rcases h with (h | ⟨o, h⟩) | ⟨o, its, n, h, hc, _⟩
  · exact .base (.lst h)
  · exact .base (.frz h)
  · exact .kList h hc
theorem DtAll.append {K : PySem.W.Frag} {H : Hp} : ∀ {xs ys : List V} {ds es : List PyData}, DtAll K H xs ds → DtAll K H ys es → DtAll K H (xs ++ ys) (ds ++ es)
  | _, _, _, _, .nil, h => h
  | _, _, _, _, .cons a b, h => .cons a (DtAll.append b h)
/-- a list that grows is no tuple -/
theorem seqT_upd {K : PySem.W.Frag} {H : Hp} {D a : Addr} {vs ws zs : List V} (h : SqT K H a zs) (hD : H D = some (.lst vs)) : SqT K (upd H D (.lst ws)) a zs := by
  rcases h with (h | ⟨o, h⟩) | h
  · exact .inl (.inl (by rw [upd_ne (ne_of h hD (fun z => by cases z))]; exact h))
  · exact .inl (.inr ⟨o, by rw [upd_ne (ne_of h hD (fun z => by cases z))]; exact h⟩)
  · exact .inr h
theorem seqT_updK {K : PySem.W.Frag} {H : Hp} {D a : Addr} {kvs kvs' : List (Key × V)} {zs : List V} (h : SqT K H a zs) (hD : H D = some (.dK kvs)) : SqT K (upd H D (.dK kvs')) a zs := by
  rcases h with (h | ⟨o, h⟩) | h
  · exact .inl (.inl (by rw [upd_ne (ne_of h hD (fun z => by cases z))]; exact h))
  · exact .inl (.inr ⟨o, by rw [upd_ne (ne_of h hD (fun z => by cases z))]; exact h⟩)
  · exact .inr h
theorem valV_hd {k : Key} {v : V} {r : List (Key × V)} : valV ((k, v) :: r) k = some v := by simp [valV]
theorem valV_tl {k k' : Key} {v : V} {r : List (Key × V)} (h : k' ≠ k) : valV ((k', v) :: r) k = valV r k := by simp [valV, h]
theorem Pool.same {H H' : Hp} {l c : Addr} (P : Pool H l c) (e : Same H H') : Pool H' l c := by
  obtain ⟨ns, i, r, s, hl, hc, z⟩ := P
  exact ⟨ns, i, r, s, e _ _ hl, e _ _ hc, z⟩
theorem Ext.same {H H1 H2 : Hp} {l c : Addr} (x : Ext l c H H1) (e : Same H1 H2) : Ext l c H H2 := ⟨fun b o hb h => e _ _ (x.keep b o hb h), x.pool.same e⟩
/-- a new tuple at the end of a list of data -/
theorem snoc_data {K : PySem.W.Frag} {H : Hp} {D t : Addr} {o : HO} {vs : List V} {ds : List PyData} {d : PyData} (da : DtAll K H vs ds) (hD : H D = some (.lst vs)) (ht : H t = none) (dt : Dt K (upd H t o) (.ref t) d) :
    (upd H t o) D = some (.lst vs) ∧ DtAll K (upd (upd H t o) D (.lst (vs ++ [.ref t]))) (vs ++ [.ref t]) (ds ++ [d]) := by
  have h1 : (upd H t o) D = some (.lst vs) := by rw [upd_ne (ne_of_none hD ht)]; exact hD
  refine ⟨h1, DtAll.mono (fun _ _ z => seqT_upd z h1) _ _ (DtAll.append (DtAll.mono (fun _ _ z => Same.seqT (same_new ht) z) _ _ da) (.cons dt .nil))⟩
theorem DtAll.ext {K : PySem.W.Frag} {H H' : Hp} {l c : Addr} {vs : List V} {ds : List PyData} (h : DtAll K H vs ds) (P : Pool H l c) (x : Ext l c H H') : DtAll K H' vs ds := DtAll.mono (fun _ _ z => x.seqT P z) _ _ h
theorem DtAll.same {K : PySem.W.Frag} {H H' : Hp} {vs : List V} {ds : List PyData} (h : DtAll K H vs ds) (x : Same H H') : DtAll K H' vs ds := DtAll.mono (fun _ _ z => Same.seqT x z) _ _ h
end PK
namespace PK
open PySem L2
/-! the pool -/
def enc (z : Int) : Int := if 0 ≤ z then 2 * z else -2 * z - 1
def spPool (K : PySem.W.Frag) : Sp := fun vs H Q _ => ∃ (a : Addr) (ns : List Int), vs = [.ref a] ∧ SqL K H a (ns.map V.int) ∧ ns.length ≤ 63 ∧
  ∀ (H' : Hp) (l c : Addr), Same H H' → H l = none → Pool H' l c → Q (.ref l) H'
section
variable {P : Program} {w : World} {K : PySem.W.Frag} {mg : Str → Option Value} {base : Heap}
abbrev s_law_pool : Stmt := topS 27
theorem sc_law_pool : FnScope ["script", "cell"] ["script"] (defScope s_law_pool) := ⟨rfl, rfl, rfl, by decide +kernel, rfl, by decide +kernel, by decide +kernel⟩
-- slots: 0:script 1:cell(comp)
theorem ok_pool {f : Addr} {fd : FuncData} (F : Fun K "_law_pool" "_law_pool" s_law_pool f fd) :
    FnOk P w K mg base CX0 1 f fd ["script"] (spPool K) := by
  refine F.ok sc_law_pool (fun vs H Q E h => ?_) (fun cdv A outer s H vs Q E hr h => ?_)
  · obtain ⟨a, ns, rfl, _⟩ := h
    rfl
  obtain ⟨a, ns, rfl, hS, hlen, q⟩ := h
  refine ⟨_, (pss_one (ps_ret (pe_lst (pa_cons (pe_lc (own := [("cell", 1)]) (g := (gName 1)) (tt := tYes) (by rfl) sc_law_pool.nd (pi_list (pv 0)) (blkOk_by (N := ["script", "cell"]) (sc := defScope s_law_pool) (by decide +kernel)) (fun _ _ _ _ _ => (pg_name (i := 1) sc_law_pool.nd rfl (Or.inl rfl))) (fun _ _ _ _ _ => pts_nil) (fun _ _ _ _ _ => (pe_ifExp (pt_cmpR op_ge (pv 1) pe_int (nomark _)) (pe_op op_mul pe_int (pv 1)) (pe_op op_sub (pe_op op_mul (pe_un un_neg pe_int) (pv 1)) pe_int)))) (pa_cons pe_int (pa_cons pe_int (pa_cons pe_int pa_nil))))))), ?_⟩
  refine ⟨_, rfl, a, rfl, ⟨_, hS⟩, fun D hD => lc_list (K := K) (a := a) (xs := ns.map V.int) (fun i H' => i ≤ ns.length ∧ Same H H' ∧ H' D = some (.lst (((ns.take i).map enc).map V.int))) ⟨Nat.zero_le _, same_new hD, upd_same⟩ (fun i H' _ h => h.2.1.seq hS) ?_ ?_⟩
  · rintro i x H' hi ⟨_, sm, hd⟩
    have hi2 : i < ns.length := by
      have := (List.getElem?_eq_some_iff.mp hi).1
      rw [List.length_map] at this
      exact this
    rw [List.getElem?_map, List.getElem?_eq_getElem hi2] at hi
    cases hi
    have fin : ∀ z : Int, z = enc ns[i] → upd H' D (.lst (((ns.take i).map enc).map V.int ++ [V.int z])) D = some (.lst (((ns.take (i + 1)).map enc).map V.int)) := fun z e => by
      rw [upd_same, List.take_add_one, List.getElem?_eq_getElem hi2, List.map_append, List.map_append, e]
      rfl
    have ll : (((ns.take i).map enc).map V.int).length < sizeLine := by
      rw [List.length_map, List.length_map, List.length_take]
      exact smallL (by omega)
    refine ⟨rfl, yes_ ⟨_, rfl, _, _, rfl, rfl, _, rfl, ite2 (fun e => ?_) (fun e => ?_)⟩⟩
    · have e' : ns[i] ≥ 0 := of_decide_eq_true e
      exact ⟨_, rfl, _, _, rfl, rfl, .inl ⟨by decide, by decide⟩, _, hd, ll, hi2, Same.upd sm hD, fin _ (by unfold enc; rw [if_pos e'])⟩
    · have e' : ¬ ns[i] ≥ 0 := fun z => e (decide_eq_true z)
      exact ⟨_, rfl, _, rfl, _, _, rfl, rfl, .inl ⟨by decide, by decide⟩, _, _, rfl, rfl, _, hd, ll, hi2, Same.upd sm hD, fin _ (by unfold enc; rw [if_neg (by omega)])⟩
  · rintro H' ⟨_, sm, hd⟩
    rw [List.length_map, List.take_of_length_le (Nat.le_refl _)] at hd
    refine ⟨small (by show 4 ≤ _; decide), fun p hp => ?_⟩
    refine q _ p D (Same.upd sm (sm.free hp)) (sm.free hp) ⟨ns.map enc, 0, 0, 17, upd_same, by rw [upd_ne (ne_of_none hd hp)]; exact hd, ne_of_none hd hp, fun n hn => ?_, by decide, by decide, by decide, by decide, False.elim⟩
    obtain ⟨z, _, rfl⟩ := List.mem_map.mp hn
    unfold enc
    split <;> omega
end
end PK
namespace PK
open PySem L2
theorem DtAll.lenD {K : PySem.W.Frag} {H : Hp} : ∀ {xs : List V} {ds : List PyData}, DtAll K H xs ds → xs.length = ds.length
  | _, _, .nil => rfl
  | _, _, .cons _ t => by rw [List.length_cons, List.length_cons, DtAll.lenD t]
theorem DtAll.getX {K : PySem.W.Frag} {H : Hp} : ∀ {xs : List V} {ds : List PyData} {i : Nat} {x : V}, DtAll K H xs ds → xs[i]? = some x → ∃ d, ds[i]? = some d ∧ Dt K H x d
  | _, _, _, _, .nil, e => by simp at e
  | _, _, 0, _, .cons h _, e => by simp at e; subst e; exact ⟨_, rfl, h⟩
  | _, _, i + 1, _, .cons _ t, e => by
    obtain ⟨d, h1, h2⟩ := DtAll.getX (i := i) t (by simpa using e)
    exact ⟨d, by simpa using h1, h2⟩
theorem DtAll.getD {K : PySem.W.Frag} {H : Hp} : ∀ {xs : List V} {ds : List PyData} {i : Nat} {d : PyData}, DtAll K H xs ds → ds[i]? = some d → ∃ x, xs[i]? = some x ∧ Dt K H x d
  | _, _, _, _, .nil, e => by simp at e
  | _, _, 0, _, .cons h _, e => by simp at e; subst e; exact ⟨_, rfl, h⟩
  | _, _, i + 1, _, .cons _ t, e => by
    obtain ⟨d, h1, h2⟩ := DtAll.getD (i := i) t (by simpa using e)
    exact ⟨d, by simpa using h1, h2⟩
theorem DtAll.splitR {K : PySem.W.Frag} {H : Hp} : ∀ {xs : List V} {ds es : List PyData}, DtAll K H xs (ds ++ es) → ∃ ys zs, xs = ys ++ zs ∧ DtAll K H ys ds ∧ DtAll K H zs es
  | xs, [], es, h => ⟨[], xs, rfl, .nil, h⟩
  | _, d :: ds, es, h => by
    cases h with
    | cons h t =>
      obtain ⟨ys, zs, rfl, h1, h2⟩ := DtAll.splitR (ds := ds) t
      exact ⟨_ :: ys, zs, rfl, .cons h h1, h2⟩
theorem DtAll.ints {K : PySem.W.Frag} {H : Hp} : ∀ ns : List Int, DtAll K H (ns.map V.int) (ns.map PyData.int)
  | [] => .nil
  | n :: r => .cons (.int n) (DtAll.ints r)
theorem DtAll.intsE {K : PySem.W.Frag} {H : Hp} : ∀ {xs : List V} {ns : List Int}, DtAll K H xs (ns.map PyData.int) → xs = ns.map V.int
  | _, [], h => by cases h; rfl
  | _, n :: r, h => by
    cases h with
    | cons h t => rw [h.i, DtAll.intsE t]; rfl
theorem DtAll.upd {K : PySem.W.Frag} {H : Hp} {D : Addr} {vs us xs : List V} {ds : List PyData} (h : DtAll K H xs ds) (hD : H D = some (.lst vs)) : DtAll K (L2.upd H D (.lst us)) xs ds := DtAll.mono (fun _ _ z => seqT_upd z hD) _ _ h
theorem Dt.updL {K : PySem.W.Frag} {H : Hp} {D : Addr} {vs us : List V} {x : V} {d : PyData} (h : Dt K H x d) (hD : H D = some (.lst vs)) : Dt K (L2.upd H D (.lst us)) x d := Dt.mono (fun _ _ z => seqT_upd z hD) _ _ h
section
variable {K : PySem.W.Frag} {It : It} {n : Nat} {G : Hp → Prop} {Y : Nat → Hp → V → Hp → Prop}
/-- a comprehension of data, all else kept -/
theorem lcS (wk : Walk It n G Y) {g : TG} {te : TE} {vs : List Nat} {σ : L2.St} {H1 : Hp} {D : Addr} {Qd : Hp → Prop} (hD : H1 D = none) (hn : n ≤ 10000000) (Jv : List PyData → Prop) (j0 : Jv []) (hG : ∀ H', Same H1 H' → G H')
    (hs : ∀ i x H H' ds (R : V → Hp → Prop), i < n → Same H1 H → Y i H x H' → Jv ds → ds.length = i → (∀ d y H4, Same H H4 → Dt K H4 y d → Jv (ds ++ [d]) → R y H4) → g x (wipe σ vs) H' fun σ2 H2 => wipe σ2 vs = wipe σ vs ∧ te σ2 H2 R)
    (hd : ∀ H' ws ds, Same H1 H' → H' D = some (.lst ws) → DtAll K H' ws ds → ds.length = n → Jv ds → Qd H') :
    ∃ W : Nat → Nat → Hp → Prop, (∃ m, W 0 m (upd H1 D (.lst []))) ∧ ∀ i m H, W i m H →
      (It.stop i H ∧ Qd H) ∨ (It.go i H ∧ ∃ Nx : Hp → Prop, (∀ H', Nx H' → ∃ m', m' < m ∧ W (i + 1) m' H') ∧ ∀ x H', It.yld i H x H' → g x (wipe σ vs) H' fun σ2 H2 => wipe σ2 vs = wipe σ vs ∧ tYes σ2 H2 fun b H3 =>
        if b = true then te σ2 H3 fun y H4 => ∃ acc, H4 D = some (.lst acc) ∧ acc.length < sizeLine ∧ Nx (upd H4 D (.lst (acc ++ [y]))) else Nx H3) := by
  refine lc_it wk (fun i H' => ∃ (ws : List V) (ds : List PyData), Same H1 H' ∧ H' D = some (.lst ws) ∧ DtAll K H' ws ds ∧ ds.length = i ∧ Jv ds) ⟨[], [], same_new hD, upd_same, .nil, rfl, j0⟩ (fun i H' _ h => ?_) (fun i x H H' hi h y => ?_) (fun H' h => ?_)
  · obtain ⟨_, _, s, _⟩ := h
    exact hG _ s
  · obtain ⟨ws, ds, s, hw, da, len, j⟩ := h
    refine hs i x H H' ds (fun y H4 => ∃ acc, H4 D = some (.lst acc) ∧ acc.length < sizeLine ∧ ∃ (ws : List V) (ds : List PyData), Same H1 (upd H4 D (.lst (acc ++ [y]))) ∧ (upd H4 D (.lst (acc ++ [y]))) D = some (.lst ws) ∧ DtAll K (upd H4 D (.lst (acc ++ [y]))) ws ds ∧ ds.length = i + 1 ∧ Jv ds) hi s y j len fun d y H4 s4 dy j4 => ?_
    have hw4 := s4 _ _ hw
    refine ⟨ws, hw4, smallL (by rw [da.lenD, len]; omega), ws ++ [y], ds ++ [d], Same.upd (s.trans s4) hD, upd_same, ?_, by rw [List.length_append, len]; rfl, j4⟩
    exact ((da.same s4).append (.cons dy .nil)).upd hw4
  · obtain ⟨ws, ds, s, hw, da, len, j⟩ := h
    exact hd _ ws ds s hw da len j
/-- a comprehension of data that draws from the pool -/
theorem lcX (wk : Walk It n G Y) {g : TG} {te : TE} {vs : List Nat} {σ : L2.St} {H1 : Hp} {D l c : Addr} {Qd : Hp → Prop} (P : Pool H1 l c) (hD : H1 D = none) (hn : n ≤ 10000000) (Jv : List PyData → Prop) (j0 : Jv []) (hG : ∀ H', Ext l c H1 H' → G H')
    (hs : ∀ i x H H' ds (R : V → Hp → Prop), i < n → Ext l c H1 H → Y i H x H' → Jv ds → ds.length = i → (∀ d y H4, Ext l c H H4 → Dt K H4 y d → Jv (ds ++ [d]) → R y H4) → g x (wipe σ vs) H' fun σ2 H2 => wipe σ2 vs = wipe σ vs ∧ te σ2 H2 R)
    (hd : ∀ H' ws ds, Ext l c H1 H' → H' D = some (.lst ws) → DtAll K H' ws ds → ds.length = n → Jv ds → Qd H') :
    ∃ W : Nat → Nat → Hp → Prop, (∃ m, W 0 m (upd H1 D (.lst []))) ∧ ∀ i m H, W i m H →
      (It.stop i H ∧ Qd H) ∨ (It.go i H ∧ ∃ Nx : Hp → Prop, (∀ H', Nx H' → ∃ m', m' < m ∧ W (i + 1) m' H') ∧ ∀ x H', It.yld i H x H' → g x (wipe σ vs) H' fun σ2 H2 => wipe σ2 vs = wipe σ vs ∧ tYes σ2 H2 fun b H3 =>
        if b = true then te σ2 H3 fun y H4 => ∃ acc, H4 D = some (.lst acc) ∧ acc.length < sizeLine ∧ Nx (upd H4 D (.lst (acc ++ [y]))) else Nx H3) := by
  have nD := (P.ne hD).1
  refine lc_it wk (fun i H' => ∃ (ws : List V) (ds : List PyData), Ext l c H1 H' ∧ H' D = some (.lst ws) ∧ DtAll K H' ws ds ∧ ds.length = i ∧ Jv ds) ⟨[], [], (Ext.refl P).new P hD, upd_same, .nil, rfl, j0⟩ (fun i H' _ h => ?_) (fun i x H H' hi h y => ?_) (fun H' h => ?_)
  · obtain ⟨_, _, s, _⟩ := h
    exact hG _ s
  · obtain ⟨ws, ds, s, hw, da, len, j⟩ := h
    refine hs i x H H' ds (fun y H4 => ∃ acc, H4 D = some (.lst acc) ∧ acc.length < sizeLine ∧ ∃ (ws : List V) (ds : List PyData), Ext l c H1 (upd H4 D (.lst (acc ++ [y]))) ∧ (upd H4 D (.lst (acc ++ [y]))) D = some (.lst ws) ∧ DtAll K (upd H4 D (.lst (acc ++ [y]))) ws ds ∧ ds.length = i + 1 ∧ Jv ds) hi s y j len fun d y H4 s4 dy j4 => ?_
    have hw4 := s4.keep _ _ nD hw
    refine ⟨ws, hw4, smallL (by rw [da.lenD, len]; omega), ws ++ [y], ds ++ [d], (s.trans s4).upd P hD, upd_same, ?_, by rw [List.length_append, len]; rfl, j4⟩
    exact ((da.ext s.pool s4).append (.cons dy .nil)).upd hw4
  · obtain ⟨ws, ds, s, hw, da, len, j⟩ := h
    exact hd _ ws ds s hw da len j
end
end PK
namespace PK
open PySem L2
/-! terms, with the forms of results -/
inductive Fm where | get | set | plus | minus
deriving DecidableEq
def Fm.s : Fm → Str
  | .get => "get" | .set => "set" | .plus => "plus" | .minus => "minus"
inductive Tm where
  | int (n : Int)
  | name (s : Str)
  | addr (n : Int)
  | var (s : Str)
  | node (c : Str) (ts : List Tm)
  | map (es : List (Str × Tm))
  | form (f : Fm) (ts : List Tm)
mutual
def Tm.d : Tm → PyData
  | .int n => .tuple [.str "int", .int n]
  | .name s => .tuple [.str "name", .str s]
  | .addr n => .tuple [.str "addr", .int n]
  | .var s => .tuple [.str "meta", .str s]
  | .node c ts => .tuple [.str "node", .str c, .tuple (Tm.ds ts)]
  | .map es => .tuple [.str "map", .tuple (Tm.es es)]
  | .form f ts => .tuple (.str f.s :: Tm.ds ts)
def Tm.ds : List Tm → List PyData
  | [] => []
  | t :: r => t.d :: Tm.ds r
def Tm.es : List (Str × Tm) → List PyData
  | [] => []
  | (w, t) :: r => .tuple [.str w, t.d] :: Tm.es r
end
theorem Tm.ds_map : ∀ ts : List Tm, Tm.ds ts = ts.map Tm.d
  | [] => by unfold Tm.ds; rfl
  | t :: r => by unfold Tm.ds; rw [Tm.ds_map r]; rfl
def Tm.ent (e : Str × Tm) : PyData := .tuple [.str e.1, e.2.d]
theorem Tm.es_map : ∀ es : List (Str × Tm), Tm.es es = es.map Tm.ent
  | [] => by unfold Tm.es; rfl
  | (w, t) :: r => by unfold Tm.es; rw [Tm.es_map r]; rfl
def Tm.kids : Tm → List Tm
  | .node _ ts => ts
  | .form _ ts => ts
  | .map es => es.map Prod.snd
  | _ => []
def Tm.hd : Tm → Str
  | .int _ => "int" | .name _ => "name" | .addr _ => "addr" | .var _ => "meta" | .node _ _ => "node" | .map _ => "map" | .form f _ => f.s
theorem Tm.kid_lt {t k : Tm} (h : k ∈ t.kids) : sizeOf k < sizeOf t := by
  cases t with
  | node c ts => have := List.sizeOf_lt_of_mem (as := ts) h; simp only [Tm.node.sizeOf_spec]; omega
  | form c ts => have := List.sizeOf_lt_of_mem (as := ts) h; simp only [Tm.form.sizeOf_spec]; omega
  | map es =>
    obtain ⟨e, he, rfl⟩ := List.mem_map.mp h
    have := List.sizeOf_lt_of_mem he
    have e2 : sizeOf e = 1 + sizeOf e.1 + sizeOf e.2 := by cases e; rfl
    simp only [Tm.map.sizeOf_spec]
    omega
  | int _ => cases h
  | name _ => cases h
  | addr _ => cases h
  | var _ => cases h
/-- induction over the direct parts -/
theorem Tm.ind {p : Tm → Prop} (h : ∀ t : Tm, (∀ k ∈ t.kids, p k) → p t) (t : Tm) : p t := by
  have : ∀ n (t : Tm), sizeOf t ≤ n → p t := by
    intro n
    induction n with
    | zero => intro t ht; cases t <;> simp at ht
    | succ n ih => exact fun t ht => h t fun k hk => ih k (by have := Tm.kid_lt hk; omega)
  exact this _ t (Nat.le_refl _)
def Tm.size (t : Tm) : Nat := 1 + (t.kids.attach.map fun k => k.1.size).sum
termination_by sizeOf t
decreasing_by exact Tm.kid_lt k.2
theorem Tm.size_eq (t : Tm) : t.size = 1 + (t.kids.map Tm.size).sum := by
  rw [Tm.size, List.attach_map_val (f := Tm.size)]
/-- the first data of the tuple of a term -/
theorem Tm.d_hd (t : Tm) : ∃ r, t.d = .tuple (.str t.hd :: r) := by
  cases t <;> exact ⟨_, by unfold Tm.d; rfl⟩
def longI (n : Int) : Bool := decide (10 ^ 15 ≤ (if n < 0 then -n else n))
def Tm.long : Tm → Bool
  | .int n => longI n
  | _ => false
/-- too deep, or a long integer, in a term at a depth -/
def Tm.bad (t : Tm) (d : Nat) : Bool := decide (100 < d) || t.long || t.kids.attach.any fun k => k.1.bad (d + 1)
termination_by sizeOf t
decreasing_by exact Tm.kid_lt k.2
theorem any_attach {α : Type} (l : List α) (p : α → Bool) : (l.attach.any fun k => p k.1) = l.any p := by
  exact (List.any_map (l := l.attach) (f := Subtype.val) (p := p)).symm.trans (by rw [List.attach_map_subtype_val])
theorem Tm.bad_eq (t : Tm) (d : Nat) : t.bad d = (decide (100 < d) || t.long || t.kids.any fun k => k.bad (d + 1)) := by
  rw [Tm.bad, any_attach t.kids (fun k => k.bad (d + 1))]
/-- the kids as data -/
theorem Tm.dt_parts {K : PySem.W.Frag} {H : Hp} {v : V} {t : Tm} (h : Dt K H v t.d) : ∃ (a : Addr) (r : List V), v = .ref a ∧ SqT K H a (.str t.hd :: r) := by
  obtain ⟨r, e⟩ := t.d_hd
  rw [e] at h
  obtain ⟨a, xs, rfl, s, da⟩ := Dt.tn h
  cases da with
  | cons h1 r1 => rw [h1.s] at s; exact ⟨a, _, rfl, s⟩
theorem Fm.ne_node (f : Fm) : f.s ≠ "node" := by cases f <;> decide +kernel
theorem Fm.ne_map (f : Fm) : f.s ≠ "map" := by cases f <;> decide +kernel
def lookA {α β : Type} [DecidableEq α] : List (α × β) → α → Option β
  | [], _ => none
  | (k, v) :: r, s => match lookA r s with | some t => some t | none => if k = s then some v else none
abbrev Tab := List (Str × Tm)
def Tm.ht (t : Tm) : Nat := 1 + (t.kids.attach.map fun k => k.1.ht).foldr max 0
termination_by sizeOf t
decreasing_by exact Tm.kid_lt k.2
theorem Tm.ht_eq (t : Tm) : t.ht = 1 + (t.kids.map Tm.ht).foldr max 0 := by
  rw [Tm.ht, List.attach_map_val (f := Tm.ht)]
theorem fmax_le {n : Nat} : ∀ {l : List Nat}, (∀ x ∈ l, x ≤ n) → l.foldr max 0 ≤ n
  | [], _ => Nat.zero_le _
  | x :: l, h => by
    have h1 := h x List.mem_cons_self
    have h2 := fmax_le (n := n) (l := l) fun y hy => h y (List.mem_cons_of_mem _ hy)
    rw [List.foldr_cons]
    omega
theorem le_fmax : ∀ {l : List Nat} {x : Nat}, x ∈ l → x ≤ l.foldr max 0
  | y :: l, x, h => by
    rw [List.foldr_cons]
    rcases List.mem_cons.mp h with rfl | h
    · omega
    · have := le_fmax h; omega
theorem Tm.ht_kid {t k : Tm} (h : k ∈ t.kids) : k.ht + 1 ≤ t.ht := by
  have := le_fmax (List.mem_map.mpr ⟨k, h, rfl⟩ : k.ht ∈ t.kids.map Tm.ht)
  rw [Tm.ht_eq t]; omega
theorem Tm.ht_le {t : Tm} {n : Nat} (h : ∀ k ∈ t.kids, k.ht ≤ n) : t.ht ≤ n + 1 := by
  rw [Tm.ht_eq t]
  have := fmax_le (n := n) (l := t.kids.map Tm.ht) fun x hx => by
    obtain ⟨k, hk, rfl⟩ := List.mem_map.mp hx
    exact h k hk
  omega
theorem Tm.ht_pos (t : Tm) : 1 ≤ t.ht := by rw [Tm.ht_eq t]; omega
theorem Tm.size_pos (t : Tm) : 1 ≤ t.size := by rw [Tm.size_eq t]; omega
inductive Al (p : Tm → Prop) : Tm → Prop
  | mk {t : Tm} : p t → (∀ k ∈ t.kids, Al p k) → Al p t
theorem Al.at_ {p : Tm → Prop} {t : Tm} (h : Al p t) : p t := by cases h; assumption
theorem Al.kid {p : Tm → Prop} {t k : Tm} (h : Al p t) (hk : k ∈ t.kids) : Al p k := by cases h with | mk _ h => exact h k hk
def HdD (h : Tm × Nat) : PyData := .tuple [h.1.d, .int (h.2 : Nat)]
theorem DtAll.rev {K : PySem.W.Frag} {H : Hp} : ∀ {xs : List V} {ds : List PyData}, DtAll K H xs ds → DtAll K H xs.reverse ds.reverse
  | _, _, .nil => .nil
  | _, _, .cons h t => by
    rw [List.reverse_cons, List.reverse_cons]
    exact t.rev.append (.cons h .nil)
end PK
namespace PK
open PySem L2
/-! words with one letter of a to m: which one tells them apart -/
abbrev LM : Str := "abcdefghijklm"
abbrev OM : Str := "nopqrstuvwxyz0123456789_"
theorem lm_len : LM.cps.toList.length = 13 := by decide +kernel
theorem om_len : OM.cps.toList.length = 24 := by decide +kernel
theorem lm_om : ∀ s ∈ OM.cps.toList, s ∉ LM.cps.toList := by decide +kernel
theorem lm_let : ∀ s ∈ LM.cps.toList, s ∈ LET.cps.toList := by decide +kernel
theorem om_oth : ∀ s ∈ OM.cps.toList, s ∈ OTH.cps.toList := by decide +kernel
theorem om_let : ∀ s ∈ OM.cps.toList.take 13, s ∈ LET.cps.toList := by decide +kernel
/-- the sign of number j, mod 13 -/
def lmAt (j : Int) : Nat := LM.cps.toList.getD (j % 13).toNat 0
/-- of the letters a to m the word has just this one -/
structure Tag (x : Str) (c : Nat) : Prop where
  lm : c ∈ LM.cps.toList
  has : c ∈ x.cps.toList
  only : ∀ s ∈ x.cps.toList, s = c ∨ s ∈ OM.cps.toList
theorem Tag.one {x : Str} {c d : Nat} (a : Tag x c) (b : Tag x d) : c = d := (b.only c a.has).elim id fun z => absurd a.lm (lm_om c z)
theorem lmAt_inj {i j : Int} (h : lmAt i = lmAt j) : i % 13 = j % 13 := by
  have key : ∀ a, a < 13 → ∀ b, b < 13 → LM.cps.toList.getD a 0 = LM.cps.toList.getD b 0 → a = b := by decide +kernel
  have := key (i % 13).toNat (by omega) (j % 13).toNat (by omega) h
  omega
theorem lmAt_mem (j : Int) : lmAt j ∈ LM.cps.toList := by
  have key : ∀ a, a < 13 → LM.cps.toList.getD a 0 ∈ LM.cps.toList := by decide +kernel
  exact key _ (by omega)
theorem lm_ix {j : Int} {H : Hp} {Q : VK} (q : Q (.str (one (lmAt j))) H) : rIxS (.str LM) (.int (j % 13)) H Q := by
  have hj : (j % 13).toNat < LM.cps.toList.length := by rw [lm_len]; omega
  refine ⟨LM, j % 13, lmAt j, rfl, rfl, by rw [len_list, lm_len]; exact small (by decide), ?_, q⟩
  have e : j % 13 = (((j % 13).toNat : Nat) : Int) := by omega
  rw [e]
  refine atI_nat ?_
  unfold lmAt
  rw [List.getElem?_eq_getElem hj, List.getD_eq_getElem?_getD, List.getElem?_eq_getElem hj]
  rfl
theorem om_ix {n : Nat} (hn : n ≤ 24) {d : Int} {H : Hp} {Q : VK} (h0 : 0 ≤ d) (h1 : d < (n : Int)) (q : ∀ s, s ∈ OM.cps.toList.take n → Q (.str (one s)) H) : rIxS (.str OM) (.int d) H Q := by
  obtain ⟨j, rfl⟩ : ∃ j : Nat, d = j := ⟨d.toNat, by omega⟩
  have hj : j < OM.cps.toList.length := by rw [om_len]; omega
  refine ⟨OM, j, OM.cps.toList[j], rfl, rfl, by rw [len_list, om_len]; exact small (by decide), atI_nat (List.getElem?_eq_getElem hj), q _ ?_⟩
  exact List.mem_take_iff_getElem.mpr ⟨j, by omega, rfl⟩
theorem two_lm {x : Str} {a b : Nat} (ha : a ∈ x.cps.toList) (hb : b ∈ x.cps.toList) (la : a ∈ LM.cps.toList) (lb : b ∈ LM.cps.toList) (ne : a ≠ b) (c : Nat) (t : Tag x c) : False := by
  have e1 := (t.only a ha).elim id fun z => absurd la (lm_om a z)
  have e2 := (t.only b hb).elim id fun z => absurd lb (lm_om b z)
  exact ne (e1.trans e2.symm)
theorem no_get (c : Nat) : ¬ Tag "get" c := two_lm (a := 103) (b := 101) (by decide +kernel) (by decide +kernel) (by decide +kernel) (by decide +kernel) (by decide) c
theorem no_minus (c : Nat) : ¬ Tag "minus" c := two_lm (a := 109) (b := 105) (by decide +kernel) (by decide +kernel) (by decide +kernel) (by decide +kernel) (by decide) c
def spLWord : Sp := fun vs H Q _ => ∃ (l c : Addr) (k s : Int), vs = [.ref l, .int k, .int s] ∧ Pool H l c ∧ ∀ (H' : Hp) (x : Str), Ext l c H H' → Wd x → Tag x (lmAt (k + s)) → x ∉ (["get", "set", "plus", "minus", "new"] : List Str) → Q (.str x) H'
section
variable {P : Program} {w : World} {K : PySem.W.Frag} {mg : Str → Option Value} {base : Heap}
abbrev s_law_word : Stmt := topS 29
theorem sc_law_word : FnScope ["pool", "k", "shift", "letters", "others", "most", "at", "row", "place", "word"] ["pool", "k", "shift"] (defScope s_law_word) := ⟨rfl, rfl, rfl, by decide +kernel, rfl, by decide +kernel, by decide +kernel⟩
-- slots: 0:pool 1:k 2:shift 3:letters 4:others 5:most 6:at 7:row 8:place 9:word
theorem ok_lword {f : Addr} {fd : FuncData} (F : Fun K "_law_word" "_law_word" s_law_word f fd) (T : Txt K mg) (C_law_take : C8.Cal P w K mg base 2 "_law_take" (spTake 2) []) : FnOk P w K mg base CX0 3 f fd ["pool", "k", "shift"] spLWord := by
  refine F.ok sc_law_word (fun vs H Q E h => ?_) (fun cdv A outer s H vs Q E hr h => ?_)
  · obtain ⟨_, _, _, _, rfl, _⟩ := h
    rfl
  obtain ⟨l, c, k, sh, rfl, P0, q⟩ := h
  refine ⟨_, (pss_cons (ps_set (i := 3) sc_law_word.nd rfl (Or.inl rfl) pe_str)
    (pss_cons (ps_set (i := 4) sc_law_word.nd rfl (Or.inl rfl) pe_str)
    (pss_cons (ps_set (i := 5) sc_law_word.nd rfl (Or.inl rfl) (pe_op op_add pe_int (C8.pe_c C_law_take hr (by decide) rfl (pa_cons (pv 0) (pa_cons pe_int pa_nil)))))
    (pss_cons (ps_set (i := 6) sc_law_word.nd rfl (Or.inl rfl) (C8.pe_c C_law_take hr (by decide) rfl (pa_cons (pv 0) (pa_cons (pv 5) pa_nil))))
    (pss_cons (ps_set (i := 7) sc_law_word.nd rfl (Or.inl rfl) (pe_lst (pa_cons (pe_ix ix_str (pv 3) (pe_op op_mod (pe_callTy call_int1 (by rfl) T.z_int (by decide +kernel) (pa_cons (pe_op op_add (pv 1) (pv 2)) pa_nil)) pe_int) (fun _ _ => rfl)) pa_nil)))
    (pss_cons (ps_for PassesOwn.never rfl (pi_range2 (by rfl) T.z_range (pa_cons pe_int (pa_cons (pv 5) pa_nil))) (pg_name (i := 8) sc_law_word.nd rfl (Or.inl rfl)) (pss_one (ps_expr (pe_bm PySem.F.plainAttrs_list PySem.F.slot_list_append PySem.F.type_list_append mt_append (pv 7) (pa_cons (pe_ix ix_str (pv 4) (C8.pe_c C_law_take hr (by decide) rfl (pa_cons (pv 0) (pa_cons pe_int pa_nil))) (fun _ _ => rfl)) pa_nil)))))
    (C8.pss_cut (ps_if (pt_cmpR op_gt (pv 6) pe_int (nomark _)) (pss_cons (ps_asg (pe_ix ix_str (pv 4) (C8.pe_c C_law_take hr (by decide) rfl (pa_cons (pv 0) (pa_cons pe_int pa_nil))) (fun _ _ => rfl)) (pg_sub (pv 7) pe_int set_list))
    (pss_one (ps_asg (pe_ix ix_str (pv 3) (pe_op op_mod (pe_callTy call_int1 (by rfl) T.z_int (by decide +kernel) (pa_cons (pe_op op_add (pv 1) (pv 2)) pa_nil)) pe_int) (fun _ _ => rfl)) (pg_sub (pv 7) (pv 6) set_list)))) pss_nil)
    (pss_cons (ps_set (i := 9) sc_law_word.nd rfl (Or.inl rfl) (pe_join pe_str (pv 7)))
    (pss_cons (ps_if (pt_cmpR op_in_seq (pv 9) (pe_lst (pa_cons pe_str (pa_cons pe_str (pa_cons pe_str pa_nil)))) rfl) (pss_one (ps_ret (pe_op op_add_str (pv 9) pe_str))) pss_nil)
    (pss_one (ps_ret (pv 9)))))))))))), ?_⟩
  refine vTake rfl P0 (by decide) (by decide) fun d H1 d0 d12 x1 => ?_
  obtain ⟨m, rfl⟩ : ∃ m : Nat, d = m := ⟨d.toNat, by omega⟩
  refine ⟨_, _, rfl, rfl, ?_⟩
  refine ⟨_, rfl, _, rfl, l, c, 1 + (m : Int), False, rfl, x1.pool, by omega, by omega, .inl (Nat.le_refl 2), fun at_ H2 a0 a1 x2 => ?_⟩
  have x2' := x1.trans x2
  refine ⟨_, rfl, ⟨_, rfl, ⟨_, rfl, _, _, rfl, rfl, .inl ⟨_, rfl, _, _, rfl, rfl, (by show (0 : Int) < 13; decide), lm_ix ⟨small (by show 1 ≤ _; decide), fun R hR => ?_⟩⟩⟩⟩⟩
  have x3 := x2'.new (o := .lst [.str (one (lmAt (k + sh)))]) P0 hR
  have nR : R ≠ l := (x2'.pool.ne hR).1
  have hR0 : H R = none := x2'.free P0 hR
  have cl := lmAt_mem (k + sh)
  refine ⟨_, rfl, 1, 1 + (m : Int), rfl, ⟨by decide, by decide, by omega, by omega⟩, for_range (lo := 1) (n := (1 + (m : Int) - 1).toNat) (fun i σ H' => ∃ (row : List Nat) (b d : Option V), σ = [some (.ref l), some (.int k), some (.int sh), some (.str LM), some (.str OM), some (.int (1 + m)), some (.int at_), some (.ref R), b, d] ∧ Ext l c H H' ∧
    H' R = some (.lst ((lmAt (k + sh) :: row).map fun s => V.str (one s))) ∧ row.length = i ∧ ∀ s ∈ row, s ∈ OM.cps.toList) ?_ ?_ ?_⟩
  · exact ⟨[], none, none, rfl, x3, upd_same, rfl, fun _ h => nomatch h⟩
  · rintro i σ H' hi ⟨row, b, d, rfl, x, hr1, lr, ho⟩
    have hR1 := hr1
    refine ⟨_, rfl, .inl ⟨rfl, _, SqL.of hR1⟩, ⟨_, rfl, vTake rfl x.pool (by decide) (by decide) fun e H3 e0 e1 y => om_ix (Nat.le_refl 24) e0 e1 fun s hs => ?_⟩⟩
    have hR2 := y.keep _ _ nR hR1
    refine ⟨R, _, _, rfl, rfl, hR2, smallL (by rw [List.length_map, List.length_cons]; omega), row ++ [s], _, _, rfl, (x.trans y).upd P0 hR0, ?_, by rw [List.length_append, lr]; rfl, fun z hz => ?_⟩
    · rw [upd_same, List.map_cons, List.map_cons, List.map_append]; rfl
    · rcases List.mem_append.mp hz with h | h
      · exact ho z h
      · rw [List.mem_singleton.mp h]; exact List.mem_of_mem_take hs
  rintro σ H' ⟨row, b, d, rfl, x, hr1, lr, ho⟩
  have lm : row.length = m := by rw [lr]; omega
  -- what the word is made of
  refine ⟨fun σ H' => ∃ (sg : List Nat) (b d : Option V), σ = [some (.ref l), some (.int k), some (.int sh), some (.str LM), some (.str OM), some (.int (1 + m)), some (.int at_), some (.ref R), b, d] ∧ Ext l c H H' ∧ H' R = some (.lst (sg.map fun s => V.str (one s))) ∧
    sg.length = 1 + m ∧ lmAt (k + sh) ∈ sg ∧ (∀ s ∈ sg, s = lmAt (k + sh) ∨ s ∈ OM.cps.toList) ∧ ∃ f r, sg = f :: r ∧ f ∈ LET.cps.toList, ?_, ?_⟩
  · refine ⟨_, rfl, _, _, rfl, rfl, _, rfl, ite2 (fun e => ?_) (fun e => ?_)⟩
    · have a1' : 0 < at_ := of_decide_eq_true e
      refine ⟨_, rfl, vTake rfl x.pool (by decide) (by decide) fun e1 H5 e0 e13 y => om_ix (n := 13) (by decide) e0 e13 fun o hoo => ?_⟩
      have hR5 := y.keep _ _ nR hr1
      refine ⟨_, rfl, R, _, 0, 0, rfl, rfl, hR5, ixN_of (by decide) (by rw [List.length_map, List.length_cons]; omega), ?_⟩
      refine ⟨_, rfl, ⟨_, rfl, ⟨_, rfl, _, _, rfl, rfl, .inl ⟨_, rfl, _, _, rfl, rfl, (by show (0 : Int) < 13; decide), lm_ix ⟨_, rfl, _, rfl, R, _, at_, at_.toNat, rfl, rfl, upd_same, ixN_of a0 (by rw [List.length_set, List.length_map, List.length_cons]; omega), ?_⟩⟩⟩⟩⟩
      refine ⟨(o :: row).set at_.toNat (lmAt (k + sh)), _, _, rfl, ((x.trans y).upd P0 hR0).upd P0 hR0, ?_, ?_, ?_, ?_, ?_⟩
      · rw [upd_same, List.map_set]; rfl
      · rw [List.length_set, List.length_cons]; omega
      · exact List.mem_set (by rw [List.length_cons]; omega) _
      · intro z hz
        rcases List.mem_or_eq_of_mem_set hz with h | h
        · rcases List.mem_cons.mp h with h | h
          · rw [h]; exact .inr (List.mem_of_mem_take hoo)
          · exact .inr (ho z h)
        · exact .inl h
      · obtain ⟨j, ej⟩ : ∃ j, at_.toNat = j + 1 := ⟨at_.toNat - 1, by omega⟩
        rw [ej]
        exact ⟨o, _, rfl, om_let o hoo⟩
    · exact ⟨lmAt (k + sh) :: row, _, _, rfl, x, hr1, by rw [List.length_cons]; omega, .head _, fun z hz => (List.mem_cons.mp hz).imp id (ho z), _, _, rfl, lm_let _ cl⟩
  · rintro σ' H4 ⟨sg, b, d, rfl, x4, hsg, ls, hc, hon, f, r, rfl, hf⟩
    have hall : ∀ s ∈ f :: r, s ∈ OTH.cps.toList := fun s hs => (hon s hs).elim (fun e => by rw [e]; exact let_oth _ (lm_let _ cl)) (om_oth s)
    have ew : (Txt.join "" ((f :: r).map one)).cps.toList = f :: r := txt_join _
    have hw : Wd (Txt.join "" ((f :: r).map one)) := Wd.of ew hf (fun z hz => hall z (.tail _ hz)) (by rw [List.length_cons] at ls; omega)
    have ht : Tag (Txt.join "" ((f :: r).map one)) (lmAt (k + sh)) := ⟨cl, by rw [ew]; exact hc, by rw [ew]; exact hon⟩
    refine ⟨⟨_, rfl⟩, _, rfl, "", R, (f :: r).map one, rfl, rfl, .inl (SqL.of (by rw [List.map_map]; exact hsg)), by rw [one_sum, ls]; show 1 + m + _ * 0 ≤ _; omega, ?_⟩
    generalize Txt.join "" ((f :: r).map one) = wd at ew hw ht
    refine ⟨_, rfl, small (by show 3 ≤ _; decide), fun q1 hq1 => ⟨q1, _, rfl, .inl (SqL.of upd_same), rfl, flat_strs ["set", "plus", "new"], _, rfl, ?_⟩⟩
    rw [show inV (V.str wd) [V.str "set", .str "plus", .str "new"] = decide (wd ∈ (["set", "plus", "new"] : List Str)) from inV_str wd ["set", "plus", "new"]]
    have y := x4.new (o := .lst [V.str "set", .str "plus", .str "new"]) P0 hq1
    by_cases hin : wd ∈ (["set", "plus", "new"] : List Str)
    · rw [decide_eq_true hin]
      have l4 : ∀ z ∈ (["set", "plus", "new"] : List Str), z.length ≤ 4 ∧ z ++ "0" ∉ (["get", "set", "plus", "minus", "new"] : List Str) := by decide +kernel
      have e2 : (wd ++ "0").cps.toList = f :: (r ++ [48]) := by
        show (wd.cps ++ #[48]).toList = _
        rw [Array.toList_append, ew]; rfl
      have lw := (l4 wd hin).1
      rw [len_list, ew, List.length_cons] at lw
      refine iteT ⟨_, rfl, _, _, rfl, rfl, small (by rw [len_list, ew, List.length_cons]; show r.length + 1 + 1 ≤ _; omega), q _ _ y ?_ ⟨cl, ?_, ?_⟩ (l4 wd hin).2⟩
      · refine Wd.of e2 hf (fun z hz => ?_) (by rw [List.length_append]; show r.length + 1 ≤ 11; omega)
        rcases List.mem_append.mp hz with h | h
        · exact hall z (.tail _ h)
        · rw [List.mem_singleton.mp h]; decide +kernel
      · rw [e2]
        exact List.mem_append_left [48] (show lmAt (k + sh) ∈ f :: r from hc)
      · intro z hz
        rw [e2] at hz
        rcases List.mem_append.mp (show z ∈ (f :: r) ++ [48] from hz) with h | h
        · exact hon z h
        · rw [List.mem_singleton.mp h]; exact .inr (by decide +kernel)
    · rw [decide_eq_false hin]
      refine iteF ⟨_, rfl, q _ _ y hw ht fun z => ?_⟩
      rcases (by simpa using z : wd = "get" ∨ wd = "set" ∨ wd = "plus" ∨ wd = "minus" ∨ wd = "new") with h | h | h | h | h
      · rw [h] at ht; exact no_get _ ht
      · exact hin (by rw [h]; decide)
      · exact hin (by rw [h]; decide)
      · rw [h] at ht; exact no_minus _ ht
      · exact hin (by rw [h]; decide)
end
end PK
namespace PK
open PySem L2
/-! the drawn signature, integers, leaves -/
abbrev FORMS : List Str := ["get", "set", "plus", "minus", "new"]
def SigOk (sh : Int) (sig : List (Str × Nat)) : Prop := sig.length ≤ 6 ∧ ∀ (i : Nat) (e : Str × Nat), sig[i]? = some e → Wd e.1 ∧ Tag e.1 (lmAt ((i : Nat) + sh)) ∧ e.1 ∉ FORMS ∧ e.2 ≤ 8
def sigK (sig : List (Str × Nat)) : List (Key × V) := sig.map fun e => (Sum.inr e.1, V.int (e.2 : Nat))
def spSig : Sp := fun vs H Q _ => ∃ (l c : Addr) (sh : Int), vs = [.ref l, .int sh] ∧ Pool H l c ∧ ∀ (H' : Hp) (R : Addr) (sig : List (Str × Nat)), Ext l c H H' → H R = none → H' R = some (.dK (sigK sig)) → SigOk sh sig → Q (.ref R) H'
theorem sig_no {sh : Int} {sig : List (Str × Nat)} {x : Str} (ok : SigOk sh sig) (hl : sig.length < 13) (t : Tag x (lmAt ((sig.length : Nat) + sh))) : valV (sigK sig) (Sum.inr x) = none := by
  cases e : valV (sigK sig) (Sum.inr x) with
  | none => rfl
  | some v =>
    have := (valV_any (Sum.inr x : Key) (sigK sig)).trans (by rw [e]; rfl : (valV (sigK sig) (Sum.inr x)).isSome = true)
    obtain ⟨kv, hkv, hx⟩ := List.any_eq_true.mp this
    obtain ⟨y, hy, rfl⟩ := List.mem_map.mp hkv
    have ex : y.1 = x := Sum.inr.inj (of_decide_eq_true hx)
    obtain ⟨i, hi, ei⟩ := List.mem_iff_getElem.mp hy
    have o := (ok.2 i y (by rw [List.getElem?_eq_getElem hi, ei])).2.1
    rw [ex] at o
    have := lmAt_inj (o.one t)
    omega
section
variable {P : Program} {w : World} {K : PySem.W.Frag} {mg : Str → Option Value} {base : Heap}
abbrev s_law_signature : Stmt := topS 30
theorem sc_law_signature : FnScope ["pool", "shift", "signature", "k", "many"] ["pool", "shift"] (defScope s_law_signature) := ⟨rfl, rfl, rfl, by decide +kernel, rfl, by decide +kernel, by decide +kernel⟩
-- slots: 0:pool 1:shift 2:signature 3:k 4:many
theorem ok_sig {f : Addr} {fd : FuncData} (F : Fun K "_law_signature" "_law_signature" s_law_signature f fd) (T : Txt K mg) (C_law_take : C8.Cal P w K mg base 2 "_law_take" (spTake 2) []) (C_law_word : C8.Cal P w K mg base 3 "_law_word" spLWord []) :
    FnOk P w K mg base CX0 4 f fd ["pool", "shift"] spSig := by
  refine F.ok sc_law_signature (fun vs H Q E h => ?_) (fun cdv A outer s H vs Q E hr h => ?_)
  · obtain ⟨_, _, _, rfl, _⟩ := h
    rfl
  obtain ⟨l, c, sh, rfl, P0, q⟩ := h
  refine ⟨_, (pss_cons (ps_set (i := 2) sc_law_signature.nd rfl (Or.inl rfl) pe_dnewK)
    (pss_cons (ps_for PassesOwn.never rfl (pi_range1 (by rfl) T.z_range (pa_cons (C8.pe_c C_law_take hr (by decide) rfl (pa_cons (pv 0) (pa_cons pe_int pa_nil))) pa_nil)) (pg_name (i := 3) sc_law_signature.nd rfl (Or.inl rfl)) (pss_cons (ps_set (i := 4) sc_law_signature.nd rfl (Or.inl rfl) (C8.pe_c C_law_take hr (by decide) rfl (pa_cons (pv 0) (pa_cons pe_int pa_nil))))
    (C8.pss_cut (ps_if (pt_cmpR op_eq (C8.pe_c C_law_take hr (by decide) rfl (pa_cons (pv 0) (pa_cons pe_int pa_nil))) pe_int (nomark _)) (pss_one (ps_set (i := 4) sc_law_signature.nd rfl (Or.inl rfl) (C8.pe_c C_law_take hr (by decide) rfl (pa_cons (pv 0) (pa_cons pe_int pa_nil))))) pss_nil)
    (pss_one (ps_dput (hu_of hr) (pv 2) (C8.pe_c C_law_word hr (by decide) rfl (pa_cons (pv 0) (pa_cons (pv 3) (pa_cons (pv 1) pa_nil)))) (pv 4) rfl)))))
    (pss_one (ps_ret (pv 2))))), ?_⟩
  intro R hR
  have x0 := (Ext.refl P0).new (o := .dK []) P0 hR
  have nR : R ≠ l := (P0.ne hR).1
  refine vTake rfl x0.pool (by decide) (by decide) fun d H1 d0 d7 x1 => ⟨d, rfl, by omega, by omega, for_range (n := d.toNat) (fun i σ H' => ∃ (sig : List (Str × Nat)) (a b : Option V), σ = [some (.ref l), some (.int sh), some (.ref R), a, b] ∧ Ext l c H H' ∧ H' R = some (.dK (sigK sig)) ∧ sig.length = i ∧ SigOk sh sig) ?_ ?_ ?_⟩
  · exact ⟨[], none, none, rfl, x0.trans x1, x1.keep _ _ nR upd_same, rfl, Nat.zero_le _, fun i e h => by simp at h⟩
  · rintro i σ H' hi ⟨sig, a, b, rfl, x, hs, ls, ok⟩
    refine vTake rfl x.pool (by decide) (by decide) fun m H2 m0 m4 x2 => ?_
    refine ⟨fun σ H' => ∃ m : Nat, m ≤ 8 ∧ σ = [some (.ref l), some (.int sh), some (.ref R), some (.int (0 + (i : Int))), some (.int (m : Int))] ∧ Ext l c H H' ∧ H' R = some (.dK (sigK sig)), ?_, ?_⟩
    · have y2 := x.trans x2
      have h2 := x2.keep _ _ nR hs
      refine vTake rfl x2.pool (by decide) (by decide) fun z H3 z0 z5 x3 => ⟨rfl, _, rfl, ite2 (fun e => ?_) (fun e => ?_)⟩
      · refine vTake rfl x3.pool (by decide) (by decide) fun m' H4 m0' m9 x4 => ⟨m'.toNat, by omega, by rw [show ((m'.toNat : Nat) : Int) = m' by omega]; rfl, (y2.trans x3).trans x4, x4.keep _ _ nR (x3.keep _ _ nR h2)⟩
      · exact ⟨m.toNat, by omega, by rw [show ((m.toNat : Nat) : Int) = m by omega]; rfl, y2.trans x3, x3.keep _ _ nR h2⟩
    · rintro σ' H5 ⟨m, hm, rfl, x5, h5⟩
      refine ⟨_, rfl, _, rfl, ⟨_, rfl, _, rfl, _, rfl, l, c, 0 + (i : Int), sh, rfl, x5.pool, fun H6 y x6 wy ty ny => ?_⟩⟩
      have h6 := x6.keep _ _ nR h5
      rw [Int.zero_add, ← ls] at ty
      have no := sig_no ok (by have := ok.1; omega) ty
      refine ⟨R, _, rfl, DPut.k (k := Sum.inr y) h6 (by show (sigK sig).length < _; unfold sigK; rw [List.length_map]; exact smallL (by have := ok.1; omega)), ?_⟩
      refine ⟨sig ++ [(y, m)], _, _, rfl, (x5.trans x6).upd P0 hR, ?_, by rw [List.length_append, ls]; rfl, by rw [List.length_append]; show sig.length + 1 ≤ 6; omega, fun j e he => ?_⟩
      · rw [upd_same, putK_new _ no]
        unfold sigK
        rw [List.map_append]; rfl
      · by_cases hj : j < sig.length
        · rw [List.getElem?_append_left hj] at he
          exact ok.2 j e he
        · rw [List.getElem?_append_right (by omega)] at he
          have hj0 : j = sig.length := by
            have := (List.getElem?_eq_some_iff.mp he).1
            simp at this; omega
          subst hj0
          simp at he
          subst he
          exact ⟨wy, ty, ny, hm⟩
  · rintro σ H' ⟨sig, a, b, rfl, x, hs, ls, ok⟩
    exact ⟨_, rfl, q H' R sig x hR hs ok⟩
end
end PK
namespace PK
open PySem L2
/-! terms over a drawn signature -/
abbrev SOk (x : Str) : Prop := PyData.strOk x = true
theorem Wd.sok {x : Str} (h : Wd x) : SOk x := by
  have key : ∀ s ∈ OTH.cps.toList, s < 0x110000 := by decide +kernel
  show x.cps.all (· < 0x110000) = true
  rw [← Array.all_toList, List.all_eq_true]
  exact fun s hs => decide_eq_true (key s (h.al s hs))
abbrev WOk (x : Str) : Prop := SOk x ∧ x.length ≤ 12
theorem Wd.wok {x : Str} (h : Wd x) : WOk x := ⟨h.sok, h.hi⟩
def TL (sig : List (Str × Nat)) (ms : List Str) : Tm → Prop
  | .int n => -1000000000000000 < n ∧ n < 1000000000000000
  | .name s => s ∈ ms ∧ Wd s
  | .addr n => 0 ≤ n ∧ n < 1000000000
  | .var s => s ∈ ms ∧ Wd s
  | .node c ts => Wd c ∧ (c, ts.length) ∈ sig ∧ ts.length ≤ 8
  | .map es => es.length ≤ 8 ∧ (∀ e ∈ es, e.1 ∈ ms ∧ Wd e.1) ∧ (es.map Prod.fst).Nodup ∧ PyProof.Rows.sortedS (es.map Prod.fst) = true
  | .form _ _ => False
def TOk (sig : List (Str × Nat)) (ms : List Str) : Tm → Prop := Al (TL sig ms)
theorem TOk.len {sig : List (Str × Nat)} {ms : List Str} {t : Tm} (h : TOk sig ms t) : t.kids.length ≤ 8 := by
  have := h.at_
  cases t with
  | node c ts => exact this.2.2
  | map es => show (es.map Prod.snd).length ≤ 8; rw [List.length_map]; exact this.1
  | form f ts => exact this.elim
  | _ => exact Nat.zero_le _
theorem TOk.leaf {sig : List (Str × Nat)} {ms : List Str} {t : Tm} (h : TL sig ms t) (hk : t.kids = []) : TOk sig ms t := .mk h fun k hm => by rw [hk] at hm; cases hm
/-- words as they are drawn, in a list that stands -/
structure Wl (H : Hp) (l p : Addr) (ws : List Str) : Prop where
  at_ : H p = some (.lst (ws.map V.str))
  ne : p ≠ l
  le : ws.length ≤ 100
  wd : ∀ x ∈ ws, Wd x
theorem Wl.ext {H H' : Hp} {l c p : Addr} {ws : List Str} (N : Wl H l p ws) (x : Ext l c H H') : Wl H' l p ws := ⟨x.keep _ _ N.ne N.at_, N.ne, N.le, N.wd⟩
theorem Wl.ix {K : PySem.W.Frag} {H : Hp} {l p : Addr} {ws : List Str} (N : Wl H l p ws) {d : Int} (h0 : 0 ≤ d) (h1 : d < (ws.length : Int)) {Q : VK} (q : ∀ x, x ∈ ws → Q (.str x) H) : rIxL K (.ref p) (.int d) H Q := by
  obtain ⟨j, rfl⟩ : ∃ j : Nat, d = j := ⟨d.toNat, by omega⟩
  have hj : j < ws.length := by omega
  exact ⟨p, _, j, _, rfl, rfl, SqL.of N.at_, atI_nat (by rw [List.getElem?_map, List.getElem?_eq_getElem hj]; rfl), q _ (List.getElem_mem hj)⟩
def spIntg : Sp := fun vs H Q _ => ∃ (l c : Addr), vs = [.ref l] ∧ Pool H l c ∧ ∀ (i : Int) (H' : Hp), -1000000000000000 < i ∧ i < 1000000000000000 → Ext l c H H' → Q (.int i) H'
def spLeaf (K : PySem.W.Frag) : Sp := fun vs H Q _ => ∃ (l c pw pm : Addr) (ws ms : List Str), vs = [.ref l, .ref pw, .ref pm] ∧ Pool H l c ∧ Wl H l pw ws ∧ (ws ≠ [] ∧ ∀ x ∈ ws, x ∈ ms) ∧ Wl H l pm ms ∧
  ∀ (v : V) (t : Tm) (H' : Hp), Ext l c H H' → Dt K H' v t.d → (∀ sig, TL sig ms t) → t.kids = [] → Q v H'
section
variable {P : Program} {w : World} {K : PySem.W.Frag} {mg : Str → Option Value} {base : Heap}
abbrev s_law_integer : Stmt := topS 31
theorem sc_law_integer : FnScope ["pool", "kind"] ["pool"] (defScope s_law_integer) := ⟨rfl, rfl, rfl, by decide +kernel, rfl, by decide +kernel, by decide +kernel⟩
-- slots: 0:pool 1:kind
abbrev s_law_leaf : Stmt := topS 32
theorem sc_law_leaf : FnScope ["pool", "words", "metas", "kind"] ["pool", "words", "metas"] (defScope s_law_leaf) := ⟨rfl, rfl, rfl, by decide +kernel, rfl, by decide +kernel, by decide +kernel⟩
-- slots: 0:pool 1:words 2:metas 3:kind
theorem ok_intg {f : Addr} {fd : FuncData} (F : Fun K "_law_integer" "_law_integer" s_law_integer f fd) (C_law_take : C8.Cal P w K mg base 2 "_law_take" (spTake 2) []) : FnOk P w K mg base CX0 3 f fd ["pool"] spIntg := by
  refine F.ok sc_law_integer (fun vs H Q E h => ?_) (fun cdv A outer s H vs Q E hr h => ?_)
  · obtain ⟨_, _, rfl, _⟩ := h
    rfl
  obtain ⟨l, c, rfl, P0, q⟩ := h
  refine ⟨_, (pss_cons (ps_set (i := 1) sc_law_integer.nd rfl (Or.inl rfl) (C8.pe_c C_law_take hr (by decide) rfl (pa_cons (pv 0) (pa_cons pe_int pa_nil))))
    (pss_cons (ps_if (pt_cmpR op_eq (pv 1) pe_int (nomark _)) (pss_one (ps_ret (C8.pe_c C_law_take hr (by decide) rfl (pa_cons (pv 0) (pa_cons (pe_op op_pow pe_int pe_int) pa_nil))))) pss_nil)
    (pss_cons (ps_if (pt_cmpR op_eq (pv 1) pe_int (nomark _)) (pss_one (ps_ret (pe_op op_sub pe_int (C8.pe_c C_law_take hr (by decide) rfl (pa_cons (pv 0) (pa_cons (pe_op op_pow pe_int pe_int) pa_nil)))))) pss_nil)
    (pss_one (ps_ret (pe_op op_sub (C8.pe_c C_law_take hr (by decide) rfl (pa_cons (pv 0) (pa_cons pe_int pa_nil))) pe_int)))))), ?_⟩
  have p15 : CPow 10 15 := ⟨by decide, by decide, by decide⟩
  refine vTake rfl P0 (by decide) (by decide) fun d H1 d0 d4 x1 => ⟨_, rfl, rfl, _, rfl, ite2 (fun _ => ?_) (fun _ => ⟨_, rfl, rfl, _, rfl, ite2 (fun _ => ?_) (fun _ => ?_)⟩)⟩
  · exact ⟨_, rfl, _, _, rfl, rfl, p15, l, c, 10 ^ 15, False, rfl, x1.pool, by decide, by decide, .inl (Nat.le_refl 2), fun a H2 a0 a1 x2 => q a H2 (by rw [show (10 : Int) ^ 15 = 1000000000000000 from rfl] at a1; omega) (x1.trans x2)⟩
  · exact ⟨_, rfl, _, _, rfl, rfl, p15, l, c, 10 ^ 15, False, rfl, x1.pool, by decide, by decide, .inl (Nat.le_refl 2), fun a H2 a0 a1 x2 => ⟨_, _, rfl, rfl, q _ H2 (by rw [show (10 : Int) ^ 15 = 1000000000000000 from rfl] at a1; omega) (x1.trans x2)⟩⟩
  · exact vTake rfl x1.pool (by decide) (by decide) fun a H2 a0 a1 x2 => ⟨_, _, rfl, rfl, q _ H2 (by omega) (x1.trans x2)⟩
theorem ok_leaf {f : Addr} {fd : FuncData} (F : Fun K "_law_leaf" "_law_leaf" s_law_leaf f fd) (T : Txt K mg) (C_law_take : C8.Cal P w K mg base 2 "_law_take" (spTake 2) []) (C_law_integer : C8.Cal P w K mg base 3 "_law_integer" spIntg []) :
    FnOk P w K mg base CX0 4 f fd ["pool", "words", "metas"] (spLeaf K) := by
  refine F.ok sc_law_leaf (fun vs H Q E h => ?_) (fun cdv A outer s H vs Q E hr h => ?_)
  · obtain ⟨_, _, _, _, _, _, rfl, _⟩ := h
    rfl
  obtain ⟨l, c, pw, pm, ws, ms, rfl, P0, W, nw, M, q⟩ := h
  refine ⟨_, (pss_cons (ps_set (i := 3) sc_law_leaf.nd rfl (Or.inl rfl) (C8.pe_c C_law_take hr (by decide) rfl (pa_cons (pv 0) (pa_cons pe_int pa_nil))))
    (pss_cons (ps_if (PW.pt (pw_or (pt_cmpR op_eq (pv 3) pe_int (nomark _)) (pw_or1 (PW.pt (pw_and (pt_cmpR op_eq (pv 3) pe_int (nomark _)) (pw_and1 (pt_not (pt_truth (pv 2) (by intro _; rfl))))))))) (pss_one (ps_ret (pe_tup (pa_cons pe_str (pa_cons (C8.pe_c C_law_integer hr (by decide) rfl (pa_cons (pv 0) pa_nil)) pa_nil))))) pss_nil)
    (pss_cons (ps_if (pt_cmpR op_eq (pv 3) pe_int (nomark _)) (pss_one (ps_ret (pe_tup (pa_cons pe_str (pa_cons (pe_ix ix_list (pv 1) (C8.pe_c C_law_take hr (by decide) rfl (pa_cons (pv 0) (pa_cons (pe_callB call_len_seq (by rfl) T.z_len (by decide +kernel) (pa_cons (pv 1) pa_nil)) pa_nil))) (fun _ _ => rfl)) pa_nil))))) pss_nil)
    (pss_cons (ps_if (pt_cmpR op_eq (pv 3) pe_int (nomark _)) (pss_one (ps_ret (pe_tup (pa_cons pe_str (pa_cons (pe_ix ix_tup (pe_tup (pa_cons (C8.pe_c C_law_take hr (by decide) rfl (pa_cons (pv 0) (pa_cons pe_int pa_nil))) (pa_cons (C8.pe_c C_law_take hr (by decide) rfl (pa_cons (pv 0) (pa_cons (pe_op op_pow pe_int pe_int) pa_nil))) pa_nil))) (C8.pe_c C_law_take hr (by decide) rfl (pa_cons (pv 0) (pa_cons pe_int pa_nil))) (fun _ _ => rfl)) pa_nil))))) pss_nil)
    (pss_one (ps_ret (pe_tup (pa_cons pe_str (pa_cons (pe_ix ix_list (pv 2) (C8.pe_c C_law_take hr (by decide) rfl (pa_cons (pv 0) (pa_cons (pe_callB call_len_seq (by rfl) T.z_len (by decide +kernel) (pa_cons (pv 2) pa_nil)) pa_nil))) (fun _ _ => rfl)) pa_nil))))))))), ?_⟩
  have p9 : CPow 10 9 := ⟨by decide, by decide, by decide⟩
  refine vTake rfl P0 (by decide) (by decide) fun d H1 d0 d4 x1 => ?_
  have W1 := W.ext x1
  have M1 := M.ext x1
  have two : ∀ {Hx : Hp} {v : V} {e : PyData} {s : Str} {t : Tm} {p : Addr}, Ext l c H Hx → Hx p = none → Dt K Hx v e → t.d = .tuple [.str s, e] → (∀ sig, TL sig ms t) → t.kids = [] → Q (.ref p) (upd Hx p (.tup [.str s, v])) := fun x hp dv et ok h =>
    q _ _ _ (x.new P0 hp) (by rw [et]; exact Dt.mk2 hp (.str _) dv) ok h
  have integer : ∀ {D : Ends} {σ : L2.St}, D.rt = Q → σ[0]? = some (some (.ref l)) → tRet (tTup (tCons (tC (.str "int")) (tCons (tCall spIntg [] C8.E0 (tCons (tVar 0) tNil)) tNil))) D σ H1 := fun {D σ} eD h0 => by
    refine ⟨_, h0, l, c, rfl, x1.pool, fun i H2 hi x2 => ⟨small (by show 2 ≤ _; decide), fun p hp => ?_⟩⟩
    rw [eD]
    exact two (t := .int i) (x1.trans x2) hp (.int i) (by unfold Tm.d; rfl) (fun _ => hi) rfl
  refine ⟨_, rfl, rfl, _, rfl, ite2 (fun e => integer rfl rfl) (fun e0 => ?_)⟩
  have lw : 0 < ws.length := List.length_pos_iff.mpr nw.1
  have nE : ∀ {a b : Int}, a ≠ b → ¬ decide (V.int a = V.int b) = true := fun h z => h (V.int.inj (of_decide_eq_true z))
  by_cases e3 : d = 3
  · subst e3
    refine ⟨_, rfl, rfl, _, rfl, iteT ⟨_, rfl, !(ms.map V.str).isEmpty, .inl ⟨_, SqL.of M1.at_, rfl⟩, ?_⟩⟩
    cases hms : ms with
    | nil => exact iteT (integer rfl rfl)
    | cons m0 mr =>
      have lm : 0 < ms.length := by rw [hms, List.length_cons]; omega
      rw [← hms]
      have ne : (!(!(ms.map V.str).isEmpty)) = false := by rw [hms]; rfl
      rw [ne]
      refine iteF ⟨_, rfl, rfl, _, rfl, iteF ⟨_, rfl, rfl, _, rfl, iteF ?_⟩⟩
      have llen := M1.le
      refine ⟨_, rfl, _, rfl, ⟨_, rfl, pm, ms.map V.str, rfl, .inl (SqL.of M1.at_), ⟨l, c, _, False, rfl, x1.pool, by rw [List.length_map]; omega, by rw [List.length_map]; omega, .inl (Nat.le_refl 2), fun a H2 a0 a1 x2 => ?_⟩⟩⟩
      rw [List.length_map] at a1
      refine (M1.ext x2).ix a0 a1 fun x hx => ⟨small (by show 2 ≤ _; decide), fun p hp => ?_⟩
      exact two (t := .var x) (x1.trans x2) hp (.str x) (by unfold Tm.d; rfl) (fun _ => ⟨hx, M.wd x hx⟩) rfl
  · refine ⟨_, rfl, rfl, _, rfl, ?_⟩
    rw [show decide (V.int d = V.int 3) = false from Bool.eq_false_iff.mpr (nE e3)]
    refine iteF (iteF ⟨_, rfl, rfl, _, rfl, ite2 (fun e1 => ?_) (fun e1 => ⟨_, rfl, rfl, _, rfl, ite2 (fun e2 => ?_) (fun e2 => ?_)⟩)⟩)
    · have llen := W1.le
      refine ⟨_, rfl, ⟨_, rfl, ⟨_, rfl, pw, ws.map V.str, rfl, .inl (SqL.of W1.at_), ⟨l, c, _, False, rfl, x1.pool, by rw [List.length_map]; omega, by rw [List.length_map]; omega, .inl (Nat.le_refl 2), fun a H2 a0 a1 x2 => ?_⟩⟩⟩⟩
      rw [List.length_map] at a1
      refine (W1.ext x2).ix a0 a1 fun x hx => ⟨small (by show 2 ≤ _; decide), fun p hp => ?_⟩
      exact two (t := .name x) (x1.trans x2) hp (.str x) (by unfold Tm.d; rfl) (fun _ => ⟨nw.2 x hx, W.wd x hx⟩) rfl
    · refine vTake rfl x1.pool (by decide) (by decide) fun a H2 a0 a1 x2 => ?_
      refine ⟨_, rfl, _, _, rfl, rfl, p9, l, c, 10 ^ 9, False, rfl, x2.pool, by decide, by decide, .inl (Nat.le_refl 2), fun b H3 b0 b1 x3 => ⟨small (by show 2 ≤ _; decide), fun t ht => ?_⟩⟩
      have x4 := ((x1.trans x2).trans x3).new (o := .tup [.int a, .int b]) P0 ht
      refine vTake rfl x4.pool (by decide) (by decide) fun j H4 j0 j2 x5 => ?_
      rw [show (10 : Int) ^ 9 = 1000000000 from rfl] at b1
      obtain ⟨n, e, hn⟩ : ∃ n : Int, atI [V.int a, V.int b] j = some (.int n) ∧ 0 ≤ n ∧ n < 1000000000 := by
        rcases (by omega : j = 0 ∨ j = 1) with rfl | rfl
        · exact ⟨a, rfl, by omega, by omega⟩
        · exact ⟨b, rfl, by omega, by omega⟩
      refine ⟨t, _, j, _, rfl, rfl, x5.seqT x4.pool (SqT.of upd_same), e, small (by show 2 ≤ _; decide), fun p hp => ?_⟩
      exact two (t := .addr n) (x4.trans x5) hp (.int n) (by unfold Tm.d; rfl) (fun _ => hn) rfl
    · have n1 : d ≠ 1 := fun z => e1 (by rw [z]; decide)
      have n2 : d ≠ 2 := fun z => e2 (by rw [z]; decide)
      have n0 : d ≠ 0 := fun z => e0 (by rw [z]; decide)
      omega
end
end PK
namespace PK
open PySem L2
/-! the stack of drawn terms -/
theorem cut_drop (xs : List V) (i : Nat) (h : i ≤ xs.length) : cutV xs (some (i : Int)) none = xs.drop i := by
  unfold cutV
  have e : HT.sIx xs.length 0 (some (i : Int)) = i := by
    rw [HT.sIx_nat]; omega
  rw [e, HT.sIx_none, List.take_of_length_le (by rw [List.length_drop]; omega)]
theorem cut_take (xs : List V) (i : Nat) (h : i ≤ xs.length) : cutV xs none (some (i : Int)) = xs.take i := by
  unfold cutV
  have e : HT.sIx xs.length xs.length (some (i : Int)) = i := by
    rw [HT.sIx_nat]; omega
  rw [e, HT.sIx_none, List.drop_zero]; rfl
theorem DtAll.dropD {K : PySem.W.Frag} {H : Hp} : ∀ {xs : List V} {ds : List PyData} (n : Nat), DtAll K H xs ds → DtAll K H (xs.drop n) (ds.drop n)
  | _, _, 0, h => h
  | _, _, _ + 1, .nil => .nil
  | _, _, n + 1, .cons _ t => t.dropD n
theorem DtAll.takeD {K : PySem.W.Frag} {H : Hp} : ∀ {xs : List V} {ds : List PyData} (n : Nat), DtAll K H xs ds → DtAll K H (xs.take n) (ds.take n)
  | _, _, 0, _ => .nil
  | _, _, _ + 1, .nil => .nil
  | _, _, n + 1, .cons h t => .cons h (t.takeD n)
theorem sig_get {sh : Int} {sig : List (Str × Nat)} {j : Nat} {e : Str × Nat} (ok : SigOk sh sig) (h : sig[j]? = some e) : valV (sigK sig) (Sum.inr e.1) = some (.int (e.2 : Nat)) := by
  have inj : ∀ i j : Nat, ∀ x y : Str × Nat, sig[i]? = some x → sig[j]? = some y → x.1 = y.1 → i = j := fun i j x y hx hy hxy => by
    have a := (ok.2 i x hx).2.1
    have b := (ok.2 j y hy).2.1
    rw [hxy] at a
    have := lmAt_inj (a.one b)
    have l1 := (List.getElem?_eq_some_iff.mp hx).1
    have l2 := (List.getElem?_eq_some_iff.mp hy).1
    have := ok.1
    omega
  unfold valV sigK
  cases q : (sig.map fun e => ((Sum.inr e.1 : Key), V.int (e.2 : Nat))).find? (fun kv => decide (kv.1 = Sum.inr e.1)) with
  | none =>
    have := List.find?_eq_none.mp q (Sum.inr e.1, V.int (e.2 : Nat)) (List.mem_map.mpr ⟨e, List.mem_of_getElem? h, rfl⟩)
    simp at this
  | some kv =>
    have h1 := List.mem_of_find?_eq_some q
    have h2 := List.find?_some q
    obtain ⟨y, hy, rfl⟩ := List.mem_map.mp h1
    have ey : y.1 = e.1 := Sum.inr.inj (of_decide_eq_true h2)
    obtain ⟨i, hi⟩ := List.getElem?_of_mem hy
    have := inj i j y e hi h ey
    subst this
    rw [hi] at h
    cases h
    rfl
theorem zip_snd_take {α β : Type} : ∀ (a : List α) (b : List β), (a.zip b).map Prod.snd = b.take a.length
  | [], _ => rfl
  | _ :: _, [] => rfl
  | _ :: a, y :: b => by rw [List.zip_cons_cons, List.map_cons, zip_snd_take a b]; rfl
theorem DtAll.strsE {K : PySem.W.Frag} {H : Hp} : ∀ {xs : List V} {ss : List Str}, DtAll K H xs (ss.map PyData.str) → xs = ss.map V.str
  | _, [], h => by cases h; rfl
  | _, n :: r, h => by
    cases h with
    | cons h t => rw [h.s, DtAll.strsE t]; rfl
structure TxtK (K : PySem.W.Frag) (mg : Str → Option Value) : Prop extends Txt K mg where
  z_max : mg "max" = none
  z_set : mg "set" = none
def hiN (st : List (Tm × Nat)) : Nat := st.foldr (fun e n => max (e.2 + 1) n) 0
theorem hiN_le {n : Nat} : ∀ {st : List (Tm × Nat)}, (∀ e ∈ st, e.2 + 1 ≤ n) → hiN st ≤ n
  | [], _ => Nat.zero_le _
  | e :: r, h => by
    have h1 := h e List.mem_cons_self
    have h2 := hiN_le (n := n) (st := r) fun x hx => h x (List.mem_cons_of_mem _ hx)
    show max (e.2 + 1) (hiN r) ≤ n
    omega
theorem le_hiN : ∀ {st : List (Tm × Nat)} {e : Tm × Nat}, e ∈ st → e.2 + 1 ≤ hiN st
  | x :: r, e, h => by
    show _ ≤ max (x.2 + 1) (hiN r)
    rcases List.mem_cons.mp h with rfl | h
    · omega
    · have := le_hiN h; omega
def spHigh (K : PySem.W.Frag) : Sp := fun vs H Q _ => ∃ (a : Addr) (xs : List V) (st : List (Tm × Nat)), vs = [.ref a] ∧ H a = some (.lst xs) ∧ DtAll K H xs (st.map HdD) ∧ st.length ≤ 10000 ∧ ∀ H' : Hp, Same H H' → Q (.int (hiN st : Nat)) H'
structure StOk (sig : List (Str × Nat)) (ms : List Str) (e : Tm × Nat) : Prop where
  ok : TOk sig ms e.1
  ht : e.1.ht ≤ e.2 + 1
  le : e.2 ≤ 51
def tot (st : List (Tm × Nat)) : Nat := (st.map fun e => e.1.size).sum
theorem tot_app (a b : List (Tm × Nat)) : tot (a ++ b) = tot a + tot b := by unfold tot; rw [List.map_append, List.sum_append]
def spGrown (K : PySem.W.Frag) : Sp := fun vs H Q _ => ∃ (l c S psg pw pm : Addr) (xs : List V) (st : List (Tm × Nat)) (sig : List (Str × Nat)) (ws ms : List Str) (sh : Int), vs = [.ref l, .ref S, .ref psg, .ref pw, .ref pm] ∧ Pool H l c ∧ S ≠ l ∧ H S = some (.lst xs) ∧ DtAll K H xs (st.map HdD) ∧ st.length ≤ 1000 ∧
  psg ≠ l ∧ H psg = some (.dK (sigK sig)) ∧ SigOk sh sig ∧ Wl H l pw ws ∧ (ws ≠ [] ∧ ∀ x ∈ ws, x ∈ ms) ∧ Wl H l pm ms ∧ (∀ e ∈ st, StOk sig ms e) ∧
  ∀ (H' : Hp) (S' : Addr) (xs' : List V) (st' : List (Tm × Nat)), Ext l c H H' → S' ≠ l → H' S' = some (.lst xs') → DtAll K H' xs' (st'.map HdD) → (∀ e ∈ st', StOk sig ms e) → st' ≠ [] → tot st' ≤ tot st + 1 → st'.length ≤ st.length + 1 → Q (.ref S') H'
def spTerm (K : PySem.W.Frag) : Sp := fun vs H Q _ => ∃ (l c psg pw pm : Addr) (sig : List (Str × Nat)) (ws ms : List Str) (sh : Int) (most : Nat), vs = [.ref l, .ref psg, .ref pw, .ref pm, .int (most : Nat)] ∧ Pool H l c ∧ psg ≠ l ∧ H psg = some (.dK (sigK sig)) ∧ SigOk sh sig ∧ Wl H l pw ws ∧ (ws ≠ [] ∧ ∀ x ∈ ws, x ∈ ms) ∧ Wl H l pm ms ∧ 0 < most ∧ most ≤ 500 ∧
  ∀ (v : V) (t : Tm) (H' : Hp), Ext l c H H' → Dt K H' v t.d → TOk sig ms t → t.ht ≤ 52 → t.size ≤ most → Q v H'
section
variable {P : Program} {w : World} {K : PySem.W.Frag} {mg : Str → Option Value} {base : Heap}
abbrev s_law_high : Stmt := topS 33
theorem sc_law_high : FnScope ["parts", "part"] ["parts"] (defScope s_law_high) := ⟨rfl, rfl, rfl, by decide +kernel, rfl, by decide +kernel, by decide +kernel⟩
-- slots: 0:parts 1:part(comp)
abbrev s_law_grown : Stmt := topS 34
theorem sc_law_grown : FnScope ["pool", "stack", "signature", "words", "metas", "names", "kind", "many", "parts", "terms", "rest", "chosen", "entries", "part", "k"] ["pool", "stack", "signature", "words", "metas"] (defScope s_law_grown) := ⟨rfl, rfl, rfl, by decide +kernel, rfl, by decide +kernel, by decide +kernel⟩
-- slots: 0:pool(cell) 1:stack 2:signature 3:words(cell) 4:metas 5:names 6:kind 7:many 8:parts 9:terms(cell) 10:rest 11:chosen(cell) 12:entries 13:part(comp) 14:k(comp)
abbrev s_law_term : Stmt := topS 35
theorem sc_law_term : FnScope ["pool", "signature", "words", "metas", "most", "stack", "k"] ["pool", "signature", "words", "metas", "most"] (defScope s_law_term) := ⟨rfl, rfl, rfl, by decide +kernel, rfl, by decide +kernel, by decide +kernel⟩
-- slots: 0:pool 1:signature 2:words 3:metas 4:most 5:stack 6:k
theorem ok_high {f : Addr} {fd : FuncData} (F : Fun K "_law_high" "_law_high" s_law_high f fd) (T : TxtK K mg) : FnOk P w K mg base CX0 1 f fd ["parts"] (spHigh K) := by
  refine F.ok sc_law_high (fun vs H Q E h => ?_) (fun cdv A outer s H vs Q E hr h => ?_)
  · obtain ⟨_, _, _, rfl, _⟩ := h
    rfl
  obtain ⟨a, xs, st, rfl, ha, da, ls, q⟩ := h
  refine ⟨_, (pss_one (ps_ret (pe_op op_add pe_int (pe_callB (cr_max (by rfl)) (by rfl) T.z_max (by decide +kernel) (pa_cons (pe_op op_cat (pe_lst (pa_cons (pe_un un_neg pe_int) pa_nil)) (pe_lc (own := [("part", 1)]) (g := (gName 1)) (tt := tYes) (by rfl) sc_law_high.nd (pi_list (pv 0)) (blkOk_by (N := ["parts", "part"]) (sc := defScope s_law_high) (by decide +kernel)) (fun _ _ _ _ _ => (pg_name (i := 1) sc_law_high.nd rfl (Or.inl rfl))) (fun _ _ _ _ _ => pts_nil) (fun _ _ _ _ _ => (pe_ix (r := rIxT K) ix_tup (pv 1) pe_int (fun _ _ => rfl))))) pa_nil))))), ?_⟩
  have lx : xs.length = st.length := by rw [da.lenD, List.length_map]
  refine ⟨_, rfl, small (by show 1 ≤ _; decide), fun p hp => ⟨_, rfl, a, rfl, ⟨_, SqL.of ((same_new hp) _ _ ha)⟩, fun D hD => lcS (K := K) (walk_list (xs := xs)) hD (by omega) (fun ds => ds = ((st.take ds.length).map fun e => ((e.2 : Nat) : Int)).map PyData.int) rfl (fun H' s => SqL.of (s _ _ ((same_new hp) _ _ ha))) ?_ ?_⟩⟩
  · rintro i x H1 H1 ds R hi s1 ⟨rfl, gx⟩ jd len r
    obtain ⟨d, gd, dx⟩ := DtAll.getX da gx
    rw [List.getElem?_map] at gd
    cases e0 : st[i]? with
    | none => rw [e0] at gd; cases gd
    | some e =>
    rw [e0] at gd
    cases gd
    unfold HdD at dx
    obtain ⟨a1, u1, w1, rfl, hs1, j1, j2⟩ := Dt.t2 ((dx.same (same_new hp)).same s1)
    obtain rfl := j2.i
    refine ⟨rfl, vTx rfl hs1 rfl (r (.int (e.2 : Nat)) _ H1 (Same.refl _) (.int _) ?_)⟩
    rw [List.length_append, len, show i + [PyData.int ((e.2 : Nat) : Int)].length = i + 1 from rfl, List.take_add_one, e0, List.map_append, List.map_append]
    rw [len] at jd
    rw [← jd]; rfl
  · rintro H1 ws ds s1 hws dws len jd
    rw [len, lx, List.take_length] at jd
    obtain rfl : ws = (st.map fun e => ((e.2 : Nat) : Int)).map V.int := DtAll.intsE (K := K) (H := H1) (by rw [← jd]; exact dws)
    have hpL : H1 p = some (.lst [.int (-1)]) := s1 _ _ upd_same
    refine ⟨p, D, _, _, rfl, rfl, hpL, hws, by rw [List.length_map, List.length_map]; exact small (by show 1 + _ ≤ _; omega), fun p2 hp2 => ?_⟩
    refine ⟨p2, (-1) :: (st.map fun e => ((e.2 : Nat) : Int)), rfl, SqL.of (by rw [upd_same]; rfl), by simp, fun m hm hmax => ⟨_, _, rfl, rfl, ?_⟩⟩
    have m0 : -1 ≤ m := hmax _ List.mem_cons_self
    have hn : 1 + m = ((hiN st : Nat) : Int) := by
      have h1 : ((hiN st : Nat) : Int) ≤ 1 + m := by
        have := hiN_le (n := (1 + m).toNat) (st := st) fun e he => by
          have := hmax ((e.2 : Nat) : Int) (List.mem_cons_of_mem _ (List.mem_map.mpr ⟨e, he, rfl⟩))
          omega
        omega
      rcases List.mem_cons.mp hm with e | h
      · omega
      · obtain ⟨e, he, rfl⟩ := List.mem_map.mp h
        have := le_hiN he
        omega
    show Q (.int (1 + m)) _
    rw [hn]
    exact q _ (((same_new hp).trans s1).trans (same_new hp2))
theorem ok_grown {f : Addr} {fd : FuncData} (F : Fun K "_law_grown" "_law_grown" s_law_grown f fd) (T : TxtK K mg) (C_law_take : C8.Cal P w K mg base 2 "_law_take" (spTake 2) []) (C_law_leaf : C8.Cal P w K mg base 4 "_law_leaf" (spLeaf K) []) (C_law_high : C8.Cal P w K mg base 1 "_law_high" (spHigh K) []) :
    FnOk P w K mg base CX0 5 f fd ["pool", "stack", "signature", "words", "metas"] (spGrown K) := by
  refine F.ok sc_law_grown (fun vs H Q E h => ?_) (fun cdv A outer s H vs Q E hr h => ?_)
  · obtain ⟨_, _, _, _, _, _, _, _, _, _, _, _, rfl, _⟩ := h
    rfl
  obtain ⟨l, c, S, psg, pw, pm, xs, st, sig, ws, ms, sh, rfl, P0, nS, hS, dst, lst, nsg, hsg, sok, W, nw, M, sto, q⟩ := h
  refine ⟨_, (pss_cons (ps_set (i := 5) sc_law_grown.nd rfl (Or.inl rfl) (pe_callTy (call_listD (by rfl)) (by rfl) T.z_list (by decide +kernel) (pa_cons (pv 2) pa_nil)))
    (pss_cons (ps_set (i := 6) sc_law_grown.nd rfl (Or.inl rfl) (C8.pe_c C_law_take hr (by decide) rfl (pa_cons (pv 0) (pa_cons (pe_op op_add pe_int (pe_callB call_len_seq (by rfl) T.z_len (by decide +kernel) (pa_cons (pv 5) pa_nil))) pa_nil))))
    (pss_cons (ps_if (pt_cmpR op_lt (pv 6) pe_int (nomark _)) (pss_one (ps_ret (pe_op op_cat (pv 1) (pe_lst (pa_cons (pe_tup (pa_cons (C8.pe_c C_law_leaf hr (by decide) rfl (pa_cons (pv 0) (pa_cons (pv 3) (pa_cons (pv 4) pa_nil)))) (pa_cons pe_int pa_nil))) pa_nil))))) pss_nil)
    (pss_cons (ps_set (i := 7) sc_law_grown.nd rfl (Or.inl rfl) (C8.pe_c C_law_take hr (by decide) rfl (pa_cons (pv 0) (pa_cons pe_int pa_nil))))
    (C8.pss_cut (ps_if (pt_cmpR op_gt (pv 6) pe_int (nomark _)) (pss_one (ps_set (i := 7) sc_law_grown.nd rfl (Or.inl rfl) (pe_dget (hu_of hr) (pv 2) (pe_ix ix_list (pv 5) (pe_op op_sub (pv 6) pe_int) (fun _ _ => rfl)) (fun _ _ => rfl)))) pss_nil)
    (pss_cons (ps_set (i := 8) sc_law_grown.nd rfl (Or.inl rfl) (pe_slice sl_list (pv 1) (po_some (pe_op op_sub (pe_callB call_len_seq (by rfl) T.z_len (by decide +kernel) (pa_cons (pv 1) pa_nil)) (pe_callB (call_min2 (by rfl)) (by rfl) T.z_min (by decide +kernel) (pa_cons (pv 7) (pa_cons (pe_callB call_len_seq (by rfl) T.z_len (by decide +kernel) (pa_cons (pv 1) pa_nil)) pa_nil))))) po_none))
    (pss_cons (ps_if (PW.pt (pw_or (pt_cmpR op_lt (pe_callB call_len_seq (by rfl) T.z_len (by decide +kernel) (pa_cons (pv 8) pa_nil)) (pv 7) (nomark _)) (pw_or1 (pt_cmpR op_gt (C8.pe_c C_law_high hr (by decide) rfl (pa_cons (pv 8) pa_nil)) pe_int (nomark _))))) (pss_one (ps_ret (pe_op op_cat (pv 1) (pe_lst (pa_cons (pe_tup (pa_cons (C8.pe_c C_law_leaf hr (by decide) rfl (pa_cons (pv 0) (pa_cons (pv 3) (pa_cons (pv 4) pa_nil)))) (pa_cons pe_int pa_nil))) pa_nil))))) pss_nil)
    (pss_cons (ps_set (i := 9) sc_law_grown.nd rfl (Or.inr rfl) (pe_lc (own := [("part", 13)]) (g := (gName 13)) (tt := tYes) (by rfl) sc_law_grown.nd (pi_list (pv 8)) (blkOk_by (N := ["pool", "stack", "signature", "words", "metas", "names", "kind", "many", "parts", "terms", "rest", "chosen", "entries", "part", "k"]) (sc := defScope s_law_grown) (by decide +kernel)) (fun _ _ _ _ _ => (pg_name (i := 13) sc_law_grown.nd rfl (Or.inl rfl))) (fun _ _ _ _ _ => pts_nil) (fun _ _ _ _ _ => (pe_ix (r := rIxT K) ix_tup (pv 13) pe_int (fun _ _ => rfl)))))
    (pss_cons (ps_set (i := 10) sc_law_grown.nd rfl (Or.inl rfl) (pe_slice sl_list (pv 1) po_none (po_some (pe_op op_sub (pe_callB call_len_seq (by rfl) T.z_len (by decide +kernel) (pa_cons (pv 1) pa_nil)) (pv 7)))))
    (C8.pss_cut (ps_if (pt_cmpR op_gt (pv 6) pe_int (nomark _)) (pss_one (ps_ret (pe_op op_cat (pv 10) (pe_lst (pa_cons (pe_tup (pa_cons (pe_tup (pa_cons pe_str (pa_cons (pe_ix ix_list (pv 5) (pe_op op_sub (pv 6) pe_int) (fun _ _ => rfl)) (pa_cons (pe_callTy call_tuple_of (by rfl) T.z_tuple (by decide +kernel) (pa_cons (pv 9) pa_nil)) pa_nil)))) (pa_cons (C8.pe_c C_law_high hr (by decide) rfl (pa_cons (pv 8) pa_nil)) pa_nil))) pa_nil))))) pss_nil)
    (pss_cons (ps_set (i := 11) sc_law_grown.nd rfl (Or.inr rfl) (pe_callB (PKT.cr_sortX (by rfl)) (by rfl) T.z_sorted (by decide +kernel) (pa_cons (pe_callTy (PKT.cr_setS (by rfl)) (by rfl) T.z_set (by decide +kernel) (pa_cons (pe_lc (own := [("k", 14)]) (g := (gName 14)) (tt := tYes) (by rfl) sc_law_grown.nd (pi_range1 (by rfl) T.z_range (pa_cons (pv 7) pa_nil)) (blkOk_by (N := ["pool", "stack", "signature", "words", "metas", "names", "kind", "many", "parts", "terms", "rest", "chosen", "entries", "part", "k"]) (sc := defScope s_law_grown) (by decide +kernel)) (fun _ _ _ _ _ => (pg_name (i := 14) sc_law_grown.nd rfl (Or.inl rfl))) (fun _ _ _ _ _ => pts_nil) (fun _ _ _ _ _ => (pe_ix (r := rIxL K) ix_list (pv 3) (C8.pe_c C_law_take hr (by decide) rfl (pa_cons (pv 0) (pa_cons (pe_callB (id := "len") (r := rLenS K) call_lenS (by rfl) T.z_len (by decide +kernel) (pa_cons (pv 3) pa_nil)) pa_nil))) (fun _ _ => rfl)))) pa_nil)) pa_nil)))
    (pss_cons (ps_set (i := 12) sc_law_grown.nd rfl (Or.inl rfl) (pe_callTy call_tuple_of (by rfl) T.z_tuple (by decide +kernel) (pa_cons (pe_lc (own := [("k", 14)]) (g := (gName 14)) (tt := tYes) (by rfl) sc_law_grown.nd (pi_range1 (by rfl) T.z_range (pa_cons (pe_callB call_len_seq (by rfl) T.z_len (by decide +kernel) (pa_cons (pv 11) pa_nil)) pa_nil)) (blkOk_by (N := ["pool", "stack", "signature", "words", "metas", "names", "kind", "many", "parts", "terms", "rest", "chosen", "entries", "part", "k"]) (sc := defScope s_law_grown) (by decide +kernel)) (fun _ _ _ _ _ => (pg_name (i := 14) sc_law_grown.nd rfl (Or.inl rfl))) (fun _ _ _ _ _ => pts_nil) (fun _ _ _ _ _ => (pe_tup (pa_cons (pe_ix (r := rIxL K) ix_list (pv 11) (pv 14) (fun _ _ => rfl)) (pa_cons (pe_ix (r := rIxL K) ix_list (pv 9) (pv 14) (fun _ _ => rfl)) pa_nil))))) pa_nil)))
    (pss_one (ps_ret (pe_op op_cat (pv 10) (pe_lst (pa_cons (pe_tup (pa_cons (pe_tup (pa_cons pe_str (pa_cons (pv 12) pa_nil))) (pa_cons (C8.pe_c C_law_high hr (by decide) rfl (pa_cons (pv 8) pa_nil)) pa_nil))) pa_nil))))))))))))))))), ?_⟩
  have lx : xs.length = st.length := by rw [dst.lenD, List.length_map]
  refine ⟨_, rfl, psg, sigK sig, rfl, .inl hsg, fun N hN => ?_⟩
  have x0 := (Ext.refl P0).new (o := .lst ((sigK sig).map fun kv => kV kv.1)) P0 hN
  have nN : N ≠ l := (P0.ne hN).1
  have lsg := sok.1
  refine ⟨_, rfl, _, rfl, N, _, rfl, .inl (SqL.of upd_same), _, _, rfl, rfl, ?_⟩
  have lsg' : ((sigK sig).map fun kv => kV kv.1).length = sig.length := by unfold sigK; rw [List.length_map, List.length_map]
  have hN1 : (sigK sig).map (fun kv => kV kv.1) = sig.map fun e => V.str e.1 := by unfold sigK; rw [List.map_map]; rfl
  rw [hN1] at x0
  rw [show (fun kv => kV kv.1) = (fun (kv : Key × V) => kV kv.1) from rfl, hN1]
  refine ⟨l, c, 3 + (((sigK sig).map fun kv => kV kv.1).length : Nat), False, by rw [hN1]; rfl, x0.pool, by omega, by omega, .inl (Nat.le_refl 2), fun kd H1 k0 k1 x1 => ?_⟩
  have leafEnd : ∀ {D : Ends} {σ : L2.St} {Hx : Hp}, D.rt = Q → σ[0]? = some (some (.ref l)) → σ[1]? = some (some (.ref S)) → σ[3]? = some (some (.ref pw)) → σ[4]? = some (some (.ref pm)) → Ext l c H Hx →
      tRet (tOp rCat (tVar 1) (tLst (tCons (tTup (tCons (tCall (spLeaf K) [] C8.E0 (tCons (tVar 0) (tCons (tVar 3) (tCons (tVar 4) tNil)))) (tCons (tC (.int 0)) tNil))) tNil))) D σ Hx := fun {D σ Hx} eD h0 h1 h3 h4 x => by
    refine ⟨_, h1, _, h0, _, h3, _, h4, l, c, pw, pm, ws, ms, rfl, x.pool, W.ext x, nw, M.ext x, fun v t H2 y dv tl hk => ⟨small (by show 2 ≤ _; decide), fun p hp => ⟨small (by show 1 ≤ _; decide), fun p2 hp2 => ?_⟩⟩⟩
    have y1 := x.trans y
    have y2 := y1.new (o := .tup [v, .int 0]) P0 hp
    have y3 := y2.new (o := .lst [.ref p]) P0 hp2
    have hS3 := y3.keep _ _ nS hS
    refine ⟨S, p2, xs, _, rfl, rfl, hS3, upd_same, by rw [lx]; exact small (by show _ + 1 ≤ _; omega), fun p3 hp3 => ?_⟩
    have y4 := y3.new (o := .lst (xs ++ [.ref p])) P0 hp3
    rw [eD]
    refine q _ p3 _ (st ++ [(t, 0)]) y4 (y3.pool.ne hp3).1 upd_same ?_ (fun e he => ?_) (by simp) ?_ (by rw [List.length_append]; exact Nat.le_refl _)
    · rw [List.map_append]
      refine (dst.ext P0 y4).append (.cons ?_ .nil)
      have d1 : Dt K (upd H2 p (.tup [v, .int 0])) (.ref p) (HdD (t, 0)) := Dt.mk2 hp dv (.int 0)
      exact (d1.new hp2).new hp3
    · rcases List.mem_append.mp he with h | h
      · exact sto e h
      · rw [List.mem_singleton.mp h]
        exact ⟨.leaf (tl sig) hk, by rw [Tm.ht_eq, hk]; exact Nat.le_refl _, Nat.zero_le _⟩
    · rw [tot_app]
      have : t.size = 1 := by rw [Tm.size_eq, hk]; rfl
      show tot st + (t.size + 0) ≤ _
      omega
  refine ⟨_, rfl, _, _, rfl, rfl, _, rfl, ite2 (fun e => leafEnd rfl rfl rfl rfl rfl (x0.trans x1)) (fun e => ?_)⟩
  have kd2 : 2 ≤ kd := by have := of_decide_eq_false (Bool.eq_false_iff.mpr e); omega
  refine vTake rfl x1.pool (by decide) (by decide) fun m0 H2 m00 m6 x2 => ?_
  have x02 := (x0.trans x1).trans x2
  have hN2 := x2.keep _ _ nN (x1.keep _ _ nN upd_same)
  refine ⟨fun σ' H' => ∃ many : Nat, many ≤ 8 ∧ (2 < kd → ∃ cn, sig[(kd - 3).toNat]? = some (cn, many)) ∧ σ' = [some (.ref l), some (.ref S), some (.ref psg), some (.ref pw), some (.ref pm), some (.ref N), some (.int kd), some (.int many), none, none, none, none, none, none, none] ∧ H' = H2, ?_, ?_⟩
  · refine ⟨_, rfl, _, _, rfl, rfl, _, rfl, ite2 (fun e2 => ?_) (fun e2 => ?_)⟩
    · have k3 : 2 < kd := of_decide_eq_true e2
      rw [lsg'] at k1
      obtain ⟨j, ej⟩ : ∃ j : Nat, kd - 3 = j := ⟨(kd - 3).toNat, by omega⟩
      have hj : j < sig.length := by omega
      have gj : sig[j]? = some sig[j] := List.getElem?_eq_getElem hj
      refine ⟨_, rfl, _, rfl, ⟨_, rfl, _, _, rfl, rfl, N, _, kd - 3, _, rfl, rfl, SqL.of hN2, by rw [ej]; exact atI_nat (by rw [List.getElem?_map, gj]; rfl), ?_⟩⟩
      refine ⟨psg, .int (sig[j].2 : Nat), rfl, ?_, sig[j].2, (sok.2 j _ gj).2.2.2, fun _ => ⟨sig[j].1, by rw [ej]; exact gj⟩, rfl, rfl⟩
      have := DGet.k (k := Sum.inr sig[j].1) (x02.keep _ _ nsg hsg)
      rw [sig_get sok gj] at this
      exact this
    · have : ¬ 2 < kd := of_decide_eq_false (Bool.eq_false_iff.mpr e2)
      exact ⟨m0.toNat, by omega, fun z => absurd z this, by rw [show ((m0.toNat : Nat) : Int) = m0 by omega]; rfl, rfl⟩
  rintro σ' H' ⟨many, hm8, hcn, rfl, rfl⟩
  have hS2 := x02.keep _ _ nS hS
  refine ⟨_, rfl, ⟨_, rfl, S, _, rfl, .inl (SqL.of hS2), ⟨_, rfl, _, rfl, S, _, rfl, .inl (SqL.of hS2), _, _, rfl, _, _, rfl, rfl, _, rfl, S, xs, rfl, SqL.of hS2, fun Pp hPp => ?_⟩⟩⟩
  obtain ⟨dd, edd⟩ : ∃ dd : Nat, dd = xs.length - min many xs.length := ⟨_, rfl⟩
  have ei : ((xs.length : Nat) : Int) - (if ((xs.length : Nat) : Int) < (many : Int) then ((xs.length : Nat) : Int) else (many : Int)) = (dd : Int) := by
    split <;> omega
  rw [ei, cut_drop xs dd (by omega)]
  have x3 := x02.new (o := .lst (xs.drop dd)) P0 hPp
  have nP : Pp ≠ l := (x02.pool.ne hPp).1
  have hP3 : (upd H' Pp (.lst (xs.drop dd))) Pp = some (.lst (xs.drop dd)) := upd_same
  have hN3 := (same_new (o := .lst (xs.drop dd)) hPp) _ _ hN2
  generalize upd H' Pp (.lst (xs.drop dd)) = H3 at x3 hP3 hN3 ⊢
  have dP : DtAll K H3 (xs.drop dd) ((st.drop dd).map HdD) := by rw [List.map_drop]; exact (dst.ext P0 x3).dropD dd
  refine ⟨_, rfl, Pp, _, rfl, .inl (SqL.of hP3), _, rfl, _, _, rfl, rfl, _, rfl, ite2 (fun e2 => iteT (leafEnd rfl rfl rfl rfl rfl x3)) (fun e2 => ?_)⟩
  have lP : (xs.drop dd).length = many := by
    have := of_decide_eq_false (Bool.eq_false_iff.mpr e2)
    rw [List.length_drop] at this ⊢
    omega
  have lm : many ≤ xs.length := by rw [List.length_drop] at lP; omega
  refine ⟨_, rfl, Pp, _, st.drop dd, rfl, hP3, dP, by rw [List.length_drop]; omega, fun H4 s4 => ⟨_, _, rfl, rfl, _, rfl, ite2 (fun e3 => leafEnd rfl rfl rfl rfl rfl (x3.same s4)) (fun e3 => ?_)⟩⟩
  have hi50 : hiN (st.drop dd) ≤ 50 := by have := of_decide_eq_false (Bool.eq_false_iff.mpr e3); omega
  have x4 := x3.same s4
  have hP4 := s4 _ _ hP3
  have dP4 := dP.same s4
  clear leafEnd
  refine ⟨_, rfl, Pp, rfl, ⟨_, SqL.of hP4⟩, fun D hD => lcS (K := K) (walk_list (xs := xs.drop dd)) hD (by omega) (fun ds => ds = ((st.drop dd).take ds.length).map fun e => e.1.d) rfl (fun H' s => SqL.of (s _ _ hP4)) ?_ ?_⟩
  · rintro i x H1 H1 ds R hi s1 ⟨rfl, gx⟩ jd len r
    obtain ⟨d, gd, dx⟩ := DtAll.getX dP4 gx
    rw [List.getElem?_map] at gd
    cases e0 : (st.drop dd)[i]? with
    | none => rw [e0] at gd; cases gd
    | some e =>
    rw [e0] at gd
    cases gd
    unfold HdD at dx
    obtain ⟨a1, u1, w1, rfl, hs1, j1, j2⟩ := Dt.t2 (dx.same s1)
    refine ⟨rfl, vTx rfl hs1 rfl (r e.1.d _ H1 (Same.refl _) j1 ?_)⟩
    rw [List.length_append, len, show i + [e.1.d].length = i + 1 from rfl, List.take_add_one, e0, List.map_append]
    rw [len] at jd
    rw [← jd]; rfl
  rintro H5 wts ds s5 hD5 dts len jd
  rw [len, show (xs.drop dd).length = (st.drop dd).length by rw [List.length_drop, List.length_drop, lx], List.take_length] at jd
  subst jd
  have x5 := x4.same s5
  have nD : D ≠ l := (x4.pool.ne hD).1
  have hS5 := x5.keep _ _ nS hS
  refine ⟨_, rfl, ⟨_, rfl, S, _, rfl, .inl (SqL.of hS5), _, rfl, _, _, rfl, rfl, _, rfl, S, xs, rfl, SqL.of hS5, fun R hR => ?_⟩⟩
  have ei2 : ((xs.length : Nat) : Int) - (many : Int) = (dd : Int) := by omega
  rw [ei2, cut_take xs dd (by omega)]
  have x6 := x5.new (o := .lst (xs.take dd)) P0 hR
  have nR : R ≠ l := (x5.pool.ne hR).1
  have hR6 : (upd H5 R (.lst (xs.take dd))) R = some (.lst (xs.take dd)) := upd_same
  have s46 : Same H4 (upd H5 R (.lst (xs.take dd))) := s5.trans (same_new hR)
  have hD6 : (upd H5 R (.lst (xs.take dd))) D = some (.lst wts) := (same_new hR) _ _ hD5
  have dts6 := dts.same (same_new (o := .lst (xs.take dd)) hR)
  generalize upd H5 R (.lst (xs.take dd)) = H6 at x6 hR6 s46 hD6 dts6 ⊢
  have hP6 := s46 _ _ hP4
  have dP6 := dP4.same s46
  have hN6 := s46 _ _ (s4 _ _ hN3)
  have totd : tot (st.take dd) + tot (st.drop dd) = tot st := by rw [← tot_app, List.take_append_drop]
  have kok : ∀ e ∈ st.drop dd, TOk sig ms e.1 ∧ e.1.ht ≤ hiN (st.drop dd) := fun e he => by
    have o := sto e (List.mem_of_mem_drop he)
    have := le_hiN he
    have := o.ht
    exact ⟨o.ok, by omega⟩
  have lst2 : (st.drop dd).length = many := by rw [List.length_drop, ← lx, ← List.length_drop]; exact lP
  -- what is told at the end
  have done : ∀ (Hx : Hp) (p p2 p3 : Addr) (v : V) (t : Tm), Ext l c H Hx → Dt K Hx v t.d → TOk sig ms t → t.ht ≤ hiN (st.drop dd) + 1 → t.size ≤ 1 + tot (st.drop dd) → Hx p = none → (upd Hx p (.tup [v, .int (hiN (st.drop dd) : Nat)])) p2 = none → (upd (upd Hx p (.tup [v, .int (hiN (st.drop dd) : Nat)])) p2 (.lst [.ref p])) p3 = none →
      Q (.ref p3) (upd (upd (upd Hx p (.tup [v, .int (hiN (st.drop dd) : Nat)])) p2 (.lst [.ref p])) p3 (.lst (xs.take dd ++ [.ref p]))) := fun Hx p p2 p3 v t x dv tok tht tsz hp hp2 hp3 => by
    have y2 := x.new (o := .tup [v, .int (hiN (st.drop dd) : Nat)]) P0 hp
    have y3 := y2.new (o := .lst [.ref p]) P0 hp2
    have y4 := y3.new (o := .lst (xs.take dd ++ [.ref p])) P0 hp3
    refine q _ p3 _ (st.take dd ++ [(t, hiN (st.drop dd))]) y4 (y3.pool.ne hp3).1 upd_same ?_ (fun e he => ?_) (by simp) ?_ ?_
    · rw [List.map_append, List.map_take]
      refine ((dst.ext P0 y4).takeD dd).append (.cons ?_ .nil)
      have d1 : Dt K (upd Hx p (.tup [v, .int (hiN (st.drop dd) : Nat)])) (.ref p) (HdD (t, hiN (st.drop dd))) := Dt.mk2 hp dv (.int _)
      exact (d1.new hp2).new hp3
    · rcases List.mem_append.mp he with h | h
      · exact sto e (List.mem_of_mem_take h)
      · rw [List.mem_singleton.mp h]
        exact ⟨tok, tht, by show hiN _ ≤ 51; omega⟩
    · rw [tot_app]
      show tot (st.take dd) + (t.size + 0) ≤ _
      omega
    · rw [List.length_append, List.length_take]
      show min dd st.length + 1 ≤ _
      omega
  have lt := xs.length_take_le dd
  refine ⟨fun σ' H' => ¬ 2 < kd ∧ σ' = [some (.ref l), some (.ref S), some (.ref psg), some (.ref pw), some (.ref pm), some (.ref N), some (.int kd), some (.int many), some (.ref Pp), some (.ref D), some (.ref R), none, none, none, none] ∧ H' = H6, ?_, ?_⟩
  · refine ⟨_, rfl, _, _, rfl, rfl, _, rfl, ite2 (fun e4 => ?_) (fun e4 => ⟨of_decide_eq_false (Bool.eq_false_iff.mpr e4), rfl, rfl⟩)⟩
    have k3 : 2 < kd := of_decide_eq_true e4
    obtain ⟨cn, hcn⟩ := hcn k3
    obtain ⟨j, ej⟩ : ∃ j : Nat, kd - 3 = j := ⟨(kd - 3).toNat, by omega⟩
    have hcn' : sig[j]? = some (cn, many) := by rw [ej] at hcn; exact hcn
    refine ⟨_, rfl, _, rfl, ⟨_, rfl, _, _, rfl, rfl, N, _, kd - 3, _, rfl, rfl, SqL.of hN6, by rw [ej]; exact atI_nat (by rw [List.getElem?_map, hcn']; rfl), ?_⟩⟩
    refine ⟨_, rfl, D, _, rfl, .inl ⟨SqL.of hD6, fun p1 hp1 => ⟨small (by show 3 ≤ _; decide), fun p2 hp2 => ?_⟩⟩⟩
    have s2 := (same_new (o := .tup wts) hp1).trans (same_new (o := .tup [.str "node", .str cn, .ref p1]) hp2)
    refine ⟨_, rfl, Pp, _, st.drop dd, rfl, s2 _ _ hP6, dP6.same s2, by omega, fun H7 s7 => ⟨small (by show 2 ≤ _; decide), fun p3 hp3 => ⟨small (by show 1 ≤ _; decide), fun p4 hp4 => ?_⟩⟩⟩
    have s3 := ((s2.trans s7).trans (same_new (o := .tup [.ref p2, .int (hiN (st.drop dd) : Nat)]) hp3)).trans (same_new (o := .lst [.ref p3]) hp4)
    refine ⟨R, p4, _, _, rfl, rfl, s3 _ _ hR6, upd_same, small (by show _ + 1 ≤ _; omega), fun p5 hp5 => ?_⟩
    refine done H7 p3 p4 p5 (.ref p2) (.node cn ((st.drop dd).map Prod.fst)) (x6.same (s2.trans s7)) ?_ ?_ ?_ ?_ hp3 hp4 hp5
    · refine Dt.same ?_ s7
      unfold Tm.d
      rw [Tm.ds_map, List.map_map]
      exact Dt.mk3 hp2 (.str _) (.str _) (.tup (SqT.of upd_same) (dts6.same (same_new hp1)))
    · refine .mk ⟨(sok.2 j _ hcn').1, ?_, ?_⟩ fun k hk => ?_
      · rw [List.length_map, lst2]; exact List.mem_of_getElem? hcn'
      · rw [List.length_map, lst2]; exact hm8
      · obtain ⟨e, he, rfl⟩ := List.mem_map.mp hk
        exact (kok e he).1
    · refine Tm.ht_le fun k hk => ?_
      obtain ⟨e, he, rfl⟩ := List.mem_map.mp hk
      exact (kok e he).2
    · rw [Tm.size_eq]
      show 1 + (((st.drop dd).map Prod.fst).map Tm.size).sum ≤ _
      rw [List.map_map]
      exact Nat.le_refl _
  rintro σ' H' ⟨nk, rfl, rfl⟩
  refine ⟨_, rfl, many, rfl, by omega, by omega, fun D2 hD2 => lcX (K := K) (walk_range (lo := 0) (n := ((many : Nat) : Int).toNat)) x6.pool hD2 (by omega) (fun ds => ∃ ss : List Str, ds = ss.map PyData.str ∧ ∀ s ∈ ss, s ∈ ws) ⟨[], rfl, fun _ h => absurd h List.not_mem_nil⟩ (fun _ _ => trivial) ?_ ?_⟩
  · rintro i x H7 H7 ds R' hi x7 ⟨rfl, rfl⟩ ⟨ss, rfl, hss⟩ len r
    have W7 := (W.ext x6).ext x7
    have lw := W7.le
    have lw0 : 0 < ws.length := List.length_pos_iff.mpr nw.1
    refine ⟨rfl, _, rfl, _, rfl, _, rfl, pw, ws.map V.str, rfl, .inl (SqL.of W7.at_), l, c, ((ws.map V.str).length : Nat), False, rfl, x7.pool, by rw [List.length_map]; omega, by rw [List.length_map]; omega, .inl (Nat.le_refl 2), fun a H8 a0 a1 x8 => ?_⟩
    rw [List.length_map] at a1
    refine (W7.ext x8).ix a0 a1 fun s hs => r (.str s) _ _ x8 (.str s) ⟨ss ++ [s], by rw [List.map_append]; rfl, fun z hz => ?_⟩
    rcases List.mem_append.mp hz with h | h
    · exact hss z h
    · rw [List.mem_singleton.mp h]; exact hs
  rintro H7 vs7 ds7 x7 hv7 da7 len7 ⟨ss, rfl, hss⟩
  rw [List.length_map] at len7
  obtain rfl : vs7 = ss.map V.str := da7.strsE
  refine ⟨D2, ss, rfl, SqL.of hv7, by omega, fun a l' ha met nd => ⟨a, l', rfl, upd_same, by have := met.1; omega, fun zs p per srt hp => ?_⟩⟩
  have lz : zs.length ≤ many := by have := met.1; rw [per.length_eq]; omega
  have zw : ∀ z ∈ zs, z ∈ ws := fun z hz => hss z (List.mem_of_mem_take ((met.2 z).mp (per.mem_iff.mp hz)))
  have x9 := ((x6.trans x7).new (o := PKT.SetX _ _ a l') P0 ha).new (o := .lst (zs.map V.str)) P0 hp
  have nl : ∀ {q : Addr} {o : HO}, q ≠ l → H' q = some o → (upd (upd H7 a (PKT.SetX P w a l')) p (.lst (zs.map V.str))) q = some o := fun {q o} hq e => by
    have e7 := x7.keep _ _ hq e
    have e8 := (same_new (o := PKT.SetX P w a l') ha) _ _ e7
    exact (same_new (o := .lst (zs.map V.str)) hp) _ _ e8
  have hp9 : (upd (upd H7 a (PKT.SetX P w a l')) p (.lst (zs.map V.str))) p = some (.lst (zs.map V.str)) := upd_same
  have hD9 := nl nD hD6
  have hR9 := nl nR hR6
  have hP9 := nl nP hP6
  have seq9 : ∀ {vs : List V} {ds : List PyData}, DtAll K H' vs ds → DtAll K (upd (upd H7 a (PKT.SetX P w a l')) p (.lst (zs.map V.str))) vs ds := fun h => ((h.ext x6.pool x7).same (same_new ha)).same (same_new hp)
  have dts9 := seq9 dts6
  have dP9 := seq9 dP6
  have lt2 : wts.length = many := by rw [dts9.lenD, List.length_map, lst2]
  have lzt : (zs.zip ((st.drop dd).map Prod.fst)).length = zs.length := by rw [List.length_zip, List.length_map, lst2]; omega
  refine ⟨_, rfl, p, _, rfl, .inl (SqL.of hp9), _, rfl, by rw [List.length_map]; omega, by rw [List.length_map]; omega, fun D3 hD3 => lcS (K := K) (walk_range (lo := 0) (n := (((zs.map V.str).length : Nat) : Int).toNat)) hD3 (by rw [List.length_map]; omega) (fun ds => ds = ((zs.zip ((st.drop dd).map Prod.fst)).take ds.length).map Tm.ent) rfl (fun _ _ => trivial) ?_ ?_⟩
  · rintro i x H1 H1 ds R' hi s1 ⟨rfl, rfl⟩ jd len r
    rw [List.length_map] at hi
    have hi' : i < zs.length := by omega
    have gz : zs[i]? = some zs[i] := List.getElem?_eq_getElem hi'
    have gt : ((st.drop dd).map fun e => e.1.d)[i]? = some ((st.drop dd)[i]'(by omega)).1.d := by rw [List.getElem?_map, List.getElem?_eq_getElem (by omega)]; rfl
    obtain ⟨y, gy, dy⟩ := DtAll.getD dts9 gt
    have e0 : (0 : Int) + (i : Int) = (i : Int) := Int.zero_add _
    refine ⟨rfl, _, rfl, _, rfl, p, _, (0 : Int) + (i : Int), _, rfl, rfl, SqL.of (s1 _ _ hp9), by rw [e0]; exact atI_nat (by rw [List.getElem?_map, gz]; rfl), _, rfl, _, rfl, D, _, (0 : Int) + (i : Int), _, rfl, rfl, SqL.of (s1 _ _ hD9), by rw [e0]; exact atI_nat gy, small (by show 2 ≤ _; decide), fun q2 hq2 => ?_⟩
    refine r (Tm.ent (zs[i], ((st.drop dd)[i]'(by omega)).1)) _ _ (same_new hq2) (Dt.mk2 hq2 (.str _) (dy.same s1)) ?_
    have gzip : (zs.zip ((st.drop dd).map Prod.fst))[i]? = some (zs[i], ((st.drop dd)[i]'(by omega)).1) := by
      rw [List.getElem?_zip_eq_some]
      exact ⟨gz, by rw [List.getElem?_map, List.getElem?_eq_getElem (by omega)]; rfl⟩
    rw [List.length_append, len, show i + [Tm.ent (zs[i], ((st.drop dd)[i]'(by omega)).1)].length = i + 1 from rfl, List.take_add_one, gzip, List.map_append]
    rw [len] at jd
    rw [← jd]; rfl
  rintro H10 vs10 ds10 s10 hv10 da10 len10 jd
  rw [len10, List.length_map, show (((zs.length : Nat) : Int)).toNat = (zs.zip ((st.drop dd).map Prod.fst)).length by rw [lzt]; omega, List.take_length] at jd
  subst jd
  refine ⟨D3, _, rfl, .inl ⟨SqL.of hv10, fun p5 hp5 => ?_⟩⟩
  refine ⟨_, rfl, _, rfl, small (by show 2 ≤ _; decide), fun p6 hp6 => ?_⟩
  have s11 := (s10.trans (same_new (o := .tup vs10) hp5)).trans (same_new (o := .tup [.str "map", .ref p5]) hp6)
  refine ⟨_, rfl, Pp, _, st.drop dd, rfl, s11 _ _ hP9, dP9.same s11, by omega, fun H12 s12 => ⟨small (by show 2 ≤ _; decide), fun p7 hp7 => ⟨small (by show 1 ≤ _; decide), fun p8 hp8 => ?_⟩⟩⟩
  have s13 := ((s11.trans s12).trans (same_new (o := .tup [.ref p6, .int (hiN (st.drop dd) : Nat)]) hp7)).trans (same_new (o := .lst [.ref p7]) hp8)
  refine ⟨R, p8, _, _, rfl, rfl, s13 _ _ hR9, upd_same, small (by show _ + 1 ≤ _; omega), fun p9 hp9 => ?_⟩
  have ekids : (Tm.map (zs.zip ((st.drop dd).map Prod.fst))).kids = ((st.drop dd).map Prod.fst).take zs.length := by
    show (zs.zip ((st.drop dd).map Prod.fst)).map Prod.snd = _
    exact zip_snd_take _ _
  refine done H12 p7 p8 p9 (.ref p6) (.map (zs.zip ((st.drop dd).map Prod.fst))) (x9.same (s11.trans s12)) ?_ ?_ ?_ ?_ hp7 hp8 hp9
  · refine Dt.same ?_ s12
    unfold Tm.d
    rw [Tm.es_map]
    exact Dt.mk2 hp6 (.str _) (.tup (SqT.of upd_same) (da10.same (same_new hp5)))
  · have ef : (zs.zip ((st.drop dd).map Prod.fst)).map Prod.fst = zs := by
      rw [List.map_fst_zip (by rw [List.length_map, lst2]; omega)]
    refine .mk ⟨by rw [lzt]; omega, fun e he => ⟨nw.2 _ (zw _ (List.of_mem_zip he).1), W.wd _ (zw _ (List.of_mem_zip he).1)⟩, by rw [ef]; exact per.nodup_iff.mpr nd, by rw [ef]; exact srt⟩ fun k hk => ?_
    rw [ekids] at hk
    obtain ⟨e, he, rfl⟩ := List.mem_map.mp (List.mem_of_mem_take hk)
    exact (kok e he).1
  · refine Tm.ht_le fun k hk => ?_
    rw [ekids] at hk
    obtain ⟨e, he, rfl⟩ := List.mem_map.mp (List.mem_of_mem_take hk)
    exact (kok e he).2
  · rw [Tm.size_eq, ekids]
    have key : ∀ (n : Nat) (l : List (Tm × Nat)), (((l.map Prod.fst).take n).map Tm.size).sum ≤ tot l := fun n l => by
      induction l generalizing n with
      | nil => simp [tot]
      | cons a r ih =>
        cases n with
        | zero => simp
        | succ n =>
          have := ih n
          show a.1.size + _ ≤ a.1.size + tot r
          exact Nat.add_le_add_left this _
    have := key zs.length (st.drop dd)
    omega
theorem ok_term {f : Addr} {fd : FuncData} (F : Fun K "_law_term" "_law_term" s_law_term f fd) (T : TxtK K mg) (C_law_take : C8.Cal P w K mg base 2 "_law_take" (spTake 2) []) (C_law_grown : C8.Cal P w K mg base 5 "_law_grown" (spGrown K) []) :
    FnOk P w K mg base CX0 6 f fd ["pool", "signature", "words", "metas", "most"] (spTerm K) := by
  refine F.ok sc_law_term (fun vs H Q E h => ?_) (fun cdv A outer s H vs Q E hr h => ?_)
  · obtain ⟨_, _, _, _, _, _, _, _, _, _, rfl, _⟩ := h
    rfl
  obtain ⟨l, c, psg, pw, pm, sig, ws, ms, sh, most, rfl, P0, nsg, hsg, sok, W, nw, M, m0, m1, q⟩ := h
  refine ⟨_, (pss_cons (ps_set (i := 5) sc_law_term.nd rfl (Or.inl rfl) (pe_lst pa_nil))
    (pss_cons (ps_for PassesOwn.never rfl (pi_range1 (by rfl) T.z_range (pa_cons (pe_op op_add pe_int (C8.pe_c C_law_take hr (by decide) rfl (pa_cons (pv 0) (pa_cons (pv 4) pa_nil)))) pa_nil)) (pg_name (i := 6) sc_law_term.nd rfl (Or.inl rfl)) (pss_one (ps_set (i := 5) sc_law_term.nd rfl (Or.inl rfl) (C8.pe_c C_law_grown hr (by decide) rfl (pa_cons (pv 0) (pa_cons (pv 5) (pa_cons (pv 1) (pa_cons (pv 2) (pa_cons (pv 3) pa_nil)))))))))
    (pss_one (ps_ret (pe_ix ix_tup (pe_ix ix_list (pv 5) (pe_un un_neg pe_int) (fun _ _ => rfl)) pe_int (fun _ _ => rfl)))))), ?_⟩
  refine ⟨Nat.zero_le _, fun S hS => ?_⟩
  have x0 := (Ext.refl P0).new (o := .lst []) P0 hS
  have nS : S ≠ l := (P0.ne hS).1
  refine ⟨_, rfl, _, rfl, l, c, (most : Nat), False, rfl, x0.pool, by omega, by omega, .inl (Nat.le_refl 2), fun d H1 d0 d1 x1 => ⟨_, _, rfl, rfl, 1 + d, rfl, by omega, by omega, for_range (lo := 0) (n := (1 + d).toNat) (fun i σ H' => ∃ (S : Addr) (xs : List V) (st : List (Tm × Nat)) (b : Option V), σ = [some (.ref l), some (.ref psg), some (.ref pw), some (.ref pm), some (.int (most : Nat)), some (.ref S), b] ∧ Ext l c H H' ∧ S ≠ l ∧ H' S = some (.lst xs) ∧ DtAll K H' xs (st.map HdD) ∧ (∀ e ∈ st, StOk sig ms e) ∧ tot st ≤ i ∧ st.length ≤ i ∧ (0 < i → st ≠ [])) ?_ ?_ ?_⟩⟩
  · exact ⟨S, [], [], none, rfl, x0.trans x1, nS, x1.keep _ _ nS upd_same, .nil, fun _ h => absurd h List.not_mem_nil, Nat.le_refl _, Nat.le_refl _, fun h => absurd h (Nat.lt_irrefl _)⟩
  · rintro i σ H' hi ⟨S, xs, st, b, rfl, x, nS, hS, ds, so, ht, hl, _⟩
    refine ⟨_, rfl, _, rfl, _, rfl, _, rfl, _, rfl, l, c, S, psg, pw, pm, xs, st, sig, ws, ms, sh, rfl, x.pool, nS, hS, ds, by omega, nsg, x.keep _ _ nsg hsg, sok, W.ext x, nw, M.ext x, so, fun H2 S' xs' st' x2 nS' hS' ds' so' ne' ht' hl' => ?_⟩
    exact ⟨S', xs', st', _, rfl, x.trans x2, nS', hS', ds', so', by omega, by omega, fun _ => ne'⟩
  · rintro σ H' ⟨S, xs, st, b, rfl, x, nS, hS, ds, so, ht, hl, hne⟩
    have ne := hne (by omega)
    have lx : xs.length = st.length := by rw [ds.lenD, List.length_map]
    have l0 : 0 < st.length := List.length_pos_iff.mpr ne
    have gl : st[st.length - 1]? = some (st[st.length - 1]'(by omega)) := List.getElem?_eq_getElem (by omega)
    obtain ⟨y, gy, dy⟩ := DtAll.getD ds (show (st.map HdD)[st.length - 1]? = some (HdD (st[st.length - 1]'(by omega))) by rw [List.getElem?_map, gl]; rfl)
    have hm := List.getElem_mem (l := st) (n := st.length - 1) (by omega)
    generalize st[st.length - 1]'(by omega) = e at gl dy hm
    unfold HdD at dy
    obtain ⟨a1, u1, w1, rfl, hs1, j1, j2⟩ := Dt.t2 dy
    have o := so e hm
    have sz : e.1.size ≤ tot st := by
      have key : ∀ l : List (Tm × Nat), e ∈ l → e.1.size ≤ tot l := fun l => by
        induction l with
        | nil => exact fun h => absurd h List.not_mem_nil
        | cons a r ih =>
          intro h
          show _ ≤ a.1.size + tot r
          rcases List.mem_cons.mp h with rfl | h
          · omega
          · have := ih h; omega
      exact key st hm
    refine ⟨_, rfl, _, rfl, S, xs, -1, _, rfl, rfl, SqL.of hS, ?_, a1, _, 0, _, rfl, rfl, hs1, rfl, q u1 e.1 H' x j1 o.ok (by have := o.ht; have := o.le; omega) (by omega)⟩
    have ne2 : xs ≠ [] := fun z => by rw [z] at lx; simp at lx; omega
    have gy' : xs[xs.length - 1]? = some (V.ref a1) := by rw [lx]; exact gy
    have e2 : xs.getLast ne2 = .ref a1 := by
      rw [List.getLast_eq_getElem]
      exact (List.getElem?_eq_some_iff.mp gy').2
    have := atI_last xs.dropLast (V.ref a1)
    rw [← e2, List.dropLast_concat_getLast ne2, e2] at this
    exact this
end
end PK
namespace PK
open PySem L2
section
variable {X : Cx} {x : Str} {p : Pos}
theorem pe_glI {n : Int} (hg : Gl X x) (h : ∃ t, X.mg x = some (.int n t)) (hd : (x == ("__debug__" : Str)) = false := by decide) : PE X (.Name x p) (tC (.int n)) := by
  obtain ⟨t, h⟩ := h
  exact pe_glob hg h ⟨_, rfl⟩ hd
theorem pe_glS {s : Str} (hg : Gl X x) (h : ∃ t, X.mg x = some (.str s t)) (hd : (x == ("__debug__" : Str)) = false := by decide) : PE X (.Name x p) (tC (.str s)) := by
  obtain ⟨t, h⟩ := h
  exact pe_glob hg h ⟨_, rfl⟩ hd
end
theorem le_le {i j k : Int} {H : Hp} {Q : Bool → Hp → Prop} (h : Q (decide (i ≤ j ∧ j ≤ k)) H) :
    ∃ a b, V.int i = .int a ∧ V.int j = .int b ∧ ∃ y, V.bl (decide (a ≤ b)) = .bl y ∧ (if y = true then ∃ a b, V.int j = .int a ∧ V.int k = .int b ∧ ∃ z, V.bl (decide (a ≤ b)) = .bl z ∧ Q z H else ∃ z, V.bl false = .bl z ∧ Q z H) := by
  refine ⟨_, _, rfl, rfl, _, rfl, ?_⟩
  by_cases e : i ≤ j
  · rw [decide_eq_true e]
    refine iteT ⟨_, _, rfl, rfl, _, rfl, ?_⟩
    by_cases f : j ≤ k
    · rw [decide_eq_true f]; rwa [decide_eq_true ⟨e, f⟩] at h
    · rw [decide_eq_false f]; rwa [decide_eq_false (fun z => f z.2)] at h
  · rw [decide_eq_false e]
    refine iteF ⟨_, rfl, ?_⟩
    rwa [decide_eq_false (fun z => e z.1)] at h
/-- a list or a tuple -/
def Sq (K : PySem.W.Frag) (H : Hp) (p : Addr) (xs : List V) : Prop := SqL K H p xs ∨ SqT K H p xs
theorem Sq.same {K : PySem.W.Frag} {H H' : Hp} {p : Addr} {xs : List V} (h : Sq K H p xs) (e : Same H H') : Sq K H' p xs := h.imp (fun q => e.seq q) fun q => Same.seqT e q
theorem for_seq {K : PySem.W.Frag} {i : Nat} {p : Addr} {xs : List V} {g : TG} {tb : TS} {D : Ends} {σ : L2.St} {H0 H : Hp} (hq : Sq K H0 p xs) (hv : σ[i]? = some (some (.ref p))) (Pv : Nat → L2.St → Hp → Prop) (h0 : Pv 0 σ H)
    (hG : ∀ i σ H, i ≤ xs.length → Pv i σ H → Same H0 H) (hs : ∀ i x σ H, xs[i]? = some x → Pv i σ H → g x σ H fun σ2 H2 => tb { D with nx := Pv (i + 1), ct := Pv (i + 1), bk := D.nx } σ2 H2) (hd : ∀ σ H, Pv xs.length σ H → D.nx σ H) :
    tFor (fun σ H R => iList K (tVar i) σ H R ∨ iTup K (tVar i) σ H R) g tb D σ H := by
  have e0 := hG 0 σ H (Nat.zero_le _) h0
  rcases hq with hq | hq
  · refine .inl ⟨_, hv, p, rfl, ⟨xs, e0.seq hq⟩, for_it (walk_list (xs := xs)) Pv h0 (fun j σ H hj k => (hG j σ H hj k).seq hq) (fun j x σ H H' hj k y => ?_) hd⟩
    obtain ⟨rfl, gx⟩ := y
    exact hs j x σ H' gx k
  · refine .inr ⟨_, hv, p, rfl, ⟨xs, Same.seqT e0 hq⟩, for_it (walk_tup (xs := xs)) Pv h0 (fun j σ H hj k => Same.seqT (hG j σ H hj k) hq) (fun j x σ H H' hj k y => ?_) hd⟩
    obtain ⟨rfl, gx⟩ := y
    exact hs j x σ H' gx k
theorem walk_enumT {K : PySem.W.Frag} {a : Addr} {xs : List V} : Walk (PKR.ItE K a) xs.length (fun H => SqT K H a xs) (YPair (fun i => some (.int (i : Nat))) (fun i => xs[i]?)) := by
  refine ⟨fun i _ hi q => ⟨xs, xs[i], q, by simp [hi]⟩, fun _ q => ⟨xs, q, rfl⟩, fun i H v H' _ q y => ?_⟩
  obtain ⟨T, x, h1, h2, h3, h4⟩ := y
  exact ⟨T, .int (i : Nat), x, h1, h2, h3, rfl, h4 xs q⟩
theorem for_enum {K : PySem.W.Frag} {i : Nat} {p : Addr} {xs : List V} {g : TG} {tb : TS} {D : Ends} {σ : L2.St} {H0 H : Hp} (hq : Sq K H0 p xs) (hv : σ[i]? = some (some (.ref p))) (Pv : Nat → L2.St → Hp → Prop) (h0 : Pv 0 σ H)
    (hG : ∀ i σ H, i ≤ xs.length → Pv i σ H → Same H0 H) (hs : ∀ i x σ H T, xs[i]? = some x → Pv i σ H → H T = none → g (.ref T) σ (upd H T (.tup [.int (i : Nat), x])) fun σ2 H2 => tb { D with nx := Pv (i + 1), ct := Pv (i + 1), bk := D.nx } σ2 H2)
    (hd : ∀ σ H, Pv xs.length σ H → D.nx σ H) :
    tFor (fun σ H R => iEnum K (tCons (tVar i) tNil) σ H R ∨ PKR.iEnumT K (tCons (tVar i) tNil) σ H R) g tb D σ H := by
  have e0 := hG 0 σ H (Nat.zero_le _) h0
  rcases hq with hq | hq
  · refine .inl ⟨_, hv, p, xs, rfl, e0.seq hq, for_it (walk_enum (xs := xs)) Pv h0 (fun j σ H hj k => (hG j σ H hj k).seq hq) (fun j x σ H H' hj k y => ?_) hd⟩
    obtain ⟨T, a, b, rfl, hT, rfl, ea, eb⟩ := y
    cases ea
    exact hs j b σ H T eb k hT
  · refine .inr ⟨_, hv, p, xs, rfl, Same.seqT e0 hq, for_it (walk_enumT (xs := xs)) Pv h0 (fun j σ H hj k => Same.seqT (hG j σ H hj k) hq) (fun j x σ H H' hj k y => ?_) hd⟩
    obtain ⟨T, a, b, rfl, hT, rfl, ea, eb⟩ := y
    cases ea
    exact hs j b σ H T eb k hT
structure TxtP (K : PySem.W.Frag) (mg : Str → Option Value) (aS : Addr) : Prop extends Txt K mg where
  g_MC : ∃ t, mg "MOST_CHARACTERS" = some (.int 12 t)
  g_LET : ∃ t, mg "LETTERS" = some (.str LET t)
  g_DIG : ∃ t, mg "DIGITS" = some (.str "0123456789" t)
  g_OTH : ∃ t, mg "WORD_CHARACTERS" = some (.str OTH t)
  g_SEP : ∃ t, mg "_SEPARATORS" = some (.str " \n" t)
  g_MT : ∃ t, mg "MOST_TEXT" = some (.int 4000 t)
  g_MO : ∃ t, mg "MOST_OPEN" = some (.int 60 t)
  g_MI : ∃ t, mg "MOST_INTEGER" = some (.int 15 t)
  g_MA : ∃ t, mg "MOST_ADDRESS" = some (.int 9 t)
  g_S : mg "_SIGNS" = some (.ref aS)
  signs : ∀ H, SqT K H aS [.str "(", .str ")", .str "{", .str "}"]
def isWd (x : Str) : Bool := decide (1 ≤ x.length ∧ x.length ≤ 12) && (decide (x.cps.toList.headD 0 ∈ LET.cps.toList) && x.cps.toList.all fun s => decide (s ∈ OTH.cps.toList))
def spWord : Sp := fun vs H Q _ => ∃ x : Str, vs = [.str x] ∧ x.length ≤ 10000 ∧ ∀ H', Same H H' → Q (.bl (isWd x)) H'
def spWhole : Sp := fun vs H Q _ => ∃ n : Int, vs = [.int n] ∧ Q (.bl true) H
section
variable {P : Program} {w : World} {K : PySem.W.Frag} {mg : Str → Option Value} {base : Heap} {aS : Addr}
abbrev s_is_word : Stmt := topS 11
theorem sc_is_word : FnScope ["text", "sign"] ["text"] (defScope s_is_word) := ⟨rfl, rfl, rfl, by decide +kernel, rfl, by decide +kernel, by decide +kernel⟩
-- slots: 0:text 1:sign(comp)
theorem ok_word {f : Addr} {fd : FuncData} (F : Fun K "is_word" "is_word" s_is_word f fd) (T : TxtP K mg aS) : FnOk P w K mg base CX0 1 f fd ["text"] spWord := by
  refine F.ok sc_is_word (fun vs H Q E h => ?_) (fun cdv A outer s H vs Q E hr h => ?_)
  · obtain ⟨x, rfl, _⟩ := h
    rfl
  obtain ⟨x, rfl, hx, q⟩ := h
  refine ⟨_, (pss_cons (ps_if (PW.pt (pw_or (pt_not (pt_val (pe_callB call_isi (by rfl) T.z_isinstance (by decide +kernel) (pa_cons (pv 0) (pa_cons (pe_bltn (v := .ty "str") (by rfl) T.z_str (by decide +kernel) rfl) pa_nil))))) (pw_or1 (pt_not (pt_chain op_le op_le pe_int (pe_callB call_len_str (by rfl) T.z_len (by decide +kernel) (pa_cons (pv 0) pa_nil)) (pe_glI (n := 12) rfl T.g_MC)))))) (pss_one (ps_ret pe_bl)) pss_nil)
    (pss_one (ps_ret (pe_and (pe_cmpR op_in_sign (pe_ix ix_str (pv 0) pe_int (fun _ _ => rfl)) (pe_glS (s := LET) rfl T.g_LET) rfl) (pe_one (pe_callB (cr_all (by rfl)) (by rfl) T.z_all (by decide +kernel) (pa_cons (pe_lc (own := [("sign", 1)]) (g := (gName 1)) (tt := tYes) (by rfl) sc_is_word.nd (pi_str (pv 0)) (blkOk_by (N := ["text", "sign"]) (sc := defScope s_is_word) (by decide +kernel)) (fun _ _ _ _ _ => (pg_name (i := 1) sc_is_word.nd rfl (Or.inl rfl))) (fun _ _ _ _ _ => pts_nil) (fun _ _ _ _ _ => (pe_cmpR op_in_sign (pv 1) (pe_glS (s := OTH) rfl T.g_OTH) rfl))) pa_nil))))))), ?_⟩
  have ty : TyX K H (.str x) (.type "str") := .base (.str x)
  refine vIsi rfl ty (b := true) (by decide +kernel) ?_
  refine ⟨_, rfl, iteF ⟨_, rfl, x, rfl, small (by omega), le_le ?_⟩⟩
  by_cases hl : 1 ≤ x.length ∧ x.length ≤ 12
  · rw [decide_eq_true (show (1 : Int) ≤ (x.length : Int) ∧ (x.length : Int) ≤ 12 by omega)]
    have en : x.cps.toList.length = x.length := (len_list x).symm
    obtain ⟨s0, r, e0⟩ : ∃ s0 r, x.cps.toList = s0 :: r := by
      cases e : x.cps.toList with
      | nil => rw [e] at en; simp at en; omega
      | cons a b => exact ⟨a, b, rfl⟩
    refine iteF ⟨_, rfl, x, 0, s0, rfl, rfl, small (by omega), by rw [e0]; exact atI_nat (j := 0) rfl, s0, LET, rfl, rfl, ⟨_, rfl, ?_⟩⟩
    have fin : isWd x = (decide (s0 ∈ LET.cps.toList) && x.cps.toList.all fun s => decide (s ∈ OTH.cps.toList)) := by
      unfold isWd
      rw [decide_eq_true hl, e0]; rfl
    by_cases h0 : s0 ∈ LET.cps.toList
    · rw [decide_eq_true h0]
      refine iteT ⟨_, rfl, x, rfl, fun D hD => lc_it (walk_str (z := x)) (fun i H' => Same H H' ∧ H' D = some (.lst (((x.cps.toList.take i).map fun s => decide (s ∈ OTH.cps.toList)).map V.bl))) ?_ (fun _ _ _ _ => trivial) ?_ ?_⟩
      · exact ⟨same_new hD, upd_same⟩
      · rintro i v H1 H2 hi ⟨sm, hd⟩ ⟨rfl, c, gc, rfl⟩
        have gl : x.cps.toList[i]? = some c := by simpa using gc
        refine ⟨rfl, yes_ ⟨_, rfl, c, OTH, rfl, rfl, _, hd, ?_, Same.upd sm hD, ?_⟩⟩
        · rw [List.length_map, List.length_map, List.length_take]; exact smallL (by omega)
        · rw [upd_same, List.take_add_one, gl]; simp
      · rintro H' ⟨sm, hd⟩
        have z : x.cps.toList.take x.cps.size = x.cps.toList := List.take_of_length_le (by simp)
        rw [z] at hd
        refine ⟨D, _, rfl, SqL.of hd, ?_⟩
        have := q H' sm
        rw [fin, decide_eq_true h0, Bool.true_and] at this
        rwa [List.all_map]
    · rw [decide_eq_false h0]
      refine iteF ?_
      have := q H (Same.refl H)
      rwa [fin, decide_eq_false h0, Bool.false_and] at this
  · rw [decide_eq_false (show ¬ ((1 : Int) ≤ (x.length : Int) ∧ (x.length : Int) ≤ 12) by omega)]
    have := q H (Same.refl H)
    unfold isWd at this
    rw [decide_eq_false hl, Bool.false_and] at this
    exact iteT this
end
end PK
namespace PK
open PySem L2
/-! tokens: where a run of signs ends -/
abbrev DIGS : Str := "0123456789"
/-- how many signs of S stand at the beginning -/
def runN (S : List Nat) : List Nat → Nat
  | [] => 0
  | c :: r => if c ∈ S then runN S r + 1 else 0
theorem run_cons (S : List Nat) (c : Nat) (r : List Nat) : runN S (c :: r) = if c ∈ S then runN S r + 1 else 0 := rfl
theorem runN_le (S : List Nat) : ∀ l : List Nat, runN S l ≤ l.length
  | [] => Nat.le_refl _
  | c :: r => by
    unfold runN
    split
    · have := runN_le S r; rw [List.length_cons]; omega
    · exact Nat.zero_le _
theorem le_leV {i j k : Int} {H : Hp} {Q : Bool → Hp → Prop} (h : Q (decide (i ≤ j ∧ j ≤ k)) H) :
    ∃ a b, V.int i = .int a ∧ V.int j = .int b ∧ ∃ y, V.bl (decide (a ≤ b)) = .bl y ∧ (if y = true then ∃ u, some (some (V.int k)) = some (some u) ∧ ∃ a b, V.int j = .int a ∧ u = .int b ∧ ∃ z, V.bl (decide (a ≤ b)) = .bl z ∧ Q z H else ∃ z, V.bl false = .bl z ∧ Q z H) := by
  obtain ⟨a, b, h1, h2, y, h3, h4⟩ := le_le (i := i) (j := j) (k := k) (H := H) (Q := Q) h
  refine ⟨a, b, h1, h2, y, h3, ?_⟩
  cases y with
  | false => exact h4
  | true => exact ⟨_, rfl, h4⟩
def spEnd : Sp := fun vs H Q _ => ∃ (x z : Str) (s : Nat), vs = [.str x, .int (s : Nat), .str z] ∧ s ≤ x.length ∧ x.length ≤ 10000 ∧ Q (.int ((s + runN z.cps.toList (x.cps.toList.drop s) : Nat))) H
section
variable {P : Program} {w : World} {K : PySem.W.Frag} {mg : Str → Option Value} {base : Heap} {aS : Addr}
abbrev s_end_of_run : Stmt := topS 20
theorem sc_end_of_run : FnScope ["text", "start", "characters", "end"] ["text", "start", "characters"] (defScope s_end_of_run) := ⟨rfl, rfl, rfl, by decide +kernel, rfl, by decide +kernel, by decide +kernel⟩
-- slots: 0:text 1:start 2:characters 3:end
abbrev s_token_end : Stmt := topS 21
theorem sc_token_end : FnScope ["text", "start", "first"] ["text", "start"] (defScope s_token_end) := ⟨rfl, rfl, rfl, by decide +kernel, rfl, by decide +kernel, by decide +kernel⟩
-- slots: 0:text 1:start 2:first
abbrev s_is_number : Stmt := topS 22
theorem sc_is_number : FnScope ["digits", "most"] ["digits", "most"] (defScope s_is_number) := ⟨rfl, rfl, rfl, by decide +kernel, rfl, by decide +kernel, by decide +kernel⟩
-- slots: 0:digits 1:most
theorem ok_end {f : Addr} {fd : FuncData} (F : Fun K "_end_of_run" "_end_of_run" s_end_of_run f fd) (T : TxtP K mg aS) : FnOk P w K mg base CX0 1 f fd ["text", "start", "characters"] spEnd := by
  refine F.ok sc_end_of_run (fun vs H Q E h => ?_) (fun cdv A outer s H vs Q E hr h => ?_)
  · obtain ⟨_, _, _, rfl, _⟩ := h
    rfl
  obtain ⟨x, z, st, rfl, hs, hx, q⟩ := h
  refine ⟨_, (pss_cons (ps_set (i := 3) sc_end_of_run.nd rfl (Or.inl rfl) (pv 1))
    (pss_cons (ps_while PassesOwn.never (PW.pt (pw_and (pt_cmpR op_lt (pv 3) (pe_callB call_len_str (by rfl) T.z_len (by decide +kernel) (pa_cons (pv 0) pa_nil)) (nomark _)) (pw_and1 (pt_cmpR op_in_sign (pe_ix ix_str (pv 0) (pv 3) (fun _ _ => rfl)) (pv 2) rfl)))) (pss_one (ps_aug (i := 3) sc_end_of_run.nd rfl (Or.inl rfl) pe_int ip_add)))
    (pss_one (ps_ret (pv 3))))), ?_⟩
  have en : x.cps.toList.length = x.length := (len_list x).symm
  refine ⟨_, rfl, fun m σ H' => ∃ e : Nat, σ = [some (.str x), some (.int (st : Nat)), some (.str z), some (.int (e : Nat))] ∧ H' = H ∧ m = x.length - e ∧ e ≤ x.length ∧ e + runN z.cps.toList (x.cps.toList.drop e) = st + runN z.cps.toList (x.cps.toList.drop st), ⟨_, st, rfl, rfl, rfl, hs, rfl⟩, ?_⟩
  rintro m σ H' ⟨e, rfl, rfl, rfl, he, eq⟩
  have stop : runN z.cps.toList (x.cps.toList.drop e) = 0 → Q (.int (e : Nat)) H' := fun h => by
    rw [h, Nat.add_zero] at eq
    rw [eq]; exact q
  refine ⟨_, rfl, ⟨_, rfl, x, rfl, small (by omega), _, _, rfl, rfl, _, rfl, ?_⟩⟩
  by_cases hl : e < x.length
  · have he2 : e < x.cps.toList.length := by omega
    have dr : x.cps.toList.drop e = x.cps.toList[e] :: x.cps.toList.drop (e + 1) := List.drop_eq_getElem_cons he2
    rw [decide_eq_true (show (e : Int) < (x.length : Int) by omega)]
    refine iteT ⟨_, rfl, _, rfl, x, (e : Int), x.cps.toList[e], rfl, rfl, small (by omega), atI_nat (List.getElem?_eq_getElem he2), _, rfl, x.cps.toList[e], z, rfl, rfl, _, rfl, ?_⟩
    by_cases hc : x.cps.toList[e] ∈ z.cps.toList
    · rw [decide_eq_true hc]
      refine iteT ⟨fun σ H2 => σ = [some (.str x), some (.int (st : Nat)), some (.str z), some (.int ((e + 1 : Nat) : Int))] ∧ H2 = H', fun σ' H2 ⟨e1, e2⟩ => ?_, _, rfl, _, _, rfl, rfl, rfl, rfl⟩
      refine ⟨x.length - (e + 1), by omega, e + 1, e1, e2, rfl, by omega, ?_⟩
      rw [dr, run_cons, if_pos hc] at eq
      omega
    · rw [decide_eq_false hc]
      refine iteF ⟨_, rfl, stop ?_⟩
      rw [dr, run_cons, if_neg hc]
  · rw [decide_eq_false (show ¬ (e : Int) < (x.length : Int) by omega)]
    refine iteF (iteF ⟨_, rfl, stop ?_⟩)
    rw [List.drop_eq_nil_of_le (by omega)]
    rfl
def tokEnd (cs : List Nat) (s : Nat) : Nat :=
  if cs.getD s 0 ∈ ("-@" : Str).cps.toList ∨ cs.getD s 0 ∈ DIGS.cps.toList then s + 1 + runN DIGS.cps.toList (cs.drop (s + 1))
  else if cs.getD s 0 ∈ ("'$" : Str).cps.toList ∨ cs.getD s 0 ∈ LET.cps.toList then s + 1 + runN OTH.cps.toList (cs.drop (s + 1)) else s + 1
def spTokEnd : Sp := fun vs H Q _ => ∃ (x : Str) (s : Nat), vs = [.str x, .int (s : Nat)] ∧ s < x.length ∧ x.length ≤ 10000 ∧ Q (.int (tokEnd x.cps.toList s : Nat)) H
theorem ok_tokEnd {f : Addr} {fd : FuncData} (F : Fun K "_token_end" "_token_end" s_token_end f fd) (T : TxtP K mg aS) (C_end_of_run : C8.Cal P w K mg base 1 "_end_of_run" spEnd []) : FnOk P w K mg base CX0 2 f fd ["text", "start"] spTokEnd := by
  refine F.ok sc_token_end (fun vs H Q E h => ?_) (fun cdv A outer s H vs Q E hr h => ?_)
  · obtain ⟨_, _, rfl, _⟩ := h
    rfl
  obtain ⟨x, st, rfl, hs, hx, q⟩ := h
  refine ⟨_, (pss_cons (ps_set (i := 2) sc_token_end.nd rfl (Or.inl rfl) (pe_ix ix_str (pv 0) (pv 1) (fun _ _ => rfl)))
    (pss_cons (ps_if (PW.pt (pw_or (pt_cmpR op_in_sign (pv 2) pe_str rfl) (pw_or1 (pt_cmpR op_in_sign (pv 2) (pe_glS (s := DIGS) rfl T.g_DIG) rfl)))) (pss_one (ps_ret (C8.pe_c C_end_of_run hr (by decide) rfl (pa_cons (pv 0) (pa_cons (pe_op op_add (pv 1) pe_int) (pa_cons (pe_glS (s := DIGS) rfl T.g_DIG) pa_nil)))))) pss_nil)
    (pss_cons (ps_if (PW.pt (pw_or (pt_cmpR op_in_sign (pv 2) pe_str rfl) (pw_or1 (pt_cmpR op_in_sign (pv 2) (pe_glS (s := LET) rfl T.g_LET) rfl)))) (pss_one (ps_ret (C8.pe_c C_end_of_run hr (by decide) rfl (pa_cons (pv 0) (pa_cons (pe_op op_add (pv 1) pe_int) (pa_cons (pe_glS (s := OTH) rfl T.g_OTH) pa_nil)))))) pss_nil)
    (pss_one (ps_ret (pe_op op_add (pv 1) pe_int)))))), ?_⟩
  have en : x.cps.toList.length = x.length := (len_list x).symm
  have he2 : st < x.cps.toList.length := by omega
  have eg : x.cps.toList.getD st 0 = x.cps.toList[st] := by rw [List.getD_eq_getElem?_getD, List.getElem?_eq_getElem he2]; rfl
  refine ⟨_, rfl, _, rfl, x, (st : Int), x.cps.toList[st], rfl, rfl, small (by omega), atI_nat (List.getElem?_eq_getElem he2), ?_⟩
  unfold tokEnd at q
  rw [eg] at q
  refine ⟨_, rfl, x.cps.toList[st], "-@", rfl, rfl, _, rfl, ?_⟩
  generalize x.cps.toList[st] = c at q
  have dig : (c ∈ ("-@" : Str).cps.toList ∨ c ∈ DIGS.cps.toList) → Q (.int ((st + 1 + runN DIGS.cps.toList (x.cps.toList.drop (st + 1)) : Nat))) H := fun h => by rw [if_pos h] at q; exact q
  have wrd : ¬ (c ∈ ("-@" : Str).cps.toList ∨ c ∈ DIGS.cps.toList) → (c ∈ ("'$" : Str).cps.toList ∨ c ∈ LET.cps.toList) → Q (.int ((st + 1 + runN OTH.cps.toList (x.cps.toList.drop (st + 1)) : Nat))) H := fun h h2 => by rw [if_neg h, if_pos h2] at q; exact q
  have one_ : ¬ (c ∈ ("-@" : Str).cps.toList ∨ c ∈ DIGS.cps.toList) → ¬ (c ∈ ("'$" : Str).cps.toList ∨ c ∈ LET.cps.toList) → Q (.int ((st + 1 : Nat))) H := fun h h2 => by rw [if_neg h, if_neg h2] at q; exact q
  clear q
  by_cases h1 : c ∈ ("-@" : Str).cps.toList
  · rw [decide_eq_true h1]
    exact iteT (iteT ⟨_, rfl, ⟨_, rfl, _, _, rfl, rfl, x, DIGS, st + 1, rfl, by omega, hx, dig (.inl h1)⟩⟩)
  rw [decide_eq_false h1]
  refine iteF ⟨_, rfl, c, DIGS, rfl, rfl, _, rfl, ?_⟩
  by_cases h2 : c ∈ DIGS.cps.toList
  · rw [decide_eq_true h2]
    exact iteT ⟨_, rfl, ⟨_, rfl, _, _, rfl, rfl, x, DIGS, st + 1, rfl, by omega, hx, dig (.inr h2)⟩⟩
  rw [decide_eq_false h2]
  have n1 : ¬ (c ∈ ("-@" : Str).cps.toList ∨ c ∈ DIGS.cps.toList) := fun z => z.elim h1 h2
  refine iteF ⟨_, rfl, c, "'$", rfl, rfl, _, rfl, ?_⟩
  by_cases h3 : c ∈ ("'$" : Str).cps.toList
  · rw [decide_eq_true h3]
    exact iteT (iteT ⟨_, rfl, ⟨_, rfl, _, _, rfl, rfl, x, OTH, st + 1, rfl, by omega, hx, wrd n1 (.inl h3)⟩⟩)
  rw [decide_eq_false h3]
  refine iteF ⟨_, rfl, c, LET, rfl, rfl, _, rfl, ?_⟩
  by_cases h4 : c ∈ LET.cps.toList
  · rw [decide_eq_true h4]
    exact iteT ⟨_, rfl, ⟨_, rfl, _, _, rfl, rfl, x, OTH, st + 1, rfl, by omega, hx, wrd n1 (.inr h4)⟩⟩
  rw [decide_eq_false h4]
  exact iteF ⟨_, rfl, _, _, rfl, rfl, one_ n1 (fun z => z.elim h3 h4)⟩
/-- a number: digits, no zero ahead of others -/
def isNum (ds : List Nat) (most : Nat) : Bool := decide (1 ≤ ds.length ∧ ds.length ≤ most) && (decide (runN DIGS.cps.toList ds = ds.length) && (decide (ds = [48]) || decide (ds.getD 0 0 ≠ 48)))
def spIsNum : Sp := fun vs H Q _ => ∃ (x : Str) (most : Nat), vs = [.str x, .int (most : Nat)] ∧ x.length ≤ 10000 ∧ Q (.bl (isNum x.cps.toList most)) H
theorem ok_isNum {f : Addr} {fd : FuncData} (F : Fun K "_is_number" "_is_number" s_is_number f fd) (T : TxtP K mg aS) (C_end_of_run : C8.Cal P w K mg base 1 "_end_of_run" spEnd []) : FnOk P w K mg base CX0 2 f fd ["digits", "most"] spIsNum := by
  refine F.ok sc_is_number (fun vs H Q E h => ?_) (fun cdv A outer s H vs Q E hr h => ?_)
  · obtain ⟨_, _, rfl, _⟩ := h
    rfl
  obtain ⟨x, most, rfl, hx, q⟩ := h
  refine ⟨_, (pss_cons (ps_if (PW.pt (pw_or (pt_not (pt_chain op_le op_le pe_int (pe_callB call_len_str (by rfl) T.z_len (by decide +kernel) (pa_cons (pv 0) pa_nil)) (pv 1))) (pw_or1 (pt_cmpR op_ne (C8.pe_c C_end_of_run hr (by decide) rfl (pa_cons (pv 0) (pa_cons pe_int (pa_cons (pe_glS (s := DIGS) rfl T.g_DIG) pa_nil)))) (pe_callB call_len_str (by rfl) T.z_len (by decide +kernel) (pa_cons (pv 0) pa_nil)) (nomark _))))) (pss_one (ps_ret pe_bl)) pss_nil)
    (pss_one (ps_ret (pe_or (pe_cmpR op_eq (pv 0) pe_str (nomark _)) (pe_one (pe_cmpR op_ne (pe_ix ix_str (pv 0) pe_int (fun _ _ => rfl)) pe_str (nomark _))))))), ?_⟩
  have en : x.cps.toList.length = x.length := (len_list x).symm
  refine ⟨_, rfl, x, rfl, small (by omega), le_leV ?_⟩
  unfold isNum at q
  rw [en] at q
  by_cases h1 : 1 ≤ x.length ∧ x.length ≤ most
  · rw [decide_eq_true (show (1 : Int) ≤ (x.length : Int) ∧ (x.length : Int) ≤ (most : Int) by omega)]
    rw [decide_eq_true h1, Bool.true_and] at q
    refine iteF ⟨_, rfl, x, DIGS, 0, rfl, Nat.zero_le _, hx, ⟨_, rfl, x, rfl, small (by omega), rfl, _, rfl, ?_⟩⟩
    rw [List.drop_zero, Nat.zero_add]
    by_cases h2 : runN DIGS.cps.toList x.cps.toList = x.length
    · rw [h2, decide_eq_true (show V.int (x.length : Nat) = V.int (x.length : Nat) from rfl)]
      rw [decide_eq_true h2, Bool.true_and] at q
      have hp : 0 < x.cps.toList.length := by omega
      have eg : x.cps.toList.getD 0 0 = x.cps.toList[0] := by rw [List.getD_eq_getElem?_getD, List.getElem?_eq_getElem hp]; rfl
      rw [eg] at q
      refine iteF ⟨_, rfl, rfl, _, rfl, ?_⟩
      have e0 : x = "0" ↔ x.cps.toList = [48] := ⟨fun e => by rw [e]; decide +kernel, fun e => Str.ext' (Array.toList_inj.mp (e.trans (by decide +kernel : [48] = ("0" : Str).cps.toList)))⟩
      by_cases h3 : x.cps.toList = [48]
      · rw [decide_eq_true h3, Bool.true_or] at q
        rw [decide_eq_true (show V.str x = V.str "0" by rw [e0.mpr h3])]
        exact iteT q
      · rw [decide_eq_false h3, Bool.false_or] at q
        rw [decide_eq_false (show ¬ V.str x = V.str "0" from fun z => h3 (e0.mp (V.str.inj z)))]
        refine iteF ⟨_, rfl, x, 0, x.cps.toList[0], rfl, rfl, small (by omega), atI_nat (j := 0) (List.getElem?_eq_getElem hp), rfl, ?_⟩
        have e1 : (V.str ⟨#[x.cps.toList[0]]⟩ = V.str "0") ↔ x.cps.toList[0] = 48 := ⟨fun z => by
            have := congrArg (fun s : Str => s.cps.toList) (V.str.inj z)
            have e48 : ("0" : Str).cps.toList = [48] := by decide +kernel
            rw [e48] at this
            exact (List.cons.inj this).1, fun z => by rw [z]; exact congrArg V.str (Str.ext' (Array.toList_inj.mp (by decide +kernel)))⟩
        by_cases h4 : x.cps.toList[0] = 48
        · rw [decide_eq_false (fun z => z h4)] at q
          rw [decide_eq_true (e1.mpr h4)]
          exact q
        · rw [decide_eq_true h4] at q
          rw [decide_eq_false (fun z => h4 (e1.mp z))]
          exact q
    · rw [decide_eq_false (show ¬ V.int (runN DIGS.cps.toList x.cps.toList : Nat) = V.int (x.length : Nat) from fun z => h2 (by have := V.int.inj z; omega))]
      rw [decide_eq_false h2, Bool.false_and] at q
      exact iteT q
  · rw [decide_eq_false (show ¬ ((1 : Int) ≤ (x.length : Int) ∧ (x.length : Int) ≤ (most : Int)) by omega)]
    rw [decide_eq_false h1, Bool.false_and] at q
    exact iteT (iteT q)
end
end PK
namespace PK
open PySem L2 _root_.TL
/-! tokens, purely -/
theorem wd_is {x : Str} (h : Wd x) : isWd x = true := by
  obtain ⟨s, r, e, hs⟩ := h.hd
  have a : (x.cps.toList.all fun s => decide (s ∈ OTH.cps.toList)) = true := List.all_eq_true.mpr fun z hz => decide_eq_true (h.al z hz)
  unfold isWd
  rw [decide_eq_true (show 1 ≤ x.length ∧ x.length ≤ 12 from ⟨h.lo, h.hi⟩), a, decide_eq_true (show x.cps.toList.headD 0 ∈ LET.cps.toList by rw [e]; exact hs)]
  rfl
inductive Tk where
  | sg (s : Str)
  | int (n : Int)
  | name (w : Str)
  | addr (n : Int)
  | var (w : Str)
  | word (w : Str)
  | bad
  | fin
deriving DecidableEq
def Tk.kind : Tk → Str
  | .sg s => s
  | .int _ => "int"
  | .name _ => "name"
  | .addr _ => "addr"
  | .var _ => "meta"
  | .word _ => "word"
  | .bad => "invalid"
  | .fin => "end"
def Tk.worth : Tk → PyData
  | .int n => .int n
  | .addr n => .int n
  | .name w => .str w
  | .var w => .str w
  | .word w => .str w
  | _ => .none
abbrev SIGNS : List Str := ["(", ")", "{", "}"]
abbrev SEP : Str := " \n"
def mkS (cs : List Nat) : Str := ⟨cs.toArray⟩
theorem mk'_list (cs : List Nat) : (mkS cs).cps.toList = cs := by unfold mkS; simp
theorem mk'_of (x : Str) : mkS x.cps.toList = x := by unfold mkS; simp
theorem mk'_len (cs : List Nat) : (mkS cs).length = cs.length := by rw [len_list, mk'_list]
/-- the token of a piece -/
def tokOf (p : List Nat) : Tk :=
  if mkS p ∈ SIGNS then .sg (mkS p)
  else if p.headD 0 = 39 ∧ isWd (mkS p.tail) = true then .name (mkS p.tail)
  else if p.headD 0 = 36 ∧ isWd (mkS p.tail) = true then .var (mkS p.tail)
  else if p.headD 0 = 64 ∧ isNum p.tail 9 = true then .addr (NumText.digitsVal p.tail : Nat)
  else if p.headD 0 = 45 ∧ p.tail ≠ [48] ∧ isNum p.tail 15 = true then .int (-(NumText.digitsVal p.tail : Nat))
  else if isNum p 15 = true then .int (NumText.digitsVal p : Nat)
  else if isWd (mkS p) = true then .word (mkS p)
  else .bad
/-- how long the token is with which the signs begin -/
def tokLen : List Nat → Nat
  | [] => 0
  | c :: r =>
    if c ∈ ("-@" : Str).cps.toList ∨ c ∈ DIGS.cps.toList then 1 + runN DIGS.cps.toList r
    else if c ∈ ("'$" : Str).cps.toList ∨ c ∈ LET.cps.toList then 1 + runN OTH.cps.toList r else 1
theorem tokEnd_len {cs : List Nat} {s : Nat} (h : s < cs.length) : tokEnd cs s = s + tokLen (cs.drop s) := by
  rw [List.drop_eq_getElem_cons h]
  have eg : cs.getD s 0 = cs[s] := by rw [List.getD_eq_getElem?_getD, List.getElem?_eq_getElem h]; rfl
  unfold tokEnd tokLen
  rw [eg]
  dsimp only
  repeat' split
  all_goals omega
theorem tokLen_pos : ∀ {cs : List Nat}, cs ≠ [] → 0 < tokLen cs
  | [], h => absurd rfl h
  | c :: r, _ => by
    unfold tokLen
    dsimp only
    repeat' split
    all_goals omega
theorem tokLen_le : ∀ cs : List Nat, tokLen cs ≤ cs.length
  | [] => Nat.le_refl _
  | c :: r => by
    have h1 := runN_le DIGS.cps.toList r
    have h2 := runN_le OTH.cps.toList r
    unfold tokLen
    dsimp only
    rw [List.length_cons]
    repeat' split
    all_goals omega
/-- the tokens of the signs that are left, the first of them at p -/
def scan : Nat → Nat → List Nat → List (Tk × Nat)
  | 0, _, _ => []
  | f + 1, p, cs => match cs with
    | [] => []
    | c :: r => if c ∈ SEP.cps.toList then scan f (p + 1) r else (tokOf ((c :: r).take (tokLen (c :: r))), p) :: scan f (p + tokLen (c :: r)) ((c :: r).drop (tokLen (c :: r)))
theorem scan_nil (f p : Nat) : scan f p [] = [] := by cases f <;> rfl
theorem scan_sep {f p c : Nat} {r : List Nat} (h : c ∈ SEP.cps.toList) : scan (f + 1) p (c :: r) = scan f (p + 1) r := if_pos h
theorem scan_tok {f p c : Nat} {r : List Nat} (h : c ∉ SEP.cps.toList) : scan (f + 1) p (c :: r) = (tokOf ((c :: r).take (tokLen (c :: r))), p) :: scan f (p + tokLen (c :: r)) ((c :: r).drop (tokLen (c :: r))) := if_neg h
/-- the fuel plays no part -/
theorem scan_fuel : ∀ (n f g p : Nat) (cs : List Nat), cs.length ≤ n → cs.length ≤ f → cs.length ≤ g → scan f p cs = scan g p cs := by
  intro n
  induction n with
  | zero =>
    intro f g p cs hn _ _
    have : cs = [] := List.length_eq_zero_iff.mp (Nat.le_zero.mp hn)
    rw [this, scan_nil, scan_nil]
  | succ n ih =>
    intro f g p cs hn hf hg
    cases cs with
    | nil => rw [scan_nil, scan_nil]
    | cons c r =>
      rw [List.length_cons] at hn hf hg
      obtain ⟨f, rfl⟩ : ∃ f', f = f' + 1 := ⟨f - 1, by omega⟩
      obtain ⟨g, rfl⟩ : ∃ g', g = g' + 1 := ⟨g - 1, by omega⟩
      by_cases h : c ∈ SEP.cps.toList
      · rw [scan_sep h, scan_sep h]
        exact ih f g _ r (by omega) (by omega) (by omega)
      · rw [scan_tok h, scan_tok h]
        have h0 : 0 < tokLen (c :: r) := tokLen_pos (by simp)
        have hl : ((c :: r).drop (tokLen (c :: r))).length ≤ r.length := by rw [List.length_drop, List.length_cons]; omega
        rw [ih f g _ _ (by omega) (by omega) (by omega)]
/-- all tokens of the signs -/
def toks (cs : List Nat) : List (Tk × Nat) := scan cs.length 0 cs ++ [(.fin, cs.length)]
/-- the tokens that are laid in signs -/
def Lays (cs : List Nat) (ts : List Tk) : Prop := ∀ p, (scan cs.length p cs).map (·.1) = ts
theorem lays_nil : Lays [] [] := fun p => rfl
theorem lays_sep {c : Nat} {r : List Nat} {ts : List Tk} (h : c ∈ SEP.cps.toList) (l : Lays r ts) : Lays (c :: r) ts := fun p => by
  show (scan (r.length + 1) p (c :: r)).map _ = _
  rw [scan_sep h]
  exact l _
theorem lays_seps : ∀ {b : List Nat} {u : List Nat} {ts : List Tk}, (∀ c ∈ b, c ∈ SEP.cps.toList) → Lays u ts → Lays (b ++ u) ts
  | [], _, _, _, l => l
  | c :: b, u, ts, h, l => lays_sep (h c (.head _)) (lays_seps (fun x hx => h x (.tail _ hx)) l)
/-- a piece that ends where it ends, whatever sign follows (of those for which S) -/
def Piece (p : List Nat) (S : Nat → Prop) : Prop := p ≠ [] ∧ p.headD 0 ∉ SEP.cps.toList ∧ ∀ u : List Nat, (∀ c ∈ u.head?, S c) → tokLen (p ++ u) = p.length
theorem lays_tok {p u : List Nat} {S : Nat → Prop} {ts : List Tk} (hp : Piece p S) (hu : ∀ c ∈ u.head?, S c) (l : Lays u ts) : Lays (p ++ u) (tokOf p :: ts) := fun k => by
  obtain ⟨hn, hs, ht⟩ := hp
  cases p with
  | nil => exact absurd rfl hn
  | cons c r =>
    have e := ht u hu
    show (scan ((r ++ u).length + 1) k (c :: (r ++ u))).map _ = _
    rw [scan_tok (show c ∉ SEP.cps.toList from hs), List.map_cons]
    rw [show c :: (r ++ u) = (c :: r) ++ u from rfl, e, List.take_left, List.drop_left]
    rw [scan_fuel u.length _ u.length _ u (Nat.le_refl _) (by rw [List.length_append]; omega) (Nat.le_refl _), l]
theorem run_all (S : List Nat) : ∀ (r u : List Nat), (∀ c ∈ r, c ∈ S) → (∀ c ∈ u.head?, c ∉ S) → runN S (r ++ u) = r.length
  | [], [], _, _ => rfl
  | [], c :: u, _, h => by rw [List.nil_append, run_cons, if_neg (h c rfl)]; rfl
  | c :: r, u, hr, hu => by
    rw [List.cons_append, run_cons, if_pos (hr c (.head _)), run_all S r u (fun x hx => hr x (.tail _ hx)) hu]; rfl
theorem piece_sign {s : Nat} (h : s ∈ ([40, 41, 123, 125] : List Nat)) : Piece [s] (fun _ => True) := by
  have key : ∀ s ∈ ([40, 41, 123, 125] : List Nat), s ∉ SEP.cps.toList ∧ ¬ (s ∈ ("-@" : Str).cps.toList ∨ s ∈ DIGS.cps.toList) ∧ ¬ (s ∈ ("'$" : Str).cps.toList ∨ s ∈ LET.cps.toList) := by decide +kernel
  obtain ⟨h1, h2, h3⟩ := key s h
  refine ⟨by simp, h1, fun u _ => ?_⟩
  show tokLen (s :: u) = 1
  unfold tokLen
  dsimp only
  rw [if_neg h2, if_neg h3]
theorem piece_word {c : Nat} {r : List Nat} (h : c ∈ ("'$" : Str).cps.toList ∨ c ∈ LET.cps.toList) (hr : ∀ x ∈ r, x ∈ OTH.cps.toList) : Piece (c :: r) (fun s => s ∉ OTH.cps.toList) := by
  have key : ∀ s : Nat, s ∈ ("'$" : Str).cps.toList ++ LET.cps.toList → s ∉ SEP.cps.toList ∧ ¬ (s ∈ ("-@" : Str).cps.toList ∨ s ∈ DIGS.cps.toList) := by decide +kernel
  obtain ⟨h1, h2⟩ := key c (List.mem_append.mpr h)
  refine ⟨by simp, h1, fun u hu => ?_⟩
  show tokLen (c :: (r ++ u)) = r.length + 1
  unfold tokLen
  dsimp only
  rw [if_neg h2, if_pos h, run_all _ r u hr hu]
  omega
theorem piece_num {c : Nat} {r : List Nat} (h : c ∈ ("-@" : Str).cps.toList ∨ c ∈ DIGS.cps.toList) (hr : ∀ x ∈ r, x ∈ DIGS.cps.toList) : Piece (c :: r) (fun s => s ∉ DIGS.cps.toList) := by
  have key : ∀ s : Nat, s ∈ ("-@" : Str).cps.toList ++ DIGS.cps.toList → s ∉ SEP.cps.toList := by decide +kernel
  refine ⟨by simp, key c (List.mem_append.mpr h), fun u hu => ?_⟩
  show tokLen (c :: (r ++ u)) = r.length + 1
  unfold tokLen
  dsimp only
  rw [if_pos h, run_all _ r u hr hu]
  omega
theorem dig_oth : ∀ s ∈ DIGS.cps.toList, s ∈ OTH.cps.toList := by decide +kernel
theorem let_oth' : ∀ s ∈ LET.cps.toList, s ∈ OTH.cps.toList := by decide +kernel
theorem Piece.imp {p : List Nat} {S S' : Nat → Prop} (h : Piece p S) (i : ∀ c, S' c → S c) : Piece p S' := ⟨h.1, h.2.1, fun u hu => h.2.2 u fun c hc => i c (hu c hc)⟩
theorem all_dig {ds : List Nat} (h : NumText.AllDigits ds) : ∀ c ∈ ds, c ∈ DIGS.cps.toList := fun c hc => by
  have := h c hc
  have key : ∀ k, k < 10 → 48 + k ∈ DIGS.cps.toList := by decide +kernel
  have z := key (c - 48) (by omega)
  rwa [show 48 + (c - 48) = c by omega] at z
/-- digits as str writes them -/
theorem numL_zero : ∀ (k n : Nat), n < 10 ^ k → numL n = [48] ∨ (numL n).getD 0 0 ≠ 48
  | k, n, h => by
    by_cases h10 : n < 10
    · rw [numL_lt h10]
      by_cases h0 : n = 0
      · exact .inl (by rw [h0])
      · exact .inr (by show 48 + n ≠ 48; omega)
    · cases k with
      | zero => exact absurd h (by show ¬ n < 1; omega)
      | succ k =>
        rw [numL_step (by omega)]
        have hk : n / 10 < 10 ^ k := by rw [Nat.pow_succ] at h; exact Nat.div_lt_of_lt_mul (by rw [Nat.mul_comm]; exact h)
        have ne := numL_ne (n / 10)
        have hd : (numL (n / 10) ++ [48 + n % 10]).getD 0 0 = (numL (n / 10)).getD 0 0 := by
          cases e : numL (n / 10) with
          | nil => exact absurd e ne
          | cons a b => rfl
        rcases numL_zero k (n / 10) hk with z | z
        · have := numL_val (n / 10)
          rw [z] at this
          have : n / 10 = 0 := by rw [← this]; rfl
          omega
        · exact .inr (by rw [hd]; exact z)
theorem num_is {k n : Nat} (hk : 0 < k) (h : n < 10 ^ k) : isNum (numL n) k = true := by
  have h1 := numL_len hk h
  have h0 : 1 ≤ (numL n).length := List.length_pos_iff.mpr (numL_ne n)
  have h2 : runN DIGS.cps.toList (numL n) = (numL n).length := by
    have := run_all DIGS.cps.toList (numL n) [] (all_dig (numL_digits n)) (fun c hc => by cases hc)
    rwa [List.append_nil] at this
  unfold isNum
  rw [decide_eq_true (show 1 ≤ (numL n).length ∧ (numL n).length ≤ k from ⟨h0, h1⟩), decide_eq_true h2, Bool.true_and, Bool.true_and]
  rcases numL_zero k n h with z | z
  · rw [decide_eq_true z, Bool.true_or]
  · rw [decide_eq_true z, Bool.or_true]
theorem num_dig {ds : List Nat} {k : Nat} (h : isNum ds k = true) : NumText.AllDigits ds ∧ ds ≠ [] ∧ ds.length ≤ k := by
  unfold isNum at h
  simp only [Bool.and_eq_true, decide_eq_true_eq] at h
  obtain ⟨⟨h1, h2⟩, h3, _⟩ := h
  refine ⟨?_, fun z => by rw [z] at h1; exact absurd h1 (by decide), h2⟩
  have key : ∀ l : List Nat, runN DIGS.cps.toList l = l.length → ∀ c ∈ l, c ∈ DIGS.cps.toList := by
    intro l
    induction l with
    | nil => intro _ c hc; cases hc
    | cons a r ih =>
      intro e c hc
      rw [run_cons] at e
      by_cases ha : a ∈ DIGS.cps.toList
      · rw [if_pos ha, List.length_cons] at e
        rcases List.mem_cons.mp hc with z | z
        · rw [z]; exact ha
        · exact ih (by omega) c z
      · rw [if_neg ha, List.length_cons] at e; omega
  have d : ∀ c ∈ DIGS.cps.toList, 48 ≤ c ∧ c ≤ 57 := by decide +kernel
  exact fun c hc => d c (key ds h3 c hc)
/-! which tokens pieces are -/
theorem sign_no {p : List Nat} (h : p.headD 0 ∉ ([40, 41, 123, 125] : List Nat)) : mkS p ∉ SIGNS := fun m => by
  have key : ∀ x ∈ SIGNS, x.cps.toList.headD 0 ∈ ([40, 41, 123, 125] : List Nat) := by decide +kernel
  have := key _ m
  rw [mk'_list] at this
  exact h this
theorem tok_sign : ∀ s ∈ ([40, 41, 123, 125] : List Nat), tokOf [s] = .sg (mkS [s]) := by decide +kernel
theorem tok_name {w : Str} (h : Wd w) : tokOf (39 :: w.cps.toList) = .name w := by
  unfold tokOf
  rw [if_neg (sign_no (by show 39 ∉ _; decide)), List.headD_cons, List.tail_cons, mk'_of, if_pos ⟨rfl, wd_is h⟩]
theorem tok_var {w : Str} (h : Wd w) : tokOf (36 :: w.cps.toList) = .var w := by
  unfold tokOf
  rw [if_neg (sign_no (by show 36 ∉ _; decide)), List.headD_cons, List.tail_cons, mk'_of, if_neg (fun z => absurd z.1 (by decide)), if_pos ⟨rfl, wd_is h⟩]
theorem tok_addr {n : Nat} (h : n < 10 ^ 9) : tokOf (64 :: numL n) = .addr (n : Nat) := by
  unfold tokOf
  rw [if_neg (sign_no (by show 64 ∉ _; decide)), List.headD_cons, List.tail_cons, if_neg (fun z => absurd z.1 (by decide)), if_neg (fun z => absurd z.1 (by decide)), if_pos ⟨rfl, num_is (by decide) h⟩, numL_val]
theorem dig_head {ds : List Nat} (h : ∀ c ∈ ds, c ∈ DIGS.cps.toList) (n : ds ≠ []) (l : List Nat) (hl : ∀ c ∈ DIGS.cps.toList, c ∉ l) : ds.headD 0 ∉ l := by
  cases ds with
  | nil => exact absurd rfl n
  | cons a r => exact hl _ (h a (.head _))
theorem tok_nat {n : Nat} (h : n < 10 ^ 15) : tokOf (numL n) = .int (n : Nat) := by
  have hd := dig_head (all_dig (numL_digits n)) (numL_ne n)
  unfold tokOf
  rw [if_neg (sign_no (hd _ (by decide +kernel)))]
  have k : ∀ m, m ∈ ([39, 36, 64, 45] : List Nat) → (numL n).headD 0 ≠ m := fun m hm e => hd [39, 36, 64, 45] (by decide +kernel) (by rw [e]; exact hm)
  rw [if_neg (fun z => k 39 (by decide) z.1), if_neg (fun z => k 36 (by decide) z.1), if_neg (fun z => k 64 (by decide) z.1), if_neg (fun z => k 45 (by decide) z.1), if_pos (num_is (by decide) h), numL_val]
theorem tok_neg {n : Nat} (h : n < 10 ^ 15) (h0 : 0 < n) : tokOf (45 :: numL n) = .int (-(n : Nat)) := by
  have n0 : numL n ≠ [48] := fun e => by
    have := numL_val n
    rw [e] at this
    have : n = 0 := by rw [← this]; rfl
    omega
  unfold tokOf
  rw [if_neg (sign_no (by show 45 ∉ _; decide)), List.headD_cons, List.tail_cons, if_neg (fun z => absurd z.1 (by decide)), if_neg (fun z => absurd z.1 (by decide)), if_neg (fun z => absurd z.1 (by decide)), if_pos ⟨rfl, n0, num_is (by decide) h⟩, numL_val]
theorem tok_word {w : Str} (h : Wd w) : tokOf w.cps.toList = .word w := by
  obtain ⟨s, r, e, hs⟩ := h.hd
  have ll : ∀ (l : List Nat), (∀ c ∈ LET.cps.toList, c ∉ l) → w.cps.toList.headD 0 ∉ l := fun l hl => by rw [e]; exact hl s hs
  unfold tokOf
  rw [if_neg (sign_no (ll _ (by decide +kernel)))]
  have k : ∀ m, m ∈ ([39, 36, 64, 45] : List Nat) → w.cps.toList.headD 0 ≠ m := fun m hm e => ll [39, 36, 64, 45] (by decide +kernel) (by rw [e]; exact hm)
  have nn : isNum w.cps.toList 15 = false := by
    cases hh : isNum w.cps.toList 15 with
    | false => rfl
    | true =>
      have := (num_dig hh).1
      rw [e] at this
      have := this.head
      have key : ∀ c ∈ LET.cps.toList, ¬ (48 ≤ c ∧ c ≤ 57) := by decide +kernel
      exact absurd this (key s hs)
  rw [if_neg (fun z => k 39 (by decide) z.1), if_neg (fun z => k 36 (by decide) z.1), if_neg (fun z => k 64 (by decide) z.1), if_neg (fun z => k 45 (by decide) z.1), if_neg (by rw [nn]; decide), mk'_of, if_pos (wd_is h)]
end PK
namespace PK
open PySem L2 _root_.TL
/-! terms -/
inductive Rm where
  | int (n : Int)
  | name (s : Str)
  | addr (n : Int)
  | var (s : Str)
  | node (c : Str) (ts : List Rm)
  | map (es : List (Str × Rm))
mutual
def Rm.d : Rm → PyData
  | .int n => .tuple [.str "int", .int n]
  | .name s => .tuple [.str "name", .str s]
  | .addr n => .tuple [.str "addr", .int n]
  | .var s => .tuple [.str "meta", .str s]
  | .node c ts => .tuple [.str "node", .str c, .tuple (Rm.ds ts)]
  | .map es => .tuple [.str "map", .tuple (Rm.es es)]
def Rm.ds : List Rm → List PyData
  | [] => []
  | t :: r => t.d :: Rm.ds r
def Rm.es : List (Str × Rm) → List PyData
  | [] => []
  | (w, t) :: r => .tuple [.str w, t.d] :: Rm.es r
end
theorem Rm.ds_map : ∀ ts : List Rm, Rm.ds ts = ts.map Rm.d
  | [] => rfl
  | t :: r => by unfold Rm.ds; rw [Rm.ds_map r]; rfl
theorem Rm.es_map : ∀ es : List (Str × Rm), Rm.es es = es.map fun e => PyData.tuple [.str e.1, e.2.d]
  | [] => rfl
  | (w, t) :: r => by unfold Rm.es; rw [Rm.es_map r]; rfl
/-! reading, purely -/
/-- (too deep?, the position) -/
abbrev PErr := Bool × Nat
abbrev ents (es : List (Str × Rm)) : List (Str × Rm) := es.mergeSort fun a b => decide (a.1.cps.toList ≤ b.1.cps.toList)
def pMany (r : Nat → Except PErr (Rm × Nat)) : Nat → Nat → Except PErr (List Rm × Nat)
  | 0, i => .ok ([], i)
  | n + 1, i => match r i with
    | .error e => .error e
    | .ok (t, j) => match pMany r n j with
      | .error e => .error e
      | .ok (ts, k) => .ok (t :: ts, k)
def pEnts (r : Nat → Except PErr (Rm × Nat)) (tk : List (Tk × Nat)) : Nat → Nat → List (Str × Rm) → Except PErr (List (Str × Rm) × Nat)
  | 0, i, acc => .ok (acc, i)
  | n + 1, i, acc => match tk[i]? with
    | some (.name w, _) => if w ∈ acc.map (·.1) then .ok (acc, i) else match r (i + 1) with
      | .error e => .error e
      | .ok (t, j) => pEnts r tk n j (acc ++ [(w, t)])
    | _ => .ok (acc, i)
def pClose (tk : List (Tk × Nat)) (s : Str) (j : Nat) (t : Rm) : Except PErr (Rm × Nat) := match tk[j]? with
  | some (k, p) => if k.kind = s then .ok (t, j + 1) else .error (false, p)
  | none => .error (false, 0)
def pNode (sig : List (Str × Nat)) (tk : List (Tk × Nat)) (r : Nat → Except PErr (Rm × Nat)) (d i p : Nat) : Except PErr (Rm × Nat) := match tk[i + 1]? with
  | some (.word c, q) => match sig.lookup c with
    | none => .error (false, q)
    | some m => if 60 ≤ d then .error (true, p) else match pMany r m (i + 2) with
      | .error e => .error e
      | .ok (ts, j) => pClose tk ")" j (.node c ts)
  | some (_, q) => .error (false, q)
  | none => .error (false, 0)
def pMap (tk : List (Tk × Nat)) (r : Nat → Except PErr (Rm × Nat)) (d i p : Nat) : Except PErr (Rm × Nat) :=
  if 60 ≤ d then .error (true, p) else match pEnts r tk tk.length (i + 1) [] with
    | .error e => .error e
    | .ok (es, j) => pClose tk "}" j (.map (ents es))
def pTerm (sig : List (Str × Nat)) (tk : List (Tk × Nat)) : Nat → Nat → Nat → Except PErr (Rm × Nat)
  | 0, _, _ => .error (false, 0)
  | f + 1, d, i => match tk[i]? with
    | some (.int n, _) => .ok (.int n, i + 1)
    | some (.name w, _) => .ok (.name w, i + 1)
    | some (.addr n, _) => .ok (.addr n, i + 1)
    | some (.var w, _) => .ok (.var w, i + 1)
    | some (.word w, p) => if sig.lookup w = some 0 then .ok (.node w [], i + 1) else .error (false, p)
    | some (.sg s, p) =>
      if s = "{" then pMap tk (pTerm sig tk f (d + 1)) d i p
      else if s = "(" then
        if sig = [] then .error (false, p) else pNode sig tk (pTerm sig tk f (d + 1)) d i p
      else .error (false, p)
    | some (_, p) => .error (false, p)
    | none => .error (false, 0)
/-- the whole reading -/
def pRead (sig : List (Str × Nat)) (cs : List Nat) : Except PErr Rm := match pTerm sig (toks cs) 61 0 0 with
  | .error e => .error e
  | .ok (t, j) => match (toks cs)[j]? with
    | some (k, p) => if k = .fin then .ok t else .error (false, p)
    | none => .error (false, 0)
/-! the tokens of a term: Fl n: with at most n open signs within each other -/
def Leaf (sig : List (Str × Nat)) : Rm → List Tk → Prop
  | .int n, ts => ts = [.int n]
  | .name w, ts => ts = [.name w]
  | .addr n, ts => ts = [.addr n]
  | .var w, ts => ts = [.var w]
  | .node c [], ts => ts = [.word c] ∧ sig.lookup c = some 0
  | _, _ => False
def FlL (R : Rm → List Tk → Prop) : List Rm → List Tk → Prop
  | [], b => b = []
  | t :: r, b => ∃ a b', b = a ++ b' ∧ R t a ∧ FlL R r b'
def FlE (R : Rm → List Tk → Prop) : List (Str × Rm) → List Tk → Prop
  | [], b => b = []
  | (w, t) :: r, b => ∃ a b', b = .name w :: (a ++ b') ∧ R t a ∧ FlE R r b'
def Fl (sig : List (Str × Nat)) : Nat → Rm → List Tk → Prop
  | 0, t, ts => Leaf sig t ts
  | n + 1, t, ts => Leaf sig t ts ∨ (∃ c us body, t = .node c us ∧ sig.lookup c = some us.length ∧ FlL (Fl sig n) us body ∧ ts = .sg "(" :: .word c :: (body ++ [.sg ")"])) ∨
    ∃ es body, t = .map (ents es) ∧ (es.map (·.1)).Nodup ∧ FlE (Fl sig n) es body ∧ ts = .sg "{" :: (body ++ [.sg "}"])
/-- these tokens stand from i on -/
def At (tk : List (Tk × Nat)) (i : Nat) (ts : List Tk) : Prop := ∃ rest, (tk.drop i).map (·.1) = ts ++ rest
theorem At.hd {tk : List (Tk × Nat)} {i : Nat} {t : Tk} {ts : List Tk} (h : At tk i (t :: ts)) : (∃ p, tk[i]? = some (t, p)) ∧ At tk (i + 1) ts := by
  obtain ⟨rest, e⟩ := h
  cases d : tk.drop i with
  | nil => rw [d] at e; simp at e
  | cons x r =>
    rw [d] at e
    simp only [List.map_cons, List.cons_append, List.cons.injEq] at e
    have g : tk[i]? = some x := by
      have := congrArg (·[0]?) d
      simpa using this
    have r' : tk.drop (i + 1) = r := by
      have := congrArg List.tail d
      simpa using this
    exact ⟨⟨x.2, by rw [g, ← e.1]⟩, rest, by rw [r']; exact e.2⟩
theorem At.app {tk : List (Tk × Nat)} {i : Nat} {a b : List Tk} (h : At tk i (a ++ b)) : At tk i a ∧ At tk (i + a.length) b := by
  obtain ⟨rest, e⟩ := h
  refine ⟨⟨b ++ rest, by rw [e, List.append_assoc]⟩, rest, ?_⟩
  have := congrArg (List.drop a.length) e
  rw [List.append_assoc, List.drop_left, ← List.map_drop, List.drop_drop] at this
  exact this
theorem many_ok {R : Rm → List Tk → Prop} {tk : List (Tk × Nat)} {r : Nat → Except PErr (Rm × Nat)} (hr : ∀ t a i, R t a → At tk i a → r i = .ok (t, i + a.length)) :
    ∀ (us : List Rm) (b : List Tk) (i : Nat), FlL R us b → At tk i b → pMany r us.length i = .ok (us, i + b.length)
  | [], b, i, h, _ => by
    have : b = [] := h
    subst this; rfl
  | t :: us, b, i, h, ha => by
    obtain ⟨a, b', rfl, h1, h2⟩ := h
    obtain ⟨x1, x2⟩ := ha.app
    rw [List.length_cons]
    unfold pMany
    rw [hr t a i h1 x1]
    dsimp only
    rw [many_ok hr us b' _ h2 x2, List.length_append]
    dsimp only
    rw [Nat.add_assoc]
theorem ents_ok {R : Rm → List Tk → Prop} {tk : List (Tk × Nat)} {r : Nat → Except PErr (Rm × Nat)} (hr : ∀ t a i, R t a → At tk i a → r i = .ok (t, i + a.length)) :
    ∀ (es : List (Str × Rm)) (b : List Tk) (i n : Nat) (acc : List (Str × Rm)), FlE R es b → At tk i (b ++ [.sg "}"]) → b.length < n → ((acc ++ es).map (·.1)).Nodup → pEnts r tk n i acc = .ok (acc ++ es, i + b.length)
  | [], b, i, n, acc, h, ha, hn, _ => by
    have : b = [] := h
    subst this
    obtain ⟨⟨p, e⟩, _⟩ := At.hd ha
    obtain ⟨n, rfl⟩ : ∃ m, n = m + 1 := ⟨n - 1, by simp at hn; omega⟩
    unfold pEnts
    rw [e, List.append_nil]
    rfl
  | (w, t) :: es, b, i, n, acc, h, ha, hn, nd => by
    obtain ⟨a, b', rfl, h1, h2⟩ := h
    rw [List.cons_append, List.append_assoc] at ha
    obtain ⟨⟨p, e⟩, ha2⟩ := At.hd ha
    obtain ⟨x1, x2⟩ := ha2.app
    rw [List.length_cons, List.length_append] at hn
    obtain ⟨n, rfl⟩ : ∃ m, n = m + 1 := ⟨n - 1, by omega⟩
    have nw : w ∉ acc.map (·.1) := fun z => by
      rw [List.map_append, List.map_cons] at nd
      exact (List.nodup_append.mp nd).2.2 w z w (.head _) rfl
    unfold pEnts
    rw [e]
    dsimp only
    rw [if_neg nw, hr t a _ h1 x1]
    dsimp only
    rw [ents_ok hr es b' _ n (acc ++ [(w, t)]) h2 x2 (by omega) (by rw [List.append_assoc]; exact nd), List.append_assoc, List.length_cons, List.length_append]
    congr 2
    omega
theorem close_ok {tk : List (Tk × Nat)} {s : Str} {j : Nat} {t : Rm} (h : At tk j [.sg s]) : pClose tk s j t = .ok (t, j + 1) := by
  obtain ⟨⟨p, e⟩, _⟩ := h.hd
  unfold pClose
  rw [e]
  exact if_pos rfl
theorem At.len {tk : List (Tk × Nat)} {i : Nat} {a : List Tk} (h : At tk i a) : a.length ≤ tk.length := by
  obtain ⟨rest, e⟩ := h
  have := congrArg List.length e
  rw [List.length_map, List.length_drop, List.length_append] at this
  omega
theorem leaf_ok {sig : List (Str × Nat)} {tk : List (Tk × Nat)} {f d i : Nat} {t : Rm} {ts : List Tk} (h : Leaf sig t ts) (ha : At tk i ts) : pTerm sig tk (f + 1) d i = .ok (t, i + ts.length) := by
  unfold Leaf at h
  split at h
  all_goals try exact h.elim
  all_goals first
    | (obtain ⟨rfl, hl⟩ := h; obtain ⟨⟨p, e⟩, _⟩ := ha.hd; unfold pTerm; rw [e]; dsimp only; rw [if_pos hl]; rfl)
    | (subst h; obtain ⟨⟨p, e⟩, _⟩ := ha.hd; unfold pTerm; rw [e]; rfl)
theorem read_ok {sig : List (Str × Nat)} {tk : List (Tk × Nat)} : ∀ (n : Nat) (t : Rm) (ts : List Tk) (f d i : Nat), Fl sig n t ts → At tk i ts → n + d ≤ 60 → n < f → pTerm sig tk f d i = .ok (t, i + ts.length) := by
  intro n
  induction n with
  | zero =>
    intro t ts f d i h ha _ hf
    obtain ⟨f, rfl⟩ : ∃ m, f = m + 1 := ⟨f - 1, by omega⟩
    exact leaf_ok h ha
  | succ n ih =>
    intro t ts f d i h ha hd hf
    obtain ⟨f, rfl⟩ : ∃ m, f = m + 1 := ⟨f - 1, by omega⟩
    have hr : ∀ t a i, Fl sig n t a → At tk i a → pTerm sig tk f (d + 1) i = .ok (t, i + a.length) := fun t a i h1 h2 => ih t a f (d + 1) i h1 h2 (by omega) (by omega)
    rcases h with h | ⟨c, us, body, rfl, hl, hb, rfl⟩ | ⟨es, body, rfl, nd, hb, rfl⟩
    · exact leaf_ok h ha
    · obtain ⟨⟨p, e⟩, h1⟩ := ha.hd
      obtain ⟨⟨q, e2⟩, h2⟩ := h1.hd
      obtain ⟨h3, h4⟩ := h2.app
      unfold pTerm
      rw [e]
      dsimp only
      rw [if_neg (by decide +kernel), if_pos rfl, if_neg (fun z => by rw [z] at hl; cases hl)]
      unfold pNode
      rw [e2]
      dsimp only
      rw [hl]
      dsimp only
      rw [if_neg (by omega), many_ok hr us body _ hb h3]
      dsimp only
      rw [close_ok h4]
      simp only [List.length_cons, List.length_append, List.length_nil]
      congr 2
      omega
    · obtain ⟨⟨p, e⟩, h1⟩ := ha.hd
      obtain ⟨_, h4⟩ := h1.app
      have hlen := ha.len
      simp only [List.length_cons, List.length_append, List.length_nil] at hlen
      unfold pTerm
      rw [e]
      dsimp only
      rw [if_pos rfl]
      unfold pMap
      rw [if_neg (by omega), ents_ok hr es body _ _ [] hb h1 (by omega) nd]
      dsimp only
      rw [List.nil_append, close_ok h4]
      simp only [List.length_cons, List.length_append, List.length_nil]
      congr 2
      omega
/-- a text in which the tokens of a term lie is read -/
theorem text_ok {sig : List (Str × Nat)} {cs : List Nat} {n : Nat} {t : Rm} {ts : List Tk} (hl : Lays cs ts) (hf : Fl sig n t ts) (hn : n ≤ 60) : pRead sig cs = .ok t := by
  have e : (toks cs).map (·.1) = ts ++ [.fin] := by
    unfold toks
    rw [List.map_append, hl 0]; rfl
  have ha : At (toks cs) 0 ts := ⟨[.fin], by rw [List.drop_zero]; exact e⟩
  have h2 : (toks cs)[ts.length]?.map (·.1) = some .fin := by
    rw [← List.getElem?_map, e]
    simp
  unfold pRead
  rw [read_ok n t ts 61 0 0 hf ha (by omega) (by omega)]
  dsimp only
  rw [Nat.zero_add]
  cases g : (toks cs)[ts.length]? with
  | none => rw [g] at h2; cases h2
  | some x =>
    rw [g] at h2
    obtain ⟨k, p⟩ := x
    have : k = .fin := by simpa using h2
    dsimp only
    rw [if_pos this]
/-! where reading stops -/
def Ended (tk : List (Tk × Nat)) : Prop := ∃ tk' p, tk = tk' ++ [(Tk.fin, p)]
theorem Ended.lt {tk : List (Tk × Nat)} (h : Ended tk) {i : Nat} {k : Tk} {p : Nat} (e : tk[i]? = some (k, p)) (hk : k ≠ .fin) : i + 1 < tk.length := by
  obtain ⟨tk', q, rfl⟩ := h
  have hi := (List.getElem?_eq_some_iff.mp e).1
  rw [List.length_append, List.length_singleton] at hi ⊢
  by_cases z : i = tk'.length
  · subst z
    simp at e
    exact absurd e.1.symm hk
  · omega
theorem many_lt {r : Nat → Except PErr (Rm × Nat)} {n : Nat} (hr : ∀ i t j, i < n → r i = .ok (t, j) → i < j ∧ j < n) : ∀ (m i : Nat) (ts : List Rm) (j : Nat), i < n → pMany r m i = .ok (ts, j) → i ≤ j ∧ j < n
  | 0, i, ts, j, hi, h => by cases h; exact ⟨Nat.le_refl _, hi⟩
  | m + 1, i, ts, j, hi, h => by
    unfold pMany at h
    cases e : r i with
    | error x => rw [e] at h; cases h
    | ok x =>
      obtain ⟨t, k⟩ := x
      rw [e] at h
      dsimp only at h
      obtain ⟨a, b⟩ := hr i t k hi e
      cases e2 : pMany r m k with
      | error x => rw [e2] at h; cases h
      | ok x =>
        obtain ⟨us, l⟩ := x
        rw [e2] at h
        dsimp only at h
        cases h
        have := many_lt hr m k us j b e2
        omega
theorem ents_lt {tk : List (Tk × Nat)} (he : Ended tk) {r : Nat → Except PErr (Rm × Nat)} (hr : ∀ i t j, i < tk.length → r i = .ok (t, j) → i < j ∧ j < tk.length) :
    ∀ (m i : Nat) (acc es : List (Str × Rm)) (j : Nat), i < tk.length → pEnts r tk m i acc = .ok (es, j) → i ≤ j ∧ j < tk.length
  | 0, i, acc, es, j, hi, h => by cases h; exact ⟨Nat.le_refl _, hi⟩
  | m + 1, i, acc, es, j, hi, h => by
    unfold pEnts at h
    split at h
    · rename_i w p e
      split at h
      · cases h; exact ⟨Nat.le_refl _, hi⟩
      · have h1 := he.lt e (by intro z; cases z)
        cases e2 : r (i + 1) with
        | error x => rw [e2] at h; cases h
        | ok x =>
          obtain ⟨t, k⟩ := x
          rw [e2] at h
          dsimp only at h
          obtain ⟨a, b⟩ := hr _ t k h1 e2
          have := ents_lt he hr m k _ es j b h
          omega
    · cases h; exact ⟨Nat.le_refl _, hi⟩
theorem close_lt {tk : List (Tk × Nat)} (he : Ended tk) {s : Str} (hs : s ≠ "end") {j k : Nat} {t u : Rm} (h : pClose tk s j t = .ok (u, k)) : u = t ∧ k = j + 1 ∧ k < tk.length := by
  unfold pClose at h
  split at h
  · rename_i x p e
    split at h
    · rename_i ks
      cases h
      exact ⟨rfl, rfl, he.lt e (fun z => hs (by rw [← ks, z]; rfl))⟩
    · cases h
  · cases h
theorem term_lt {sig : List (Str × Nat)} {tk : List (Tk × Nat)} (he : Ended tk) : ∀ (f d i : Nat) (t : Rm) (j : Nat), i < tk.length → pTerm sig tk f d i = .ok (t, j) → i < j ∧ j < tk.length := by
  intro f
  induction f with
  | zero => intro d i t j _ h; cases h
  | succ f ih =>
    intro d i t j hi h
    have hr : ∀ i t j, i < tk.length → pTerm sig tk f (d + 1) i = .ok (t, j) → i < j ∧ j < tk.length := fun i t j h1 h2 => ih (d + 1) i t j h1 h2
    unfold pTerm at h
    split at h
    · rename_i e; cases h; exact ⟨by omega, he.lt e (by intro z; cases z)⟩
    · rename_i e; cases h; exact ⟨by omega, he.lt e (by intro z; cases z)⟩
    · rename_i e; cases h; exact ⟨by omega, he.lt e (by intro z; cases z)⟩
    · rename_i e; cases h; exact ⟨by omega, he.lt e (by intro z; cases z)⟩
    · rename_i e
      split at h
      · cases h; exact ⟨by omega, he.lt e (by intro z; cases z)⟩
      · cases h
    · rename_i s p e
      have h1 := he.lt e (by intro z; cases z)
      split at h
      · unfold pMap at h
        split at h
        · cases h
        · split at h
          · cases h
          · rename_i es k e2
            obtain ⟨a, b⟩ := ents_lt he hr _ _ _ _ _ h1 e2
            obtain ⟨_, c1, c2⟩ := close_lt he (by decide +kernel) h
            omega
      · split at h
        · split at h
          · cases h
          · unfold pNode at h
            split at h
            · rename_i c q e2
              have h2 := he.lt e2 (by intro z; cases z)
              split at h
              · cases h
              · split at h
                · cases h
                · split at h
                  · cases h
                  · rename_i ts k e3
                    obtain ⟨a, b⟩ := many_lt hr _ _ _ _ h2 e3
                    obtain ⟨_, c1, c2⟩ := close_lt he (by decide +kernel) h
                    omega
            · cases h
            · cases h
        · cases h
    · cases h
    · cases h
theorem toks_ended (cs : List Nat) : Ended (toks cs) := ⟨_, _, rfl⟩
end PK
namespace PK
open PySem L2 _root_.TL
/-! the reader as a machine: what stands open, and what a token does to it -/
inductive MF where
  | node (n : Nat)
  | map (seen : List Str)
inductive MS where
  | exp (k : List MF)
  | ret (k : List MF)
  | hd (p : Nat) (k : List MF)
  | stop
def mExp (sig : List (Str × Nat)) (k : List MF) : Tk × Nat → Except PErr MS
  | (.int _, _) => .ok (.ret k)
  | (.name _, _) => .ok (.ret k)
  | (.addr _, _) => .ok (.ret k)
  | (.var _, _) => .ok (.ret k)
  | (.word w, p) => if sig.lookup w = some 0 then .ok (.ret k) else .error (false, p)
  | (.sg s, p) =>
    if s = "{" then (if 60 ≤ k.length then .error (true, p) else .ok (.ret (.map [] :: k)))
    else if s = "(" then (if sig = [] then .error (false, p) else .ok (.hd p k))
    else .error (false, p)
  | (_, p) => .error (false, p)
def mHd (sig : List (Str × Nat)) (q : Nat) (k : List MF) : Tk × Nat → Except PErr MS
  | (.word c, p) => match sig.lookup c with
    | none => .error (false, p)
    | some m => if 60 ≤ k.length then .error (true, q) else .ok (.ret (.node m :: k))
  | (_, p) => .error (false, p)
def mClose (s : Str) (k : List MF) : Tk × Nat → Except PErr MS
  | (t, p) => if t.kind = s then .ok (.ret k) else .error (false, p)
def mMap (seen : List Str) (k : List MF) : Tk × Nat → Except PErr MS
  | (.name w, p) => if w ∈ seen then mClose "}" k (.name w, p) else .ok (.exp (.map (seen ++ [w]) :: k))
  | (t, p) => mClose "}" k (t, p)
def mStep (sig : List (Str × Nat)) : MS → Tk × Nat → Except PErr MS
  | .exp k, t => mExp sig k t
  | .hd q k, t => mHd sig q k t
  | .ret [], (t, p) => if t = .fin then .ok .stop else .error (false, p)
  | .ret (.node 0 :: k), t => mClose ")" k t
  | .ret (.node (n + 1) :: k), t => mExp sig (.node n :: k) t
  | .ret (.map seen :: k), t => mMap seen k t
  | .stop, _ => .ok .stop
def mRun (sig : List (Str × Nat)) : MS → List (Tk × Nat) → Except PErr MS
  | s, [] => .ok s
  | s, t :: r => match mStep sig s t with
    | .error e => .error e
    | .ok s' => mRun sig s' r
variable {sig : List (Str × Nat)}
theorem errE {α β : Type} {a b : PErr} (h : (Except.error a : Except PErr α) = .error b) : (Except.error a : Except PErr β) = .error b := by cases h; rfl
theorem mRun_cons {s : MS} {t : Tk × Nat} {r : List (Tk × Nat)} : mRun sig s (t :: r) = match mStep sig s t with | Except.error e => Except.error e | .ok s' => mRun sig s' r := rfl
theorem run_app {s : MS} {a b : List (Tk × Nat)} : mRun sig s (a ++ b) = match mRun sig s a with | Except.error e => Except.error e | .ok s' => mRun sig s' b := by
  induction a generalizing s with
  | nil => rfl
  | cons t r ih =>
    rw [List.cons_append, mRun_cons, mRun_cons]
    cases mStep sig s t with
    | error e => rfl
    | ok s' => exact ih
theorem run_err {s : MS} {a b : List (Tk × Nat)} {e : PErr} (h : mRun sig s a = .error e) : mRun sig s (a ++ b) = .error e := by rw [run_app, h]
theorem run_ok {s s' : MS} {a b : List (Tk × Nat)} (h : mRun sig s a = .ok s') : mRun sig s (a ++ b) = mRun sig s' b := by rw [run_app, h]
theorem run_one {s s' : MS} {t : Tk × Nat} {r : List (Tk × Nat)} (h : mStep sig s t = .ok s') : mRun sig s (t :: r) = mRun sig s' r := by
  show (match mStep sig s t with | Except.error e => Except.error e | .ok s' => mRun sig s' r) = _
  rw [h]
theorem run_one_err {s : MS} {t : Tk × Nat} {r : List (Tk × Nat)} {e : PErr} (h : mStep sig s t = .error e) : mRun sig s (t :: r) = .error e := by
  show (match mStep sig s t with | Except.error e => Except.error e | .ok s' => mRun sig s' r) = _
  rw [h]
theorem run_ret {n : Nat} {k : List MF} {l : List (Tk × Nat)} {e : PErr} (h : mRun sig (.ret (.node (n + 1) :: k)) l = .error e) : mRun sig (.exp (.node n :: k)) l = .error e := by
  cases l with
  | nil => cases h
  | cons t r => exact h
theorem drop_get {tk : List (Tk × Nat)} {i : Nat} {x : Tk × Nat} (h : tk[i]? = some x) : tk.drop i = x :: tk.drop (i + 1) := by
  obtain ⟨hi, e⟩ := List.getElem?_eq_some_iff.mp h
  rw [List.drop_eq_getElem_cons hi, e]
theorem drop_none {tk : List (Tk × Nat)} {i : Nat} (h : tk[i]? = none) : tk.drop i = [] := List.drop_eq_nil_of_le (List.getElem?_eq_none_iff.mp h)
/-- where the machine stops, the reader does: what a part of the reader has to do with it -/
def Sim (sig : List (Str × Nat)) (tk : List (Tk × Nat)) {α : Type} (r : Except PErr (α × Nat)) (i : Nat) (s1 s2 : MS) : Prop :=
  ∀ e, mRun sig s1 (tk.drop i) = .error e → r = .error e ∨ ∃ t j, r = .ok (t, j) ∧ i ≤ j ∧ mRun sig s2 (tk.drop j) = .error e
theorem sim_many {tk : List (Tk × Nat)} {r : Nat → Except PErr (Rm × Nat)} {k : List MF} (hr : ∀ i k', k'.length = k.length + 1 → ∀ e, mRun sig (.exp k') (tk.drop i) = .error e → r i = .error e ∨ ∃ t j, r i = .ok (t, j) ∧ i < j ∧ mRun sig (.ret k') (tk.drop j) = .error e) :
    ∀ (m i : Nat) (e : PErr), mRun sig (.ret (.node m :: k)) (tk.drop i) = .error e → pMany r m i = .error e ∨ ∃ t j, pMany r m i = .ok (t, j) ∧ i ≤ j ∧ mRun sig (.ret (.node 0 :: k)) (tk.drop j) = .error e
  | 0, i, e, h => .inr ⟨[], i, rfl, Nat.le_refl _, h⟩
  | m + 1, i, e, h => by
    rcases hr i (.node m :: k) rfl e (run_ret h) with h1 | ⟨t, j, h1, hj, h2⟩
    · left
      unfold pMany
      rw [h1]
    · rcases sim_many hr m j e h2 with h3 | ⟨ts, j2, h3, hj2, h4⟩
      · left
        unfold pMany
        rw [h1]
        dsimp only
        rw [h3]
      · right
        refine ⟨t :: ts, j2, ?_, by omega, h4⟩
        unfold pMany
        rw [h1]
        dsimp only
        rw [h3]
theorem sim_close {tk : List (Tk × Nat)} {s : Str} {k : List MF} {j : Nat} {t : Rm} {s1 : MS} (hs : ∀ x, mStep sig s1 x = mClose s k x) {e : PErr} (h : mRun sig s1 (tk.drop j) = .error e) :
    pClose tk s j t = .error e ∨ ∃ t' j', pClose tk s j t = .ok (t', j') ∧ j < j' ∧ mRun sig (.ret k) (tk.drop j') = .error e := by
  cases g : tk[j]? with
  | none => rw [drop_none g] at h; cases h
  | some x =>
    obtain ⟨y, p⟩ := x
    rw [drop_get g] at h
    unfold pClose
    rw [g]
    dsimp only
    by_cases c : y.kind = s
    · right
      rw [if_pos c]
      rw [run_one (by rw [hs]; exact if_pos c)] at h
      exact ⟨t, j + 1, rfl, by omega, h⟩
    · left
      rw [if_neg c]
      rw [run_one_err (by rw [hs]; exact if_neg c)] at h
      exact errE h
theorem map_step {seen : List Str} {k : List MF} {t : Tk} {p : Nat} (h : ∀ w, t = .name w → w ∈ seen) : mStep sig (.ret (.map seen :: k)) (t, p) = mClose "}" k (t, p) := by
  show mMap seen k (t, p) = _
  cases t with
  | name w => exact if_pos (h w rfl)
  | _ => rfl
theorem sim_ents {tk : List (Tk × Nat)} {r : Nat → Except PErr (Rm × Nat)} {k : List MF} (hr : ∀ i k', k'.length = k.length + 1 → ∀ e, mRun sig (.exp k') (tk.drop i) = .error e → r i = .error e ∨ ∃ t j, r i = .ok (t, j) ∧ i < j ∧ mRun sig (.ret k') (tk.drop j) = .error e) :
    ∀ (n i : Nat) (acc : List (Str × Rm)) (e : PErr), tk.length ≤ n + i → mRun sig (.ret (.map (acc.map (·.1)) :: k)) (tk.drop i) = .error e →
      (match pEnts r tk n i acc with | Except.error e => Except.error e | .ok (es, j) => pClose tk "}" j (.map (ents es))) = .error e ∨
      ∃ t j, (match pEnts r tk n i acc with | Except.error e => Except.error e | .ok (es, j) => pClose tk "}" j (.map (ents es))) = .ok (t, j) ∧ i < j ∧ mRun sig (.ret k) (tk.drop j) = .error e
  | 0, i, acc, e, hn, h => by
    rw [List.drop_eq_nil_of_le (by omega)] at h; cases h
  | n + 1, i, acc, e, hn, h => by
    cases g : tk[i]? with
    | none => rw [drop_none g] at h; cases h
    | some x =>
      obtain ⟨y, p⟩ := x
      have cl : (∀ w, y = .name w → w ∈ acc.map (·.1)) → pEnts r tk (n + 1) i acc = .ok (acc, i) → (match pEnts r tk (n + 1) i acc with | Except.error e => Except.error e | .ok (es, j) => pClose tk "}" j (.map (ents es))) = .error e ∨
          ∃ t j, (match pEnts r tk (n + 1) i acc with | Except.error e => Except.error e | .ok (es, j) => pClose tk "}" j (.map (ents es))) = .ok (t, j) ∧ i < j ∧ mRun sig (.ret k) (tk.drop j) = .error e := fun hy he => by
        rw [he]
        dsimp only
        rw [drop_get g] at h
        have st := map_step (sig := sig) (k := k) (p := p) hy
        unfold pClose
        rw [g]
        dsimp only
        by_cases c : y.kind = "}"
        · right
          rw [if_pos c]
          rw [run_one (by rw [st]; exact if_pos c)] at h
          exact ⟨_, i + 1, rfl, by omega, h⟩
        · left
          rw [if_neg c]
          rw [run_one_err (by rw [st]; exact if_neg c)] at h
          exact errE h
      cases y with
      | name w =>
        by_cases hw : w ∈ acc.map (·.1)
        · refine cl (fun w' e' => by cases e'; exact hw) ?_
          unfold pEnts
          rw [g]
          exact if_pos hw
        · rw [drop_get g, run_one (s' := .exp (.map (acc.map (·.1) ++ [w]) :: k)) (by exact if_neg hw)] at h
          have pe : pEnts r tk (n + 1) i acc = match r (i + 1) with | Except.error e => Except.error e | .ok (t, j) => pEnts r tk n j (acc ++ [(w, t)]) := by
            conv => lhs; unfold pEnts
            rw [g]
            exact if_neg hw
          rcases hr (i + 1) _ rfl e h with h1 | ⟨t, j, h1, hj, h2⟩
          · left
            rw [pe, h1]
          · rw [pe, h1]
            dsimp only
            have e2 : acc.map (·.1) ++ [w] = (acc ++ [(w, t)]).map (·.1) := by rw [List.map_append]; rfl
            rw [e2] at h2
            rcases sim_ents hr n j (acc ++ [(w, t)]) e (by omega) h2 with h3 | ⟨t3, j3, h3, hj3, h4⟩
            · exact .inl h3
            · exact .inr ⟨t3, j3, h3, by omega, h4⟩
      | _ =>
        refine cl (fun w' e' => by cases e') ?_
        unfold pEnts
        rw [g]
theorem sim_term {tk : List (Tk × Nat)} : ∀ (f i : Nat) (k : List MF), f + k.length = 61 → 0 < f → ∀ e, mRun sig (.exp k) (tk.drop i) = .error e →
    pTerm sig tk f k.length i = .error e ∨ ∃ t j, pTerm sig tk f k.length i = .ok (t, j) ∧ i < j ∧ mRun sig (.ret k) (tk.drop j) = .error e := by
  intro f
  induction f with
  | zero => intro i k _ h; omega
  | succ f ih =>
    intro i k hk _ e h
    cases g : tk[i]? with
    | none => rw [drop_none g] at h; cases h
    | some x =>
      obtain ⟨y, p⟩ := x
      rw [drop_get g] at h
      have hr : k.length < 60 → ∀ i k', k'.length = k.length + 1 → ∀ e, mRun sig (.exp k') (tk.drop i) = .error e → pTerm sig tk f (k.length + 1) i = .error e ∨ ∃ t j, pTerm sig tk f (k.length + 1) i = .ok (t, j) ∧ i < j ∧ mRun sig (.ret k') (tk.drop j) = .error e := fun hd i k' hk' e h => by
        rw [← hk']
        exact ih i k' (by omega) (by omega) e h
      have leaf : ∀ t, pTerm sig tk (f + 1) k.length i = .ok (t, i + 1) → mStep sig (.exp k) (y, p) = .ok (.ret k) → pTerm sig tk (f + 1) k.length i = .error e ∨ ∃ t j, pTerm sig tk (f + 1) k.length i = .ok (t, j) ∧ i < j ∧ mRun sig (.ret k) (tk.drop j) = .error e := fun t h1 h2 => by
        rw [run_one h2] at h
        exact .inr ⟨t, i + 1, h1, by omega, h⟩
      have bad : ∀ b, pTerm sig tk (f + 1) k.length i = .error b → mStep sig (.exp k) (y, p) = .error b → pTerm sig tk (f + 1) k.length i = .error e ∨ ∃ t j, pTerm sig tk (f + 1) k.length i = .ok (t, j) ∧ i < j ∧ mRun sig (.ret k) (tk.drop j) = .error e := fun b h1 h2 => by
        rw [run_one_err h2] at h
        exact .inl (h1.trans (errE h))
      cases y with
      | int n => exact leaf (.int n) (by unfold pTerm; rw [g]) rfl
      | name n => exact leaf (.name n) (by unfold pTerm; rw [g]) rfl
      | addr n => exact leaf (.addr n) (by unfold pTerm; rw [g]) rfl
      | var n => exact leaf (.var n) (by unfold pTerm; rw [g]) rfl
      | bad => exact bad (false, p) (by unfold pTerm; rw [g]) rfl
      | fin => exact bad (false, p) (by unfold pTerm; rw [g]) rfl
      | word w =>
        by_cases c : sig.lookup w = some 0
        · exact leaf (.node w []) (by unfold pTerm; rw [g]; exact if_pos c) (if_pos c)
        · exact bad (false, p) (by unfold pTerm; rw [g]; exact if_neg c) (if_neg c)
      | sg s =>
        by_cases c1 : s = "{"
        · have pt : pTerm sig tk (f + 1) k.length i = pMap tk (pTerm sig tk f (k.length + 1)) k.length i p := by
            conv => lhs; unfold pTerm
            rw [g]
            exact if_pos c1
          have st : mStep sig (.exp k) (.sg s, p) = if 60 ≤ k.length then .error (true, p) else .ok (.ret (.map [] :: k)) := by
            show mExp sig k (.sg s, p) = _
            unfold mExp
            exact if_pos c1
          by_cases d : 60 ≤ k.length
          · exact bad (true, p) (by rw [pt]; exact if_pos d) (by rw [st, if_pos d])
          · rw [if_neg d] at st
            rw [run_one st] at h
            rw [pt]
            unfold pMap
            rw [if_neg d]
            rcases sim_ents (hr (by omega)) tk.length (i + 1) [] e (by omega) h with h1 | ⟨t, j, h1, hj, h2⟩
            · exact .inl h1
            · exact .inr ⟨t, j, h1, by omega, h2⟩
        by_cases c2 : s = "("
        · by_cases c3 : sig = []
          · refine bad (false, p) ?_ ?_
            · conv => lhs; unfold pTerm
              rw [g]
              dsimp only
              rw [if_neg c1, if_pos c2, if_pos c3]
            · show mExp sig k (.sg s, p) = _
              unfold mExp
              dsimp only
              rw [if_neg c1, if_pos c2, if_pos c3]
          · have pt : pTerm sig tk (f + 1) k.length i = pNode sig tk (pTerm sig tk f (k.length + 1)) k.length i p := by
              conv => lhs; unfold pTerm
              rw [g]
              dsimp only
              rw [if_neg c1, if_pos c2, if_neg c3]
            have st : mStep sig (.exp k) (.sg s, p) = .ok (.hd p k) := by
              show mExp sig k (.sg s, p) = _
              unfold mExp
              dsimp only
              rw [if_neg c1, if_pos c2, if_neg c3]
            rw [run_one st] at h
            rw [pt]
            cases g2 : tk[i + 1]? with
            | none => rw [drop_none g2] at h; cases h
            | some x2 =>
              obtain ⟨y2, p2⟩ := x2
              rw [drop_get g2] at h
              have bad2 : (∀ c, y2 ≠ .word c) → pNode sig tk (pTerm sig tk f (k.length + 1)) k.length i p = .error e ∨ ∃ t j, pNode sig tk (pTerm sig tk f (k.length + 1)) k.length i p = .ok (t, j) ∧ i < j ∧ mRun sig (.ret k) (tk.drop j) = .error e := fun hy => by
                left
                cases y2 with
                | word c => exact absurd rfl (hy c)
                | _ =>
                  rw [run_one_err (e := (false, p2)) rfl] at h
                  unfold pNode
                  rw [g2]
                  exact errE h
              cases y2 with
              | word c =>
                cases lk : sig.lookup c with
                | none =>
                  left
                  rw [run_one_err (e := (false, p2)) (by show mHd sig p k (.word c, p2) = _; unfold mHd; dsimp only; rw [lk])] at h
                  unfold pNode
                  rw [g2]
                  dsimp only
                  rw [lk]
                  exact errE h
                | some m =>
                  have st2 : mStep sig (.hd p k) (.word c, p2) = if 60 ≤ k.length then .error (true, p) else .ok (.ret (.node m :: k)) := by
                    show mHd sig p k (.word c, p2) = _
                    unfold mHd
                    dsimp only
                    rw [lk]
                  unfold pNode
                  rw [g2]
                  dsimp only
                  rw [lk]
                  dsimp only
                  by_cases d : 60 ≤ k.length
                  · rw [if_pos d] at st2
                    rw [run_one_err st2] at h
                    rw [if_pos d]
                    exact .inl (errE h)
                  · rw [if_neg d] at st2
                    rw [run_one st2] at h
                    rw [if_neg d]
                    rcases sim_many (hr (by omega)) m (i + 2) e h with h1 | ⟨ts, j, h1, hj, h2⟩
                    · rw [h1]; exact .inl rfl
                    · rw [h1]
                      dsimp only
                      rcases sim_close (t := .node c ts) (fun _ => rfl) h2 with h3 | ⟨t', j', h3, hj', h4⟩
                      · exact .inl h3
                      · exact .inr ⟨t', j', h3, by omega, h4⟩
              | _ => exact bad2 (fun c e => by cases e)
        · refine bad (false, p) ?_ ?_
          · conv => lhs; unfold pTerm
            rw [g]
            dsimp only
            rw [if_neg c1, if_neg c2]
          · show mExp sig k (.sg s, p) = _
            unfold mExp
            dsimp only
            rw [if_neg c1, if_neg c2]
/-- where the machine stops, reading stops -/
theorem read_stops {cs : List Nat} {e : PErr} (h : mRun sig (.exp []) (toks cs) = .error e) : pRead sig cs = .error e := by
  unfold pRead
  rcases sim_term 61 0 [] rfl (by decide) e (by rw [List.drop_zero]; exact h) with h1 | ⟨t, j, h1, _, h2⟩
  · rw [show pTerm sig (toks cs) 61 0 0 = .error e from h1]
  · rw [show pTerm sig (toks cs) 61 0 0 = .ok (t, j) from h1]
    dsimp only
    cases g : (toks cs)[j]? with
    | none => rw [drop_none g] at h2; cases h2
    | some x =>
      obtain ⟨y, p⟩ := x
      rw [drop_get g] at h2
      dsimp only
      by_cases c : y = .fin
      · rw [run_one (s' := .stop) (by exact if_pos c)] at h2
        have stp : ∀ l, mRun sig .stop l = .ok .stop := fun l => by
          induction l with
          | nil => rfl
          | cons a r ih => exact ih
        rw [stp] at h2; cases h2
      · rw [run_one_err (e := (false, p)) (by exact if_neg c)] at h2
        rw [if_neg c]
        exact errE h2
/-! a term's tokens are taken -/
abbrev MG (l : List (Tk × Nat)) : List Tk := l.map (·.1)
theorem split_map {l : List (Tk × Nat)} {a b : List Tk} (h : MG l = a ++ b) : ∃ x y, l = x ++ y ∧ MG x = a ∧ MG y = b := by
  refine ⟨l.take a.length, l.drop a.length, (List.take_append_drop ..).symm, ?_, ?_⟩
  · show (l.take a.length).map _ = _
    rw [List.map_take, show l.map (·.1) = a ++ b from h, List.take_left]
  · show (l.drop a.length).map _ = _
    rw [List.map_drop, show l.map (·.1) = a ++ b from h, List.drop_left]
theorem cons_map {l : List (Tk × Nat)} {t : Tk} {b : List Tk} (h : MG l = t :: b) : ∃ p y, l = (t, p) :: y ∧ MG y = b := by
  cases l with
  | nil => cases h
  | cons x y =>
    obtain ⟨h1, h2⟩ := List.cons.inj h
    obtain ⟨x1, p⟩ := x
    dsimp only at h1
    exact ⟨p, y, by rw [h1], h2⟩
theorem run_leaf {t : Rm} {ts : List Tk} {l : List (Tk × Nat)} {k : List MF} (h : Leaf sig t ts) (e : MG l = ts) : mRun sig (.exp k) l = .ok (.ret k) := by
  unfold Leaf at h
  split at h
  all_goals try exact h.elim
  all_goals first
    | (obtain ⟨rfl, hl⟩ := h; obtain ⟨p, y, rfl, e2⟩ := cons_map e; obtain rfl := List.map_eq_nil_iff.mp e2; rw [run_one (s' := .ret k) (by exact if_pos hl)]; rfl)
    | (subst h; obtain ⟨p, y, rfl, e2⟩ := cons_map e; obtain rfl := List.map_eq_nil_iff.mp e2; rfl)
theorem run_fll {R : Rm → List Tk → Prop} {k : List MF} (hr : ∀ t a l k', R t a → MG l = a → k'.length = k.length + 1 → mRun sig (.exp k') l = .ok (.ret k')) :
    ∀ (us : List Rm) (b : List Tk) (l : List (Tk × Nat)) (m : Nat), FlL R us b → MG l = b → mRun sig (.ret (.node (us.length + m) :: k)) l = .ok (.ret (.node m :: k))
  | [], b, l, m, h, e => by
    have : b = [] := h
    subst this
    obtain rfl := List.map_eq_nil_iff.mp e
    rw [List.length_nil, Nat.zero_add]; rfl
  | t :: us, b, l, m, h, e => by
    obtain ⟨a, b', rfl, h1, h2⟩ := h
    obtain ⟨x, y, rfl, ex, ey⟩ := split_map e
    have r1 := hr t a x (.node (us.length + m) :: k) h1 ex rfl
    have r2 : mRun sig (.ret (.node ((t :: us).length + m) :: k)) x = .ok (.ret (.node (us.length + m) :: k)) := by
      rw [show (t :: us).length + m = (us.length + m) + 1 by rw [List.length_cons]; omega]
      cases x with
      | nil => cases r1
      | cons x0 xr => exact r1
    rw [run_ok r2]
    exact run_fll hr us b' y m h2 ey
theorem run_fle {R : Rm → List Tk → Prop} {k : List MF} (hr : ∀ t a l k', R t a → MG l = a → k'.length = k.length + 1 → mRun sig (.exp k') l = .ok (.ret k')) :
    ∀ (es : List (Str × Rm)) (b : List Tk) (l : List (Tk × Nat)) (seen : List Str), FlE R es b → MG l = b → (seen ++ es.map (·.1)).Nodup → mRun sig (.ret (.map seen :: k)) l = .ok (.ret (.map (seen ++ es.map (·.1)) :: k))
  | [], b, l, seen, h, e, nd => by
    have : b = [] := h
    subst this
    obtain rfl := List.map_eq_nil_iff.mp e
    rw [List.map_nil, List.append_nil]; rfl
  | (w, t) :: es, b, l, seen, h, e, nd => by
    obtain ⟨a, b', rfl, h1, h2⟩ := h
    obtain ⟨p, y, rfl, ey⟩ := cons_map e
    obtain ⟨x, z, rfl, ex, ez⟩ := split_map ey
    have nw : w ∉ seen := fun c => (List.nodup_append.mp nd).2.2 w c w (List.mem_map.mpr ⟨_, .head _, rfl⟩) rfl
    rw [run_one (s' := .exp (.map (seen ++ [w]) :: k)) (by exact if_neg nw), run_ok (hr t a x _ h1 ex rfl)]
    have e3 : seen ++ ((w, t) :: es).map (·.1) = (seen ++ [w]) ++ es.map (·.1) := by rw [List.append_assoc]; rfl
    rw [e3] at nd ⊢
    exact run_fle hr es b' z (seen ++ [w]) h2 ez nd
theorem run_fl : ∀ (n : Nat) (t : Rm) (ts : List Tk) (l : List (Tk × Nat)) (k : List MF), Fl sig n t ts → MG l = ts → n + k.length ≤ 60 → mRun sig (.exp k) l = .ok (.ret k) := by
  intro n
  induction n with
  | zero => intro t ts l k h e _; exact run_leaf h e
  | succ n ih =>
    intro t ts l k h e hk
    have hr : ∀ t a l (k' : List MF), Fl sig n t a → MG l = a → k'.length = k.length + 1 → mRun sig (.exp k') l = .ok (.ret k') := fun t a l k' h1 h2 h3 => ih t a l k' h1 h2 (by omega)
    rcases h with h | ⟨c, us, body, rfl, hl, hb, rfl⟩ | ⟨es, body, rfl, nd, hb, rfl⟩
    · exact run_leaf h e
    · obtain ⟨p, y, rfl, ey⟩ := cons_map e
      obtain ⟨q, y2, rfl, ey2⟩ := cons_map ey
      obtain ⟨x, y3, rfl, ex, ey3⟩ := split_map ey2
      obtain ⟨r, z, rfl, ez⟩ := cons_map ey3
      obtain rfl := List.map_eq_nil_iff.mp ez
      rw [run_one (s' := .hd p k) (by show mExp sig k (.sg "(", p) = _; unfold mExp; dsimp only; rw [if_neg (by decide +kernel), if_pos rfl, if_neg (fun z => by rw [z] at hl; cases hl)]),
        run_one (s' := .ret (.node (us.length + 0) :: k)) (by show mHd sig p k (.word c, q) = _; unfold mHd; dsimp only; rw [hl]; dsimp only; rw [if_neg (by omega)]; rfl), run_ok (run_fll hr us body x 0 hb ex)]
      rfl
    · obtain ⟨p, y, rfl, ey⟩ := cons_map e
      obtain ⟨x, y, rfl, ex, ey⟩ := split_map ey
      obtain ⟨r, z, rfl, ez⟩ := cons_map ey
      obtain rfl := List.map_eq_nil_iff.mp ez
      rw [run_one (s' := .ret (.map [] :: k)) (by show mExp sig k (.sg "{", p) = _; unfold mExp; dsimp only; rw [if_pos rfl, if_neg (by omega)]), run_ok (run_fle hr es body x [] hb ex (by simpa using nd))]
      rfl
end PK
namespace PK
open PySem L2 _root_.TL
/-! the program's tokens -/
theorem DtAll.length {K : PySem.W.Frag} {H : Hp} : ∀ {xs : List V} {ds : List PyData}, DtAll K H xs ds → xs.length = ds.length
  | _, _, .nil => rfl
  | _, _, .cons _ r => by rw [List.length_cons, List.length_cons, DtAll.length r]
/-- a list grows by one item of data -/
theorem DtAll.snoc {K : PySem.W.Frag} {H H1 : Hp} {D : Addr} {vs : List V} {ds : List PyData} {v : V} {d : PyData} (da : DtAll K H vs ds) (sm : Same H H1) (hD : H1 D = some (.lst vs)) (dv : Dt K H1 v d) : DtAll K (L2.upd H1 D (.lst (vs ++ [v]))) (vs ++ [v]) (ds ++ [d]) :=
  DtAll.mono (fun _ _ z => seqT_upd z hD) _ _ (DtAll.append (da.same sm) (.cons dv .nil))
def tkD (t : Tk × Nat) : PyData := .tuple [.str t.1.kind, t.1.worth, .int (t.2 : Nat)]
def spTok (K : PySem.W.Frag) : Sp := fun vs H Q _ => ∃ (x : Str) (p : Nat), vs = [.str x, .int (p : Nat)] ∧ x.cps.toList ≠ [] ∧ x.length ≤ 10000 ∧ ∀ H' v, Same H H' → Dt K H' v (tkD (tokOf x.cps.toList, p)) → Q v H'
theorem cut1 (x : Str) (h : x.cps.toList ≠ []) : cutS x (some 1) none = mkS x.cps.toList.tail := by
  have e := len_list x
  have h0 : 0 < x.cps.toList.length := List.length_pos_iff.mpr h
  unfold cutS mkS
  have s1 : HT.sIx x.length 0 (some 1) = 1 := by
    have := HT.sIx_nat x.length 0 1
    rw [show ((1 : Nat) : Int) = 1 from rfl] at this
    rw [this]; omega
  rw [s1, HT.sIx_none, List.take_of_length_le (by rw [List.length_drop]; omega)]
  cases x.cps.toList <;> rfl
theorem cutM (x : Str) {a b : Nat} (h : a ≤ b) (hb : b ≤ x.length) : cutS x (some (a : Nat)) (some (b : Nat)) = mkS ((x.cps.toList.drop a).take (b - a)) := by
  unfold cutS mkS
  rw [HT.sIx_nat, HT.sIx_nat, show min a x.length = a by omega, show min b x.length = b by omega]
theorem int_of {ds : List Nat} {k : Nat} (hk : k ≤ 640) (h : isNum ds k = true) : PySem.intText? (mkS ds) = some ((NumText.digitsVal ds : Nat) : Int) ∧ (mkS ds).length ≤ 640 := by
  obtain ⟨h1, h2, h3⟩ := num_dig h
  have e := mk'_list ds
  refine ⟨?_, by rw [mk'_len]; omega⟩
  have := intText_digits (x := mkS ds) (by rw [e]; exact h1) (by rw [e]; exact h2) (by rw [mk'_len]; omega)
  rwa [e] at this
theorem isNum_mk (ds : List Nat) (k : Nat) : isNum (mkS ds).cps.toList k = isNum ds k := by rw [mk'_list]
def tk4 (c : Nat) (r : List Nat) (x : Str) : Tk := if isNum (c :: r) 15 = true then .int (NumText.digitsVal (c :: r) : Nat) else if isWd x = true then .word x else .bad
def tk3 (c : Nat) (r : List Nat) (x : Str) : Tk := if c = 45 ∧ r ≠ [48] ∧ isNum r 15 = true then .int (-(NumText.digitsVal r : Nat)) else tk4 c r x
def tk2 (c : Nat) (r : List Nat) (x : Str) : Tk := if c = 64 ∧ isNum r 9 = true then .addr (NumText.digitsVal r : Nat) else tk3 c r x
def tk1 (c : Nat) (r : List Nat) (x y : Str) : Tk := if c = 36 ∧ isWd y = true then .var y else tk2 c r x
section
variable {P : Program} {w : World} {K : PySem.W.Frag} {mg : Str → Option Value} {base : Heap} {aS : Addr}
abbrev s_token : Stmt := topS 23
theorem sc_token : FnScope ["piece", "position", "first", "rest"] ["piece", "position"] (defScope s_token) := ⟨rfl, rfl, rfl, by decide +kernel, rfl, by decide +kernel, by decide +kernel⟩
-- slots: 0:piece 1:position 2:first 3:rest
abbrev s_tokens_of : Stmt := topS 24
theorem sc_tokens_of : FnScope ["text", "tokens", "at", "end"] ["text"] (defScope s_tokens_of) := ⟨rfl, rfl, rfl, by decide +kernel, rfl, by decide +kernel, by decide +kernel⟩
-- slots: 0:text 1:tokens 2:at 3:end
theorem ok_tok {f : Addr} {fd : FuncData} (F : Fun K "_token" "_token" s_token f fd) (T : TxtP K mg aS) (C_is_word : C8.Cal P w K mg base 1 "is_word" spWord []) (C_is_number : C8.Cal P w K mg base 2 "_is_number" spIsNum []) : FnOk P w K mg base CX0 3 f fd ["piece", "position"] (spTok K) := by
  refine F.ok sc_token (fun vs H Q E h => ?_) (fun cdv A outer s H vs Q E hr h => ?_)
  · obtain ⟨_, _, rfl, _⟩ := h
    rfl
  obtain ⟨x, p, rfl, hx, hl, q⟩ := h
  refine ⟨_, (pss_cons (ps_par (i := 2) (j := 3) (by rfl) sc_token.nd rfl rfl (by decide) rfl rfl (pa_cons (pe_ix ix_str (pv 0) pe_int (fun _ _ => rfl)) (pa_cons (pe_slice sl_str (pv 0) (po_some pe_int) po_none) pa_nil)) (by rfl))
    (pss_cons (ps_if (pt_cmpR op_in_seq (pv 0) (pe_glob (v := .ref aS) rfl T.g_S rfl) rfl) (pss_one (ps_ret (pe_tup (pa_cons (pv 0) (pa_cons pe_non (pa_cons (pv 1) pa_nil)))))) pss_nil)
    (C8.pss_cut (ps_if (PW.pt (pw_and (pt_cmpR op_eq (pv 2) pe_str (nomark _)) (pw_and1 (pt_val (C8.pe_c C_is_word hr (by decide) rfl (pa_cons (pv 3) pa_nil)))))) (pss_one (ps_ret (pe_tup (pa_cons pe_str (pa_cons (pv 3) (pa_cons (pv 1) pa_nil)))))) pss_nil)
    (C8.pss_cut (ps_if (PW.pt (pw_and (pt_cmpR op_eq (pv 2) pe_str (nomark _)) (pw_and1 (pt_val (C8.pe_c C_is_word hr (by decide) rfl (pa_cons (pv 3) pa_nil)))))) (pss_one (ps_ret (pe_tup (pa_cons pe_str (pa_cons (pv 3) (pa_cons (pv 1) pa_nil)))))) pss_nil)
    (C8.pss_cut (ps_if (PW.pt (pw_and (pt_cmpR op_eq (pv 2) pe_str (nomark _)) (pw_and1 (pt_val (C8.pe_c C_is_number hr (by decide) rfl (pa_cons (pv 3) (pa_cons (pe_glI (n := 9) rfl T.g_MA) pa_nil))))))) (pss_one (ps_ret (pe_tup (pa_cons pe_str (pa_cons (pe_callTy call_int_str (by rfl) T.z_int (by decide +kernel) (pa_cons (pv 3) pa_nil)) (pa_cons (pv 1) pa_nil)))))) pss_nil)
    (C8.pss_cut (ps_if (PW.pt (pw_and (pt_cmpR op_eq (pv 2) pe_str (nomark _)) (pw_and (pt_cmpR op_ne (pv 3) pe_str (nomark _)) (pw_and1 (pt_val (C8.pe_c C_is_number hr (by decide) rfl (pa_cons (pv 3) (pa_cons (pe_glI (n := 15) rfl T.g_MI) pa_nil)))))))) (pss_one (ps_ret (pe_tup (pa_cons pe_str (pa_cons (pe_un un_neg (pe_callTy call_int_str (by rfl) T.z_int (by decide +kernel) (pa_cons (pv 3) pa_nil))) (pa_cons (pv 1) pa_nil)))))) pss_nil)
    (pss_cons (ps_if (pt_val (C8.pe_c C_is_number hr (by decide) rfl (pa_cons (pv 0) (pa_cons (pe_glI (n := 15) rfl T.g_MI) pa_nil)))) (pss_one (ps_ret (pe_tup (pa_cons pe_str (pa_cons (pe_callTy call_int_str (by rfl) T.z_int (by decide +kernel) (pa_cons (pv 0) pa_nil)) (pa_cons (pv 1) pa_nil)))))) pss_nil)
    (pss_cons (ps_if (pt_val (C8.pe_c C_is_word hr (by decide) rfl (pa_cons (pv 0) pa_nil))) (pss_one (ps_ret (pe_tup (pa_cons pe_str (pa_cons (pv 0) (pa_cons (pv 1) pa_nil)))))) pss_nil)
    (pss_one (ps_ret (pe_tup (pa_cons pe_str (pa_cons pe_non (pa_cons (pv 1) pa_nil)))))))))))))), ?_⟩
  have en := len_list x
  have hc1 := cut1 x hx
  obtain ⟨c, r, ex⟩ : ∃ c r, x.cps.toList = c :: r := by
    cases e : x.cps.toList with
    | nil => exact absurd e hx
    | cons a r => exact ⟨a, r, rfl⟩
  rw [ex] at en hc1
  rw [List.length_cons] at en
  have lr : (mkS r).length ≤ 10000 := by rw [mk'_len]; omega
  have ex' : mkS (c :: r) = x := by rw [← ex, mk'_of]
  refine ⟨_, rfl, x, 0, c, rfl, rfl, small (by omega), by rw [ex]; exact atI_nat (j := 0) rfl, ?_⟩
  refine ⟨_, rfl, 1, rfl, x, rfl, small (by omega), ?_⟩
  rw [hc1, List.tail_cons]
  rw [ex] at q
  have tup : ∀ {H1 : Hp} {k : Str} {v : V} {e : PyData} {t : Tk}, Same H H1 → tokOf (c :: r) = t → t.kind = k → t.worth = e → Dt K H1 v e → (3 ≤ sizeLine) ∧ ∀ a, H1 a = none → Q (.ref a) (upd H1 a (.tup [.str k, v, .int (p : Nat)])) := fun {H1 k v e t} sm et ek ew dv =>
    ⟨small (by decide), fun a ha => q _ _ (Same.upd sm (sm.free ha)) (by unfold tkD; rw [et]; dsimp only; rw [ek, ew]; exact Dt.mk3 ha (.str _) dv (.int _))⟩
  have et : tokOf (c :: r) = if x ∈ SIGNS then .sg x else if c = 39 ∧ isWd (mkS r) = true then .name (mkS r) else tk1 c r x (mkS r) := by
    unfold tk1 tk2 tk3 tk4
    unfold tokOf
    rw [ex', List.headD_cons, List.tail_cons]
  have exn : isNum x.cps.toList 15 = isNum (c :: r) 15 := by rw [ex]
  have hy : (mkS r).cps.toList = r := mk'_list r
  have hi : ∀ k, k ≤ 640 → isNum r k = true → intText? (mkS r) = some ((NumText.digitsVal r : Nat) : Int) ∧ (mkS r).length ≤ 640 := fun k hk h => int_of hk h
  have hix : isNum (c :: r) 15 = true → intText? x = some ((NumText.digitsVal (c :: r) : Nat) : Int) ∧ x.length ≤ 640 := fun h => by
    have := int_of (by decide) h
    rwa [ex'] at this
  have hz : mkS r = "0" ↔ r = [48] := ⟨fun e => by rw [← hy, e]; decide +kernel, fun e => by rw [e]; decide +kernel⟩
  clear hc1
  generalize mkS r = y at *
  refine ⟨_, _, rfl, _, rfl, aS, _, rfl, .inr (T.signs H), rfl, flat_strs SIGNS, _, rfl, ?_⟩
  rw [show inV (V.str x) [V.str "(", .str ")", .str "{", .str "}"] = decide (x ∈ SIGNS) from inV_str x SIGNS]
  by_cases h1 : x ∈ SIGNS
  · rw [decide_eq_true h1]
    rw [if_pos h1] at et
    exact iteT ⟨_, rfl, _, rfl, tup (Same.refl H) et rfl rfl .non⟩
  rw [decide_eq_false h1]
  rw [if_neg h1] at et
  refine iteF ?_
  have one_eq : ∀ (k : Nat) (z : Str), z.cps.toList = [k] → decide (V.str ⟨#[c]⟩ = V.str z) = decide (c = k) := fun k z hz => by
    by_cases e : c = k
    · rw [decide_eq_true e, decide_eq_true (by rw [e]; exact congrArg V.str (Str.ext' (Array.toList_inj.mp hz.symm)))]
    · rw [decide_eq_false e, decide_eq_false fun z' => e ?_]
      have := congrArg (fun s : Str => s.cps.toList) (V.str.inj z')
      rw [hz] at this
      exact (List.cons.inj this).1
  have e1 := one_eq 39 "'" (by decide +kernel)
  have e2 := one_eq 36 "$" (by decide +kernel)
  have e3 := one_eq 64 "@" (by decide +kernel)
  have e4 := one_eq 45 "-" (by decide +kernel)
  clear one_eq
  generalize (⟨#[c]⟩ : Str) = o at *
  -- a name
  refine ⟨fun σ H1 => σ = [some (.str x), some (.int (p : Nat)), some (.str o), some (.str y)] ∧ Same H H1 ∧ tokOf (c :: r) = tk1 c r x y, ⟨_, rfl, rfl, _, rfl, ?_⟩, ?_⟩
  · rw [e1]
    by_cases hc : c = 39
    · rw [decide_eq_true hc]
      refine iteT ⟨_, rfl, y, rfl, lr, fun H1 sm => ⟨_, rfl, ?_⟩⟩
      by_cases hw : isWd y = true
      · rw [hw]
        rw [if_pos ⟨hc, hw⟩] at et
        exact iteT ⟨_, rfl, _, rfl, tup sm et rfl rfl (.str y)⟩
      · rw [Bool.eq_false_iff.mpr hw]
        exact iteF ⟨rfl, sm, et.trans (if_neg fun z => hw z.2)⟩
    · rw [decide_eq_false hc]
      exact iteF ⟨rfl, Same.refl H, et.trans (if_neg fun z => hc z.1)⟩
  clear et
  rintro σ H1 ⟨rfl, sm1, et⟩
  unfold tk1 at et
  refine ⟨fun σ H1 => σ = [some (.str x), some (.int (p : Nat)), some (.str o), some (.str y)] ∧ Same H H1 ∧ tokOf (c :: r) = tk2 c r x, ⟨_, rfl, rfl, _, rfl, ?_⟩, ?_⟩
  · rw [e2]
    by_cases hc : c = 36
    · rw [decide_eq_true hc]
      refine iteT ⟨_, rfl, y, rfl, lr, fun H2 sm2 => ⟨_, rfl, ?_⟩⟩
      by_cases hw : isWd y = true
      · rw [hw]
        rw [if_pos ⟨hc, hw⟩] at et
        exact iteT ⟨_, rfl, _, rfl, tup (sm1.trans sm2) et rfl rfl (.str y)⟩
      · rw [Bool.eq_false_iff.mpr hw]
        exact iteF ⟨rfl, sm1.trans sm2, et.trans (if_neg fun z => hw z.2)⟩
    · rw [decide_eq_false hc]
      exact iteF ⟨rfl, sm1, et.trans (if_neg fun z => hc z.1)⟩
  clear et
  rintro σ H1 ⟨rfl, sm1, et⟩
  unfold tk2 at et
  refine ⟨fun σ H1 => σ = [some (.str x), some (.int (p : Nat)), some (.str o), some (.str y)] ∧ Same H H1 ∧ tokOf (c :: r) = tk3 c r x, ⟨_, rfl, rfl, _, rfl, ?_⟩, ?_⟩
  · rw [e3]
    by_cases hc : c = 64
    · rw [decide_eq_true hc]
      refine iteT ⟨_, rfl, y, 9, rfl, lr, ⟨_, rfl, ?_⟩⟩
      rw [hy]
      by_cases hw : isNum r 9 = true
      · rw [hw]
        rw [if_pos ⟨hc, hw⟩] at et
        obtain ⟨i1, i2⟩ := hi 9 (by decide) hw
        exact iteT ⟨_, rfl, y, _, rfl, i1, i2, _, rfl, tup sm1 et rfl rfl (.int _)⟩
      · rw [Bool.eq_false_iff.mpr hw]
        exact iteF ⟨rfl, sm1, et.trans (if_neg fun z => hw z.2)⟩
    · rw [decide_eq_false hc]
      exact iteF ⟨rfl, sm1, et.trans (if_neg fun z => hc z.1)⟩
  clear et
  rintro σ H1 ⟨rfl, sm1, et⟩
  unfold tk3 at et
  refine ⟨fun σ H1 => σ = [some (.str x), some (.int (p : Nat)), some (.str o), some (.str y)] ∧ Same H H1 ∧ tokOf (c :: r) = tk4 c r x, ⟨_, rfl, rfl, _, rfl, ?_⟩, ?_⟩
  · rw [e4]
    by_cases hc : c = 45
    · rw [decide_eq_true hc]
      refine iteT ⟨_, rfl, rfl, _, rfl, ?_⟩
      by_cases h0 : r = [48]
      · rw [decide_eq_true (show V.str y = V.str "0" by rw [hz.mpr h0])]
        exact iteF ⟨rfl, sm1, et.trans (if_neg fun z => z.2.1 h0)⟩
      rw [decide_eq_false (show ¬ V.str y = V.str "0" from fun z => h0 (hz.mp (V.str.inj z)))]
      refine iteT ⟨_, rfl, y, 15, rfl, lr, ⟨_, rfl, ?_⟩⟩
      rw [hy]
      by_cases hw : isNum r 15 = true
      · rw [hw]
        rw [if_pos ⟨hc, h0, hw⟩] at et
        obtain ⟨i1, i2⟩ := hi 15 (by decide) hw
        exact iteT ⟨_, rfl, y, _, rfl, i1, i2, _, rfl, _, rfl, tup sm1 et rfl rfl (.int _)⟩
      · rw [Bool.eq_false_iff.mpr hw]
        exact iteF ⟨rfl, sm1, et.trans (if_neg fun z => hw z.2.2)⟩
    · rw [decide_eq_false hc]
      exact iteF ⟨rfl, sm1, et.trans (if_neg fun z => hc z.1)⟩
  clear et
  rintro σ H1 ⟨rfl, sm1, et⟩
  unfold tk4 at et
  refine ⟨_, rfl, x, 15, rfl, by omega, ⟨_, rfl, ?_⟩⟩
  rw [exn]
  by_cases hw : isNum (c :: r) 15 = true
  · rw [hw]
    rw [if_pos hw] at et
    obtain ⟨i1, i2⟩ := hix hw
    exact iteT ⟨_, rfl, x, _, rfl, i1, i2, _, rfl, tup sm1 et rfl rfl (.int _)⟩
  rw [Bool.eq_false_iff.mpr hw]
  rw [if_neg hw] at et
  refine iteF ⟨_, rfl, x, rfl, by omega, fun H2 sm2 => ⟨_, rfl, ?_⟩⟩
  by_cases hw : isWd x = true
  · rw [hw]
    rw [if_pos hw] at et
    exact iteT ⟨_, rfl, _, rfl, tup (sm1.trans sm2) et rfl rfl (.str x)⟩
  · rw [Bool.eq_false_iff.mpr hw]
    rw [if_neg hw] at et
    exact iteF ⟨_, rfl, tup (sm1.trans sm2) et rfl rfl .non⟩
def spToks (K : PySem.W.Frag) : Sp := fun vs H Q _ => ∃ x : Str, vs = [.str x] ∧ x.length ≤ 8000 ∧ ∀ (H' : Hp) (R : Addr) (ws : List V), Same H H' → H R = none → H' R = some (.lst ws) → DtAll K H' ws ((toks x.cps.toList).map tkD) → Q (.ref R) H'
theorem ok_toks {f : Addr} {fd : FuncData} (F : Fun K "_tokens_of" "_tokens_of" s_tokens_of f fd) (T : TxtP K mg aS) (C_token_end : C8.Cal P w K mg base 2 "_token_end" spTokEnd []) (C_token : C8.Cal P w K mg base 3 "_token" (spTok K) []) : FnOk P w K mg base CX0 4 f fd ["text"] (spToks K) := by
  refine F.ok sc_tokens_of (fun vs H Q E h => ?_) (fun cdv A outer s H vs Q E hr h => ?_)
  · obtain ⟨_, rfl, _⟩ := h
    rfl
  obtain ⟨x, rfl, hx, q⟩ := h
  refine ⟨_, (pss_cons (ps_set (i := 1) sc_tokens_of.nd rfl (Or.inl rfl) (pe_lst pa_nil))
    (pss_cons (ps_set (i := 2) sc_tokens_of.nd rfl (Or.inl rfl) pe_int)
    (pss_cons (ps_while PassesOwn.never (pt_cmpR op_lt (pv 2) (pe_callB call_len_str (by rfl) T.z_len (by decide +kernel) (pa_cons (pv 0) pa_nil)) (nomark _)) (pss_one (ps_if (pt_cmpR op_in_sign (pe_ix ix_str (pv 0) (pv 2) (fun _ _ => rfl)) (pe_glS (s := SEP) rfl T.g_SEP) rfl) (pss_one (ps_aug (i := 2) sc_tokens_of.nd rfl (Or.inl rfl) pe_int ip_add)) (pss_cons (ps_set (i := 3) sc_tokens_of.nd rfl (Or.inl rfl) (C8.pe_c C_token_end hr (by decide) rfl (pa_cons (pv 0) (pa_cons (pv 2) pa_nil))))
    (pss_cons (ps_expr (pe_bm PySem.F.plainAttrs_list PySem.F.slot_list_append PySem.F.type_list_append mt_append (pv 1) (pa_cons (C8.pe_c C_token hr (by decide) rfl (pa_cons (pe_slice sl_str (pv 0) (po_some (pv 2)) (po_some (pv 3))) (pa_cons (pv 2) pa_nil))) pa_nil)))
    (pss_one (ps_set (i := 2) sc_tokens_of.nd rfl (Or.inl rfl) (pv 3))))))))
    (pss_cons (ps_expr (pe_bm PySem.F.plainAttrs_list PySem.F.slot_list_append PySem.F.type_list_append mt_append (pv 1) (pa_cons (pe_tup (pa_cons pe_str (pa_cons pe_non (pa_cons (pe_callB call_len_str (by rfl) T.z_len (by decide +kernel) (pa_cons (pv 0) pa_nil)) pa_nil)))) pa_nil)))
    (pss_one (ps_ret (pv 1))))))), ?_⟩
  have en := len_list x
  refine ⟨Nat.zero_le _, fun R hR => ?_⟩
  have sc_len : ∀ (f p : Nat) (cs : List Nat), (scan f p cs).length ≤ cs.length := by
    intro f
    induction f with
    | zero => intro p cs; exact Nat.zero_le _
    | succ f ih =>
      intro p cs
      cases cs with
      | nil => exact Nat.le_refl _
      | cons c r =>
        by_cases h : c ∈ SEP.cps.toList
        · rw [scan_sep h]
          exact Nat.le_succ_of_le (ih _ _)
        · rw [scan_tok h, List.length_cons, List.length_cons]
          have h0 : 0 < tokLen (c :: r) := tokLen_pos (by simp)
          have := ih (p + tokLen (c :: r)) ((c :: r).drop (tokLen (c :: r)))
          rw [List.length_drop, List.length_cons] at this
          omega
  have tot := sc_len x.cps.toList.length 0 x.cps.toList
  refine ⟨fun m σ H' => ∃ (a : Nat) (b : Option V) (ws : List V) (done : List (Tk × Nat)), σ = [some (.str x), some (.ref R), some (.int (a : Nat)), b] ∧ m = x.length - a ∧ a ≤ x.length ∧ Same H H' ∧ H' R = some (.lst ws) ∧ DtAll K H' ws (done.map tkD) ∧
    scan x.cps.toList.length 0 x.cps.toList = done ++ scan (x.cps.toList.drop a).length a (x.cps.toList.drop a), ⟨_, 0, none, [], [], rfl, rfl, Nat.zero_le _, same_new hR, upd_same, .nil, by rw [List.drop_zero]; rfl⟩, ?_⟩
  rintro m σ H' ⟨a, b, ws, done, rfl, rfl, ha, sm, hw, da, es⟩
  have lw : ws.length = done.length := by have := da.length; rw [List.length_map] at this; exact this
  have ld : done.length ≤ 8000 := by
    rw [es, List.length_append] at tot
    omega
  refine ⟨_, rfl, ⟨_, rfl, x, rfl, small (by omega), _, _, rfl, rfl, _, rfl, ?_⟩⟩
  by_cases hl : a < x.length
  · have he2 : a < x.cps.toList.length := by omega
    have dr : x.cps.toList.drop a = x.cps.toList[a] :: x.cps.toList.drop (a + 1) := List.drop_eq_getElem_cons he2
    rw [decide_eq_true (show (a : Int) < (x.length : Int) by omega)]
    refine iteT ⟨fun σ H2 => ∃ (a' : Nat) (b : Option V) (ws : List V) (done : List (Tk × Nat)), a < a' ∧ σ = [some (.str x), some (.ref R), some (.int (a' : Nat)), b] ∧ a' ≤ x.length ∧ Same H H2 ∧ H2 R = some (.lst ws) ∧ DtAll K H2 ws (done.map tkD) ∧
      scan x.cps.toList.length 0 x.cps.toList = done ++ scan (x.cps.toList.drop a').length a' (x.cps.toList.drop a'), ?_, ?_⟩
    · rintro σ' H2 ⟨a', b', ws', done', h1, rfl, h2, h3, h4, h5, h6⟩
      exact ⟨_, by omega, a', b', ws', done', rfl, rfl, h2, h3, h4, h5, h6⟩
    refine ⟨_, rfl, _, rfl, x, (a : Int), x.cps.toList[a], rfl, rfl, small (by omega), atI_nat (List.getElem?_eq_getElem he2), x.cps.toList[a], SEP, rfl, rfl, _, rfl, ?_⟩
    by_cases hc : x.cps.toList[a] ∈ SEP.cps.toList
    · rw [decide_eq_true hc]
      refine iteT ⟨_, rfl, _, _, rfl, rfl, a + 1, b, ws, done, by omega, rfl, by omega, sm, hw, da, ?_⟩
      rw [es, dr, List.length_cons, scan_sep hc]
    · rw [decide_eq_false hc]
      have hte : tokEnd x.cps.toList a = a + tokLen (x.cps.toList.drop a) := tokEnd_len he2
      have hp : 0 < tokLen (x.cps.toList.drop a) := tokLen_pos (by rw [dr]; simp)
      have hle : tokLen (x.cps.toList.drop a) ≤ x.cps.toList.length - a := by
        have := tokLen_le (x.cps.toList.drop a)
        rwa [List.length_drop] at this
      refine iteF ⟨_, rfl, _, rfl, x, a, rfl, hl, by omega, ?_⟩
      rw [hte]
      generalize hn : tokLen (x.cps.toList.drop a) = n at *
      refine ⟨_, rfl, .inl ⟨rfl, _, SqL.of hw⟩, ⟨_, rfl, _, rfl, _, rfl, _, rfl, _, rfl, x, rfl, small (by omega), _, rfl, ?_⟩⟩
      rw [cutM x (by omega) (by omega), show a + n - a = n by omega]
      refine ⟨mkS ((x.cps.toList.drop a).take n), a, rfl, ?_, ?_, fun H2 v sm2 dv => ?_⟩
      · rw [mk'_list]
        exact List.length_pos_iff.mp (by rw [List.length_take, List.length_drop]; omega)
      · rw [mk'_len, List.length_take, List.length_drop]; omega
      · rw [mk'_list] at dv
        have hw2 := sm2 _ _ hw
        refine ⟨R, _, _, rfl, rfl, hw2, smallL (by omega), _, rfl, a + n, _, _, done ++ [(tokOf ((x.cps.toList.drop a).take n), a)], by omega, rfl, by omega, Same.upd (sm.trans sm2) hR, upd_same, ?_, ?_⟩
        · rw [List.map_append]
          exact da.snoc sm2 hw2 dv
        · rw [es, dr, List.length_cons, scan_tok hc, ← dr, hn, List.append_assoc, List.singleton_append]
          congr 2
          rw [List.drop_drop]
          exact scan_fuel _ _ _ _ _ (Nat.le_refl _) (by rw [List.length_drop, List.length_drop]; omega) (Nat.le_refl _)
  · rw [decide_eq_false (show ¬ (a : Int) < (x.length : Int) by omega)]
    rw [List.drop_eq_nil_of_le (by omega), scan_nil, List.append_nil] at es
    refine iteF ⟨_, rfl, .inl ⟨rfl, _, SqL.of hw⟩, ⟨_, rfl, x, rfl, small (by omega), small (by show 3 ≤ _; decide), fun t ht => ?_⟩⟩
    have sm2 := same_new (H := H') (o := .tup [.str "end", .non, .int (x.length : Nat)]) ht
    have hw2 := sm2 _ _ hw
    refine ⟨R, _, _, rfl, rfl, hw2, smallL (by omega), _, rfl, q _ R _ (Same.upd (sm.trans sm2) hR) hR upd_same ?_⟩
    unfold toks
    rw [es, List.map_append]
    refine da.snoc sm2 hw2 ?_
    unfold tkD
    rw [← en]
    exact Dt.mk3 ht (.str _) .non (.int _)
end
end PK
namespace PK
open PySem L2 _root_.TL
/-! errors with a position; methods that may raise -/
theorem takes0 {X : Cx} : L2N.Takes X (fun _ _ _ _ => False) := PKN.takes0N
abbrev s_initP : Stmt := (C8.clsBody (topS 2)).getD 0 (.Pass ⟨0, 0, 0, 0⟩)
theorem sc_initP : FnScope ["self", "position"] ["self", "position"] (defScope s_initP) := ⟨rfl, rfl, rfl, by decide +kernel, rfl, by decide +kernel, by decide +kernel⟩
structure NoP (K : PySem.W.Frag) (C : Addr) : Prop where
  ox : OexC K C
  p : PySem.W.findIn K (.ref C) "position" = some none
def spIP (K : PySem.W.Frag) : Sp := fun vs H Q _ => ∃ (C a : Addr) (v : V), vs = [.ref a, v] ∧ NoP K C ∧ H a = some (exo a C none) ∧ ∀ dx, H dx = none → dx ≠ a → Q .non (upd (upd H dx (exd dx [("position", v)])) a (exo a C (some dx)))
section
variable {P : Program} {w : World} {K : PySem.W.Frag} {mg : Str → Option Value} {base : Heap}
theorem ok_initP {qual : Str} {f : Addr} {fd : FuncData} (F : Fun K "__init__" qual s_initP f fd) : FnOk P w K mg base CX0 1 f fd ["self", "position"] (spIP K) := by
  refine F.ok sc_initP (fun vs H Q E h => ?_) (fun cdv A outer s H vs Q E hr h => ?_)
  · obtain ⟨_, _, _, rfl, _⟩ := h
    rfl
  obtain ⟨C, a, v, rfl, N, ha, q⟩ := h
  refine ⟨_, (pss_one (ps_ost (pv 0) (pv 1))), ?_⟩
  exact ⟨_, rfl, _, rfl, a, C, rfl, N.ox, N.p, .inl ⟨ha, q⟩⟩
end
structure CalY (P : Program) (w : World) (K : PySem.W.Frag) (mg : Str → Option Value) (base : Heap) (k : Nat) (x : Str) (C : Addr) (sp : Sp) : Prop where
  no : NoP K C
  gC : mg x = some (.ref C)
  ex : ∃ (fI : Addr) (fd : FuncData) (ps : List Str), PySem.W.findIn K (.ref C) "__init__" = some (some (.ref fI)) ∧ PySem.W.typeIn K (.ref fI) = some (.type "function") ∧ FnOk P w K mg base CX0 k fI fd ps sp ∧ Binds K fd ps []
theorem pmk_y {X : Cx} {k j : Nat} {x : Str} {C : Addr} {sp : Sp} {e : Expr} {es : List Expr} {ta : TA} {p pos : Pos} (c : CalY X.prog X.w X.K X.mg X.base k x C sp) (hr : Room j X.A) (hk : k + 1 ≤ j) (hg : Gl X x) (ha : PA X (e :: es) ta)
    (hdb : (x == ("__debug__" : Str)) = false := by decide) (he : starEach (e :: es) X.env = (false, eval e X.env) :: starEach es X.env := by rfl) (hpl : (backTo pos (starEach es X.env)).any (·.1) = false := by rfl) :
    L2N.PMk X (.Call (.Name x p) (e :: es) [] pos) (tMkO C sp [] ta) := by
  obtain ⟨fI, fd, ps, i, t, F, b⟩ := c.ex
  exact PKN.pmk_N c.no.ox i t F (hr.mono hk) b pass0 hg c.gC ha hdb he hpl
theorem madeP {K : PySem.W.Frag} {C : Addr} {v : V} {σ : L2.St} {H : Hp} {Q : XK} (N : NoP K C) (q : ∀ d H', Same H H' → H' d = some (.xd [("position", v)]) → Q (.ref C) (some d) H') : tMkO C (spIP K) [] (fun _ H Q => Q [v] H) σ H Q := by
  refine ⟨(by show 1 ≤ 1000; decide), fun a ha => ⟨C, a, v, rfl, N, upd_same, fun d hd hne => ⟨rfl, d, _, upd_same, by rw [upd_ne hne, upd_same], ?_, q d _ ?_ upd_same⟩⟩⟩
  · rwa [upd_ne hne] at hd
  · rw [upd_ne hne] at hd
    intro b o e
    have h1 := ne_of_none e ha
    have h2 := ne_of_none e hd
    rw [upd_ne h2, del_ne h1, upd_ne h1, upd_ne h2, upd_ne h1]; exact e
/-- a def that may raise, called by its name -/
structure CalR (P : Program) (w : World) (K : PySem.W.Frag) (mg : Str → Option Value) (base : Heap) (k : Nat) (x : Str) (sp : Sp) : Prop where
  ex : ∃ (f : Addr) (fd : FuncData) (ps : List Str), FnOk P w K mg base (L2N.CX P w) k f fd ps sp ∧ mg x = some (.ref f) ∧ PySem.W.keepIn K (.ref f) = true ∧ Binds K fd ps []
section
variable {X : Cx} {k j : Nat} {x : Str} {sp : Sp} {p pos : Pos} {e : Expr} {es : List Expr} {t : TA} {W : WX}
theorem pe_cr (c : CalR X.prog X.w X.K X.mg X.base k x sp) (hr : Room j X.A) (hk : k ≤ j) (hg : Gl X x) (ha : PA X (e :: es) t)
    (hdb : (x == ("__debug__" : Str)) = false := by decide) (he : starEach (e :: es) X.env = (false, eval e X.env) :: starEach es X.env := by rfl) (hpl : (backTo pos (starEach es X.env)).any (·.1) = false := by rfl) :
    PE X (.Call (.Name x p) (e :: es) [] pos) (tCall sp [] C8.E0 t) := by
  obtain ⟨f, fd, ps, F, hm, kp, b⟩ := c.ex
  exact pe_call F (hr.mono hk) hg hm kp b .nil PKN.passLN ha hdb he hpl
theorem pe_crS (c : CalR X.prog X.w X.K X.mg X.base k x sp) (tk : L2N.Takes X W) (hr : Room j X.A) (hk : k ≤ j) (hg : Gl X x) (ha : PA X (e :: es) t)
    (hdb : (x == ("__debug__" : Str)) = false := by decide) (he : starEach (e :: es) X.env = (false, eval e X.env) :: starEach es X.env := by rfl) (hpl : (backTo pos (starEach es X.env)).any (·.1) = false := by rfl) :
    PE X (.Call (.Name x p) (e :: es) [] pos) (tCallS sp (WE W) t) := by
  obtain ⟨f, fd, ps, F, hm, kp, b⟩ := c.ex
  exact pe_callS F (hr.mono hk) hg hm kp b (fun σ => L2N.passAt tk σ) ha hdb he hpl
end
/-- a method that may raise -/
structure CalM (P : Program) (w : World) (K : PySem.W.Frag) (mg : Str → Option Value) (base : Heap) (k : Nat) (C : Addr) (m : Str) (sp : Sp) : Prop where
  cl : Cls K C
  ex : ∃ (f : Addr) (fd : FuncData) (ps : List Str), Meth K C m f ∧ FnOk P w K mg base (L2N.CX P w) k f fd ps sp ∧ Binds K fd ps []
section
variable {X : Cx} {k j : Nat} {x m : Str} {sp : Sp} {p pos apos : Pos} {o e : Expr} {es : List Expr} {ta : TE} {t : TA} {C : Addr} {E : XK}
theorem pe_mr {pl : Sem Bool} (c : CalM X.prog X.w X.K X.mg X.base k C m sp) (tk : L2N.Takes X (fun cls d _ H => E cls d H)) (hr : Room j X.A) (hk : k ≤ j) (he : PE X o ta) (ha : PA X (e :: es) t)
    (hst : starEach (e :: es) X.env = (false, eval e X.env) :: starEach es X.env := by rfl) (hpl : (backTo pos (starEach es X.env)).any (·.1) = false := by rfl)
    (ht : eval (.Call (.Attribute o m apos) (e :: es) [] pos) X.env = (do
      let ov ← eval o X.env
      standAt apos.atName
      let (f, first) ← holding [ov] (getMethod ov m pl)
      callWith pos f first (backTo pos (starEach (e :: es) X.env)) (backToKw pos (keywordEach [] X.env))) := by rfl) :
    PE X (.Call (.Attribute o m apos) (e :: es) [] pos) (tMeth C m sp [] E ta t) := by
  obtain ⟨f, fd, ps, hm, F, b⟩ := c.ex
  exact pe_meth he c.cl hm F (hr.mono hk) b .nil (L2N.passes_call tk fun _ _ _ _ h => h) ha hst hpl ht
theorem pe_crE (c : CalR X.prog X.w X.K X.mg X.base k x sp) (tk : L2N.Takes X (fun cls d _ H => E cls d H)) (hr : Room j X.A) (hk : k ≤ j) (hg : Gl X x) (ha : PA X (e :: es) t)
    (hdb : (x == ("__debug__" : Str)) = false := by decide) (he : starEach (e :: es) X.env = (false, eval e X.env) :: starEach es X.env := by rfl) (hpl : (backTo pos (starEach es X.env)).any (·.1) = false := by rfl) :
    PE X (.Call (.Name x p) (e :: es) [] pos) (tCall sp [] E t) := by
  obtain ⟨f, fd, ps, F, hm, kp, b⟩ := c.ex
  exact pe_call F (hr.mono hk) hg hm kp b .nil (L2N.passes_call tk fun _ _ _ _ h => h) ha hdb he hpl
end
end PK
namespace PK
open PySem L2 _root_.TL
/-! the reader -/
theorem valV_sig (w : Str) : ∀ sig : List (Str × Nat), valV (sigK sig) (Sum.inr w) = (sig.lookup w).map fun n => V.int (n : Nat)
  | [] => rfl
  | (k, n) :: r => by
    have ih := valV_sig w r
    by_cases h : k = w
    · subst h
      rw [show sigK ((k, n) :: r) = (Sum.inr k, V.int (n : Nat)) :: sigK r from rfl, valV_hd]
      simp [List.lookup]
    · rw [show sigK ((k, n) :: r) = (Sum.inr k, V.int (n : Nat)) :: sigK r from rfl, valV_tl (fun z => h (Sum.inr.inj z)), ih]
      have : (w == k) = false := beq_eq_false_iff_ne.mpr (Ne.symm h)
      simp [List.lookup, this]
abbrev rdF (dS L : Addr) (i : Nat) : List (Str × V) := [("signature", .ref dS), ("tokens", .ref L), ("at", .int (i : Nat))]
structure RTx (K : PySem.W.Frag) (C : Addr) : Prop where
  cl : Cls K C
  nS : NoAttr K C "signature"
  nT : NoAttr K C "tokens"
  nA : NoAttr K C "at"
/-- what stands of a reader -/
structure RdA (K : PySem.W.Frag) (H : Hp) (p C dS L : Addr) (sig : List (Str × Nat)) (tk : List (Tk × Nat)) (i : Nat) : Prop where
  at_ : ∃ dx, H p = some (.ins C dx (rdF dS L i))
  sg : H dS = some (.dK (sigK sig))
  tl : ∃ ws, H L = some (.lst ws) ∧ DtAll K H ws (tk.map tkD)
/-- what the tokens and the signature must be -/
structure TkOk (sig : List (Str × Nat)) (tk : List (Tk × Nat)) : Prop where
  len : tk.length ≤ 100000
  ended : Ended tk
  signs : ∀ s p, (Tk.sg s, p) ∈ tk → s ∈ SIGNS
  few : ∃ N : List Str, N.length < 64 ∧ ∀ w p, (Tk.name w, p) ∈ tk → w ∈ N
  low : ∀ e ∈ sig, e.2 ≤ 1000
section
variable {K : PySem.W.Frag} {H H' H1 : Hp} {p C dS L dx : Addr} {sig : List (Str × Nat)} {tk : List (Tk × Nat)} {i : Nat}
theorem DtAll.get : ∀ {vs : List V} {ds : List PyData} {i : Nat} {d : PyData}, DtAll K H vs ds → ds[i]? = some d → ∃ v, vs[i]? = some v ∧ Dt K H v d
  | _, _, _, _, .nil, e => by simp at e
  | _, _, 0, _, .cons h _, e => by
    simp at e; subst e
    exact ⟨_, rfl, h⟩
  | _, _, i + 1, _, .cons _ r, e => by
    obtain ⟨v, g, h⟩ := DtAll.get (i := i) r (by simpa using e)
    exact ⟨v, by simpa using g, h⟩
theorem Keep.trans {l : Addr} {H H1 H2 : Hp} (x : Keep l H H1) (y : Keep l H1 H2) : Keep l H H2 := fun b o hb h => y b o hb (x b o hb h)
theorem Keep.refl {l : Addr} {H : Hp} : Keep l H H := fun _ _ _ h => h
theorem Keep.ofSame {l : Addr} {H H1 : Hp} (s : Same H H1) : Keep l H H1 := fun b o _ h => s b o h
theorem seqT_keep {a : Addr} {xs : List V} {fs : List (Str × V)} (h : SqT K H a xs) (k : Keep p H H') (hp : H p = some (.ins C dx fs)) : SqT K H' a xs := by
  have ne : ∀ {o : HO}, H a = some o → (∀ C dx fs, o ≠ .ins C dx fs) → a ≠ p := fun e d z => by
    subst z
    rw [hp] at e; cases e
    exact d _ _ _ rfl
  rcases h with (h | ⟨o, h⟩) | h
  · exact .inl (.inl (k _ _ (ne h (fun _ _ _ => HO.noConfusion)) h))
  · exact .inl (.inr ⟨o, k _ _ (ne h (fun _ _ _ => HO.noConfusion)) h⟩)
  · exact .inr h
theorem Dt.keep {d : PyData} {v : V} {fs : List (Str × V)} (h : Dt K H v d) (k : Keep p H H') (hp : H p = some (.ins C dx fs)) : Dt K H' v d := Dt.mono (fun _ _ q => seqT_keep q k hp) d v h
theorem DtAll.keep {d : List PyData} {v : List V} {fs : List (Str × V)} (h : DtAll K H v d) (k : Keep p H H') (hp : H p = some (.ins C dx fs)) : DtAll K H' v d := DtAll.mono (fun _ _ q => seqT_keep q k hp) d v h
theorem RdA.keep (r : RdA K H p C dS L sig tk i) (k : Keep p H H') {j : Nat} (h : ∃ dx, H' p = some (.ins C dx (rdF dS L j))) : RdA K H' p C dS L sig tk j := by
  obtain ⟨dx, hp⟩ := r.at_
  obtain ⟨ws, hw, da⟩ := r.tl
  exact ⟨h, k _ _ (ne_of r.sg hp (fun z => by cases z)) r.sg, ws, k _ _ (ne_of hw hp (fun z => by cases z)) hw, da.keep k hp⟩
theorem RdA.same (r : RdA K H p C dS L sig tk i) (s : Same H H') : RdA K H' p C dS L sig tk i := by
  obtain ⟨dx, hp⟩ := r.at_
  exact r.keep (Keep.ofSame s) ⟨dx, s _ _ hp⟩
theorem RdA.here (r : RdA K H p C dS L sig tk i) {k : Tk} {q : Nat} (e : tk[i]? = some (k, q)) : ∃ ws t w, H L = some (.lst ws) ∧ ws.length = tk.length ∧ ws[i]? = some (.ref t) ∧ SqT K H t [.str k.kind, w, .int (q : Nat)] ∧ Dt K H w k.worth := by
  obtain ⟨ws, hw, da⟩ := r.tl
  have hl := da.length
  rw [List.length_map] at hl
  obtain ⟨v, gv, dv⟩ := DtAll.get da (show (tk.map tkD)[i]? = some (tkD (k, q)) by rw [List.getElem?_map, e]; rfl)
  obtain ⟨t, x, y, z, rfl, st, dx, dy, dz⟩ := Dt.t3 dv
  rw [dx.s, dz.i] at st
  exact ⟨ws, t, y, hw, hl, gv, st, dy⟩
end
section
variable {P : Program} {w : World} {K : PySem.W.Frag} {mg : Str → Option Value} {base : Heap} {aS C CB CD : Addr}
/-- self.tokens[self.at] -/
theorem vHere {σ : L2.St} {H : Hp} {Q : VK} {p dS L : Addr} {sig : List (Str × Nat)} {tk : List (Tk × Nat)} {i : Nat} {k : Tk} {q : Nat} (X : RTx K C) (h : σ[0]? = some (some (.ref p))) (r : RdA K H p C dS L sig tk i) (e : tk[i]? = some (k, q))
    (g : ∀ t w, SqT K H t [.str k.kind, w, .int (q : Nat)] → Dt K H w k.worth → Q (.ref t) H) : tOp (rIxL K) (tFld K (tVar 0) "tokens") (tFld K (tVar 0) "at") σ H Q := by
  obtain ⟨dx, hp⟩ := r.at_
  obtain ⟨ws, t, w, hw, hl, gt, st, dw⟩ := r.here e
  exact ⟨_, h, p, C, dx, _, _, rfl, hp, X.cl, X.nT, rfl, _, h, p, C, dx, _, _, rfl, hp, X.cl, X.nA, rfl, L, ws, (i : Int), _, rfl, rfl, SqL.of hw, atI_nat gt, g t w st dw⟩
def spRTake (K : PySem.W.Frag) (C CB : Addr) : Sp := fun vs H Q E => ∃ (p dS L : Addr) (x : Str) (sig : List (Str × Nat)) (tk : List (Tk × Nat)) (i : Nat) (k : Tk) (q : Nat), vs = [.ref p, .str x] ∧ RdA K H p C dS L sig tk i ∧ tk[i]? = some (k, q) ∧
  (k.kind = x → ∀ v H', Keep p H H' → RdA K H' p C dS L sig tk (i + 1) → Dt K H' v k.worth → Q v H') ∧ (k.kind ≠ x → ∀ d H', Keep p H H' → H' d = some (.xd [("position", .int (q : Nat))]) → E (.ref CB) (some d) H')
abbrev s_Reader_take : Stmt := (C8.clsBody (topS 25)).getD 1 (.Pass ⟨0, 0, 0, 0⟩)
theorem sc_Reader_take : FnScope ["self", "kind", "found", "worth", "position"] ["self", "kind"] (defScope s_Reader_take) := ⟨rfl, rfl, rfl, by decide +kernel, rfl, by decide +kernel, by decide +kernel⟩
-- slots: 0:self 1:kind 2:found 3:worth 4:position
theorem ok_rtake {f : Addr} {fd : FuncData} (F : Fun K "take" "Reader.take" s_Reader_take f fd) (T : TxtP K mg aS) (X : RTx K C) (XB : CalY P w K mg base 1 "BadTerm" CB (spIP K)) : FnOk P w K mg base (L2N.CX P w) 3 f fd ["self", "kind"] (spRTake K C CB) := by
  refine PKN.okXN F sc_Reader_take (fun vs H Q E h => ?_) (fun cdv A outer s H vs Q E hr h => ?_)
  · obtain ⟨_, _, _, _, _, _, _, _, _, rfl, _⟩ := h
    rfl
  obtain ⟨p, dS, L, x, sig, tk, i, k, qq, rfl, r, e, q1, q2⟩ := h
  refine ⟨_, (pss_cons (ps_asg (pe_ix ix_list (pe_fld (pv 0) rfl) (pe_fld (pv 0) rfl) (fun _ _ => rfl)) (pg_tup (by rfl) (pgs_cons (pg_name (i := 2) sc_Reader_take.nd rfl (Or.inl rfl)) (pgs_cons (pg_name (i := 3) sc_Reader_take.nd rfl (Or.inl rfl)) (pgs_cons (pg_name (i := 4) sc_Reader_take.nd rfl (Or.inl rfl)) pgs_nil)))))
    (pss_cons (ps_if (pt_cmpR op_ne (pv 2) (pv 1) (nomark _)) (pss_one (L2N.ps_raise rfl (L2N.takes_of rfl rfl rfl rfl) <| pmk_y XB hr (by omega) rfl (pa_cons (pv 4) pa_nil))) pss_nil)
    (pss_cons (ps_fldaug (pv 0) pe_int in_add)
    (pss_one (ps_ret (pv 3)))))), ?_⟩
  refine vHere X rfl r e fun t w st dw => ?_
  refine ⟨t, _, rfl, st, rfl, _, _, rfl, _, _, rfl, _, _, rfl, rfl, ?_⟩
  refine ⟨_, rfl, _, rfl, rfl, _, rfl, ?_⟩
  by_cases hk : k.kind = x
  · rw [decide_eq_true (show V.str k.kind = V.str x by rw [hk])]
    obtain ⟨dx, hp⟩ := r.at_
    refine iteF ⟨_, rfl, p, C, dx, _, _, rfl, hp, X.cl, X.nA, rfl, _, _, rfl, rfl, dx, _, hp, (by show 3 < 1000; decide), _, rfl, ?_⟩
    have kp : Keep p H (upd H p (.ins C dx (rdF dS L (i + 1)))) := fun b o hb h => by rw [upd_ne hb]; exact h
    exact q1 hk _ _ kp (r.keep kp ⟨dx, upd_same⟩) (dw.keep kp hp)
  · rw [decide_eq_false (show ¬ V.str k.kind = V.str x from fun z => hk (V.str.inj z))]
    exact iteT ⟨_, rfl, madeP (σ := []) XB.no fun d H' sm hd => q2 hk d H' (Keep.ofSame sm) hd⟩
end
end PK
namespace PK
open PySem L2 _root_.TL
/-- what comes of reading -/
def outR (K : PySem.W.Frag) (C CB CD p dS L : Addr) (sig : List (Str × Nat)) (tk : List (Tk × Nat)) (H : Hp) (Q : VK) (E : XK) : Except PErr (Rm × Nat) → Prop
  | .ok (t, j) => ∀ v H', Keep p H H' → RdA K H' p C dS L sig tk j → Dt K H' v t.d → Q v H'
  | .error (b, q) => ∀ d H', Keep p H H' → H' d = some (.xd [("position", .int (q : Nat))]) → E (.ref (if b then CD else CB)) (some d) H'
theorem outR.keep {K : PySem.W.Frag} {C CB CD p dS L : Addr} {sig : List (Str × Nat)} {tk : List (Tk × Nat)} {H H1 : Hp} {Q : VK} {E : XK} {r : Except PErr (Rm × Nat)} (h : outR K C CB CD p dS L sig tk H Q E r) (k : Keep p H H1) : outR K C CB CD p dS L sig tk H1 Q E r := by
  unfold outR at h ⊢
  split at h
  · exact fun v H' k' => h v H' (k.trans k')
  · exact fun d H' k' => h d H' (k.trans k')
def rdTerm (K : PySem.W.Frag) (C CB CD : Addr) (f : Nat) : Sp := fun vs H Q E => ∃ (p dS L : Addr) (sig : List (Str × Nat)) (tk : List (Tk × Nat)) (i d : Nat), vs = [.ref p, .int (d : Nat)] ∧ RdA K H p C dS L sig tk i ∧ i < tk.length ∧ TkOk sig tk ∧ d ≤ 60 ∧ 61 ≤ f + d ∧
  outR K C CB CD p dS L sig tk H Q E (pTerm sig tk f d i)
def spNode (K : PySem.W.Frag) (C CB CD : Addr) (f : Nat) : Sp := fun vs H Q E => ∃ (p dS L : Addr) (sig : List (Str × Nat)) (tk : List (Tk × Nat)) (i d q : Nat), vs = [.ref p, .int (d : Nat)] ∧ RdA K H p C dS L sig tk i ∧ tk[i]? = some (.sg "(", q) ∧ TkOk sig tk ∧ d ≤ 60 ∧ 60 ≤ f + d ∧
  outR K C CB CD p dS L sig tk H Q E (pNode sig tk (pTerm sig tk f (d + 1)) d i q)
def spMap (K : PySem.W.Frag) (C CB CD : Addr) (f : Nat) : Sp := fun vs H Q E => ∃ (p dS L : Addr) (sig : List (Str × Nat)) (tk : List (Tk × Nat)) (i d q : Nat), vs = [.ref p, .int (d : Nat)] ∧ RdA K H p C dS L sig tk i ∧ tk[i]? = some (.sg "{", q) ∧ TkOk sig tk ∧ d ≤ 60 ∧ 60 ≤ f + d ∧
  outR K C CB CD p dS L sig tk H Q E (pMap tk (pTerm sig tk f (d + 1)) d i q)
section
variable {P : Program} {w : World} {K : PySem.W.Frag} {mg : Str → Option Value} {base : Heap} {aS C CB CD : Addr}
abbrev s_Reader_term : Stmt := (C8.clsBody (topS 25)).getD 2 (.Pass ⟨0, 0, 0, 0⟩)
theorem sc_Reader_term : FnScope ["self", "depth", "kind", "worth", "position"] ["self", "depth"] (defScope s_Reader_term) := ⟨rfl, rfl, rfl, by decide +kernel, rfl, by decide +kernel, by decide +kernel⟩
-- slots: 0:self 1:depth 2:kind 3:worth 4:position
theorem ok_rterm {n : Nat} {f : Addr} {fd : FuncData} (F : Fun K "term" "Reader.term" s_Reader_term f fd) (T : TxtP K mg aS) (X : RTx K C) (XB : CalY P w K mg base 1 "BadTerm" CB (spIP K))
    (M_take : CalM P w K mg base 3 C "take" (spRTake K C CB)) (M_node : CalM P w K mg base (2 * n + 5) C "node" (spNode K C CB CD n)) (M_mapping : CalM P w K mg base (2 * n + 5) C "mapping" (spMap K C CB CD n)) :
    FnOk P w K mg base (L2N.CX P w) (2 * n + 6) f fd ["self", "depth"] (rdTerm K C CB CD (n + 1)) := by
  refine PKN.okXN F sc_Reader_term (fun vs H Q E h => ?_) (fun cdv A outer s H vs Q E hr h => ?_)
  · obtain ⟨_, _, _, _, _, _, _, rfl, _⟩ := h
    rfl
  obtain ⟨p, dS, L, sig, tk, i, d, rfl, r, hi, ok, hd, hf, q⟩ := h
  refine ⟨_, (pss_cons (ps_asg (pe_ix ix_list (pe_fld (pv 0) rfl) (pe_fld (pv 0) rfl) (fun _ _ => rfl)) (pg_tup (by rfl) (pgs_cons (pg_name (i := 2) sc_Reader_term.nd rfl (Or.inl rfl)) (pgs_cons (pg_name (i := 3) sc_Reader_term.nd rfl (Or.inl rfl)) (pgs_cons (pg_name (i := 4) sc_Reader_term.nd rfl (Or.inl rfl)) pgs_nil)))))
    (pss_cons (ps_if (pt_cmpR op_in_seq (pv 2) (pe_tup (pa_cons pe_str (pa_cons pe_str (pa_cons pe_str (pa_cons pe_str pa_nil))))) rfl) (pss_one (ps_ret (pe_tup (pa_cons (pv 2) (pa_cons (pe_mr M_take (L2N.takes_of rfl rfl rfl rfl) hr (by omega) (pv 0) (pa_cons (pv 2) pa_nil)) pa_nil))))) pss_nil)
    (pss_cons (ps_if (PW.pt (pw_and (pt_cmpR op_eq (pv 2) pe_str (nomark _)) (pw_and1 (pt_cmpR op_eq (pe_dget1 (hu_of hr) (pe_fld (pv 0) rfl) (pv 3) ⟨by rfl, by rfl, by rfl, by rfl⟩) pe_int (nomark _))))) (pss_one (ps_ret (pe_tup (pa_cons pe_str (pa_cons (pe_mr M_take (L2N.takes_of rfl rfl rfl rfl) hr (by omega) (pv 0) (pa_cons (pv 2) pa_nil)) (pa_cons (pe_tup pa_nil) pa_nil)))))) pss_nil)
    (pss_cons (ps_if (pt_cmpR op_eq (pv 2) pe_str (nomark _)) (pss_one (ps_ret (pe_mr M_mapping (L2N.takes_of rfl rfl rfl rfl) hr (by omega) (pv 0) (pa_cons (pv 1) pa_nil)))) pss_nil)
    (pss_cons (ps_if (PW.pt (pw_and (pt_cmpR op_eq (pv 2) pe_str (nomark _)) (pw_and1 (pt_truth (pe_fld (pv 0) rfl) (by intro _; rfl))))) (pss_one (ps_ret (pe_mr M_node (L2N.takes_of rfl rfl rfl rfl) hr (by omega) (pv 0) (pa_cons (pv 1) pa_nil)))) pss_nil)
    (pss_one (L2N.ps_raise rfl (L2N.takes_of rfl rfl rfl rfl) <| pmk_y XB hr (by omega) rfl (pa_cons (pv 4) pa_nil)))))))), ?_⟩
  obtain ⟨⟨k, qq⟩, e⟩ : ∃ x, tk[i]? = some x := ⟨_, List.getElem?_eq_getElem hi⟩
  refine vHere X rfl r e fun t w st dw => ?_
  refine ⟨t, _, rfl, st, rfl, _, _, rfl, _, _, rfl, _, _, rfl, rfl, ?_⟩
  refine ⟨_, rfl, small (by show 4 ≤ _; decide), fun t4 h4 => ⟨t4, _, rfl, .inr (SqT.of upd_same), rfl, flat_strs ["int", "name", "addr", "meta"], _, rfl, ?_⟩⟩
  have sm := same_new (H := H) (o := .tup [V.str "int", .str "name", .str "addr", .str "meta"]) h4
  have r1 := r.same sm
  have q1 := q.keep (Keep.ofSame sm)
  have dw1 := dw.same sm
  generalize upd H t4 (.tup [V.str "int", .str "name", .str "addr", .str "meta"]) = H1 at *
  obtain ⟨dx, hp⟩ := r1.at_
  rw [show inV (V.str k.kind) [V.str "int", .str "name", .str "addr", .str "meta"] = decide (k.kind ∈ (["int", "name", "addr", "meta"] : List Str)) from inV_str k.kind ["int", "name", "addr", "meta"]]
  -- what is read at once
  have leaf : ∀ (t : Rm), t.d = .tuple [.str k.kind, k.worth] → pTerm sig tk (n + 1) d i = .ok (t, i + 1) → k.kind ∈ (["int", "name", "addr", "meta"] : List Str) → ∀ {D : Ends}, D.rt = Q → ∀ {A : Prop}, if decide (k.kind ∈ (["int", "name", "addr", "meta"] : List Str)) = true then
      tRet (tTup (tCons (tVar 2) (tCons (tMeth C "take" (spRTake K C CB) [] E (tVar 0) (tCons (tVar 2) tNil)) tNil))) D [some (.ref p), some (.int (d : Nat)), some (.str k.kind), some w, some (.int (qq : Nat))] H1 else A := fun t et ep hk D hD A => by
    rw [decide_eq_true hk]
    rw [ep] at q1
    refine iteT ⟨_, rfl, _, rfl, p, dx, _, rfl, hp, rfl, _, rfl, p, dS, L, k.kind, sig, tk, i, k, qq, rfl, r1, e, fun _ v H' kp r' dv => ⟨small (by show 2 ≤ _; decide), fun a ha => ?_⟩, fun z => absurd rfl z⟩
    rw [hD]
    exact q1 _ _ (kp.trans (Keep.ofSame (same_new ha))) (r'.same (same_new ha)) (by rw [et]; exact Dt.mk2 ha (.str _) dv)
  cases k with
  | int m => exact leaf (.int m) (by unfold Rm.d; rfl) (by unfold pTerm; rw [e]) (by show ("int" : Str) ∈ _; decide +kernel) rfl
  | name m => exact leaf (.name m) (by unfold Rm.d; rfl) (by unfold pTerm; rw [e]) (by show ("name" : Str) ∈ _; decide +kernel) rfl
  | addr m => exact leaf (.addr m) (by unfold Rm.d; rfl) (by unfold pTerm; rw [e]) (by show ("addr" : Str) ∈ _; decide +kernel) rfl
  | var m => exact leaf (.var m) (by unfold Rm.d; rfl) (by unfold pTerm; rw [e]) (by show ("meta" : Str) ∈ _; decide +kernel) rfl
  | word m =>
    cases dw1
    rw [show decide ((Tk.word m).kind ∈ (["int", "name", "addr", "meta"] : List Str)) = false from decide_eq_false (show ("word" : Str) ∉ _ by decide +kernel)]
    refine iteF ⟨_, rfl, rfl, _, rfl, sT rfl ?_⟩
    refine ⟨_, rfl, p, C, dx, _, _, rfl, hp, X.cl, X.nS, rfl, dS, rfl, .inl ⟨_, .of r1.sg⟩, _, rfl, _, DGet.k (k := Sum.inr m) r1.sg, ?_⟩
    rw [valV_sig]
    by_cases h0 : sig.lookup m = some 0
    · rw [h0]
      have ep : pTerm sig tk (n + 1) d i = .ok (.node m [], i + 1) := by unfold pTerm; rw [e]; exact if_pos h0
      rw [ep] at q1
      refine ⟨rfl, _, rfl, ?_⟩
      rw [decide_eq_true (show ((some 0).map fun n : Nat => V.int (n : Nat)).getD .non = V.int 0 from rfl)]
      refine iteT ⟨_, rfl, p, dx, _, rfl, hp, rfl, _, rfl, p, dS, L, _, sig, tk, i, _, qq, rfl, r1, e, fun _ v H' kp r' dv => ⟨small (by show 0 ≤ _; decide), fun a ha => ⟨small (by show 3 ≤ _; decide), fun b hb => ?_⟩⟩, fun z => absurd rfl z⟩
      exact q1 _ _ ((kp.trans (Keep.ofSame (same_new ha))).trans (Keep.ofSame (same_new hb))) ((r'.same (same_new ha)).same (same_new hb)) (by unfold Rm.d; unfold Rm.ds; exact Dt.mk3 hb (.str _) (dv.new ha) (.tup (SqT.of upd_same) .nil))
    · have ep : pTerm sig tk (n + 1) d i = .error (false, qq) := by unfold pTerm; rw [e]; exact if_neg h0
      rw [ep] at q1
      have sc : scal (((sig.lookup m).map fun n : Nat => V.int (n : Nat)).getD .non) (V.int 0) = true := by cases sig.lookup m <;> rfl
      have ne : ¬ (((sig.lookup m).map fun n : Nat => V.int (n : Nat)).getD .non = V.int 0) := fun z => h0 (by
        cases hl : sig.lookup m with
        | none => rw [hl] at z; cases z
        | some x =>
          rw [hl] at z
          have : (x : Int) = 0 := V.int.inj z
          rw [show x = 0 by omega])
      refine ⟨sc, _, rfl, ?_⟩
      rw [decide_eq_false ne]
      refine iteF ⟨_, rfl, rfl, _, rfl, sF (by show ("word" : Str) ≠ _; decide +kernel) ⟨_, rfl, rfl, _, rfl, sF (by show ("word" : Str) ≠ _; decide +kernel) ⟨_, rfl, madeP (σ := []) XB.no fun d' H' sm' hd' => q1 d' H' (Keep.ofSame sm') hd'⟩⟩⟩
  | sg x =>
    cases dw1
    have hx := ok.signs x qq (List.mem_of_getElem? e)
    have hx4 : x = "(" ∨ x = ")" ∨ x = "{" ∨ x = "}" := by simpa [SIGNS] using hx
    have nk : ∀ y ∈ SIGNS, y ∉ (["int", "name", "addr", "meta"] : List Str) ∧ y ≠ "word" := by decide +kernel
    rw [show decide ((Tk.sg x).kind ∈ (["int", "name", "addr", "meta"] : List Str)) = false from decide_eq_false (nk x hx).1]
    refine iteF ⟨_, rfl, rfl, _, rfl, sF (nk x hx).2 ?_⟩
    have ep : pTerm sig tk (n + 1) d i = (if x = "{" then pMap tk (pTerm sig tk n (d + 1)) d i qq else if x = "(" then if sig = [] then .error (false, qq) else pNode sig tk (pTerm sig tk n (d + 1)) d i qq else .error (false, qq)) := by
      unfold pTerm; rw [e]
    rw [ep] at q1
    by_cases h1 : x = "{"
    · subst h1
      rw [if_pos rfl] at q1
      exact ⟨_, rfl, rfl, _, rfl, sT rfl ⟨_, rfl, p, dx, _, rfl, hp, rfl, _, rfl, p, dS, L, sig, tk, i, d, qq, rfl, r1, e, ok, hd, by omega, q1⟩⟩
    rw [if_neg h1] at q1
    by_cases h2 : x = "("
    · subst h2
      rw [if_pos rfl] at q1
      refine ⟨_, rfl, rfl, _, rfl, sF (by show ("(" : Str) ≠ _; decide +kernel) ⟨_, rfl, rfl, _, rfl, sT rfl ?_⟩⟩
      refine ⟨_, rfl, p, C, dx, _, _, rfl, hp, X.cl, X.nS, rfl, _, .inr (.inr ⟨_, r1.sg, rfl⟩), ?_⟩
      cases sig with
      | nil => exact iteF ⟨_, rfl, madeP (σ := []) XB.no fun d' H' sm' hd' => q1 d' H' (Keep.ofSame sm') hd'⟩
      | cons s0 sr =>
        rw [if_neg (by simp)] at q1
        exact iteT ⟨_, rfl, p, dx, _, rfl, hp, rfl, _, rfl, p, dS, L, _, tk, i, d, qq, rfl, r1, e, ok, hd, by omega, q1⟩
    rw [if_neg h2] at q1
    exact ⟨_, rfl, rfl, _, rfl, sF h1 ⟨_, rfl, rfl, _, rfl, sF h2 ⟨_, rfl, madeP (σ := []) XB.no fun d' H' sm' hd' => q1 d' H' (Keep.ofSame sm') hd'⟩⟩⟩
  | bad =>
    have ep : pTerm sig tk (n + 1) d i = .error (false, qq) := by unfold pTerm; rw [e]
    rw [ep] at q1
    rw [show decide (Tk.bad.kind ∈ (["int", "name", "addr", "meta"] : List Str)) = false by decide +kernel]
    exact iteF ⟨_, rfl, rfl, _, rfl, sF (by decide +kernel) ⟨_, rfl, rfl, _, rfl, sF (by decide +kernel) ⟨_, rfl, rfl, _, rfl, sF (by decide +kernel) ⟨_, rfl, madeP (σ := []) XB.no fun d' H' sm' hd' => q1 d' H' (Keep.ofSame sm') hd'⟩⟩⟩⟩
  | fin =>
    have ep : pTerm sig tk (n + 1) d i = .error (false, qq) := by unfold pTerm; rw [e]
    rw [ep] at q1
    rw [show decide (Tk.fin.kind ∈ (["int", "name", "addr", "meta"] : List Str)) = false by decide +kernel]
    exact iteF ⟨_, rfl, rfl, _, rfl, sF (by decide +kernel) ⟨_, rfl, rfl, _, rfl, sF (by decide +kernel) ⟨_, rfl, rfl, _, rfl, sF (by decide +kernel) ⟨_, rfl, madeP (σ := []) XB.no fun d' H' sm' hd' => q1 d' H' (Keep.ofSame sm') hd'⟩⟩⟩⟩
end
end PK
namespace PK
open PySem L2 _root_.TL
theorem many_zero (r : Nat → Except PErr (Rm × Nat)) (i : Nat) : pMany r 0 i = .ok ([], i) := rfl
theorem many_succ (r : Nat → Except PErr (Rm × Nat)) (n i : Nat) : pMany r (n + 1) i = match r i with
    | .error e => .error e
    | .ok (t, j) => match pMany r n j with
      | .error e => .error e
      | .ok (ts, k) => .ok (t :: ts, k) := rfl
theorem keep_free {p R : Addr} {H H' : Hp} {o : HO} (k : Keep p H H') (hp : H' p = some o) (h : H' R = none) : H R = none := by
  cases e : H R with
  | none => rfl
  | some u =>
    by_cases z : R = p
    · rw [z, hp] at h; cases h
    · rw [k R u z e] at h; cases h
theorem mem_lookup {sig : List (Str × Nat)} {c : Str} {m : Nat} : sig.lookup c = some m → (c, m) ∈ sig := by
  induction sig with
  | nil => intro h; cases h
  | cons e r ih =>
    intro h
    by_cases hc : (c == e.1) = true
    · simp only [List.lookup, hc] at h
      cases h
      rw [show (c, e.2) = e from Prod.ext (beq_iff_eq.mp hc) rfl]
      exact .head _
    · rw [Bool.not_eq_true] at hc
      simp only [List.lookup, hc] at h
      exact .tail _ (ih h)
section
variable {P : Program} {w : World} {K : PySem.W.Frag} {mg : Str → Option Value} {base : Heap} {aS C CB CD : Addr}
abbrev s_Reader_node : Stmt := (C8.clsBody (topS 25)).getD 3 (.Pass ⟨0, 0, 0, 0⟩)
theorem sc_Reader_node : FnScope ["self", "depth", "position", "kind", "constructor", "place", "parts", "_"] ["self", "depth"] (defScope s_Reader_node) := ⟨rfl, rfl, rfl, by decide +kernel, rfl, by decide +kernel, by decide +kernel⟩
-- slots: 0:self 1:depth 2:position 3:kind 4:constructor 5:place 6:parts 7:_
theorem ok_rnode {n : Nat} {f : Addr} {fd : FuncData} (F : Fun K "node" "Reader.node" s_Reader_node f fd) (T : TxtP K mg aS) (X : RTx K C) (XB : CalY P w K mg base 1 "BadTerm" CB (spIP K)) (XD : CalY P w K mg base 1 "TooDeep" CD (spIP K))
    (M_take : CalM P w K mg base 3 C "take" (spRTake K C CB)) (M_term : CalM P w K mg base (2 * n + 4) C "term" (rdTerm K C CB CD n)) :
    FnOk P w K mg base (L2N.CX P w) (2 * n + 5) f fd ["self", "depth"] (spNode K C CB CD n) := by
  refine PKN.okXN F sc_Reader_node (fun vs H Q E h => ?_) (fun cdv A outer s H vs Q E hr h => ?_)
  · obtain ⟨_, _, _, _, _, _, _, _, rfl, _⟩ := h
    rfl
  obtain ⟨p, dS, L, sig, tk, i, d, qq, rfl, r, e, ok, hd, hf, q⟩ := h
  refine ⟨_, (pss_cons (ps_set (i := 2) sc_Reader_node.nd rfl (Or.inl rfl) (pe_ix ix_tup (pe_ix ix_list (pe_fld (pv 0) rfl) (pe_fld (pv 0) rfl) (fun _ _ => rfl)) pe_int (fun _ _ => rfl)))
    (pss_cons (ps_expr (pe_mr M_take (L2N.takes_of rfl rfl rfl rfl) hr (by omega) (pv 0) (pa_cons pe_str pa_nil)))
    (pss_cons (ps_asg (pe_ix ix_list (pe_fld (pv 0) rfl) (pe_fld (pv 0) rfl) (fun _ _ => rfl)) (pg_tup (by rfl) (pgs_cons (pg_name (i := 3) sc_Reader_node.nd rfl (Or.inl rfl)) (pgs_cons (pg_name (i := 4) sc_Reader_node.nd rfl (Or.inl rfl)) (pgs_cons (pg_name (i := 5) sc_Reader_node.nd rfl (Or.inl rfl)) pgs_nil)))))
    (pss_cons (ps_if (PW.pt (pw_or (pt_cmpR op_ne (pv 3) pe_str (nomark _)) (pw_or1 (pt_cmp (pc_dnotin (hu_of hr) (pv 4) (pe_fld (pv 0) rfl)))))) (pss_one (L2N.ps_raise rfl (L2N.takes_of rfl rfl rfl rfl) <| pmk_y XB hr (by omega) rfl (pa_cons (pv 5) pa_nil))) pss_nil)
    (pss_cons (ps_if (pt_cmpR op_ge (pv 1) (pe_glI (n := 60) rfl T.g_MO) (nomark _)) (pss_one (L2N.ps_raise rfl (L2N.takes_of rfl rfl rfl rfl) <| pmk_y XD hr (by omega) rfl (pa_cons (pv 2) pa_nil))) pss_nil)
    (pss_cons (ps_expr (pe_mr M_take (L2N.takes_of rfl rfl rfl rfl) hr (by omega) (pv 0) (pa_cons pe_str pa_nil)))
    (pss_cons (ps_set (i := 6) sc_Reader_node.nd rfl (Or.inl rfl) (pe_lst pa_nil))
    (pss_cons (ps_for (passes_of rfl) rfl (pi_range1 (by rfl) T.z_range (pa_cons (pe_dget (hu_of hr) (pe_fld (pv 0) rfl) (pv 4) (fun _ _ => rfl)) pa_nil)) (pg_name (i := 7) sc_Reader_node.nd rfl (Or.inl rfl)) (pss_one (ps_expr (pe_bm PySem.F.plainAttrs_list PySem.F.slot_list_append PySem.F.type_list_append mt_append (pv 6) (pa_cons (pe_mr M_term (L2N.takes_of rfl rfl rfl rfl) hr (by omega) (pv 0) (pa_cons (pe_op op_add (pv 1) pe_int) pa_nil)) pa_nil)))))
    (pss_cons (ps_expr (pe_mr M_take (L2N.takes_of rfl rfl rfl rfl) hr (by omega) (pv 0) (pa_cons pe_str pa_nil)))
    (pss_one (ps_ret (pe_tup (pa_cons pe_str (pa_cons (pv 4) (pa_cons (pe_callTy call_tuple_of (by rfl) T.z_tuple (by decide +kernel) (pa_cons (pv 6) pa_nil)) pa_nil))))))))))))))), ?_⟩
  obtain ⟨dx, hp⟩ := id r.at_
  refine vHere X rfl r e fun t w st dw => ?_
  refine ⟨t, _, _, _, rfl, rfl, st, rfl, ?_⟩
  refine ⟨_, rfl, p, dx, _, rfl, hp, rfl, p, dS, L, _, sig, tk, i, _, qq, rfl, r, e, fun _ v H1 k1 r1 _ => ?_, fun z => absurd rfl z⟩
  have q1 := q.keep k1
  have h1 := ok.ended.lt e (by intro z; cases z)
  obtain ⟨⟨k, q2⟩, e2⟩ : ∃ x, tk[i + 1]? = some x := ⟨_, List.getElem?_eq_getElem h1⟩
  refine vHere X rfl r1 e2 fun t2 w2 st2 dw2 => ?_
  refine ⟨t2, _, rfl, st2, rfl, _, _, rfl, _, _, rfl, _, _, rfl, rfl, ?_⟩
  obtain ⟨dx1, hp1⟩ := id r1.at_
  refine ⟨_, rfl, rfl, _, rfl, ?_⟩
  by_cases hk : k.kind = "word"
  · rw [decide_eq_true (show V.str k.kind = V.str "word" by rw [hk])]
    refine iteF ?_
    have : ∃ c, k = .word c := by
      cases k with
      | word c => exact ⟨c, rfl⟩
      | sg x =>
        have nk : ∀ y ∈ SIGNS, y ≠ "word" := by decide +kernel
        exact absurd hk (nk x (ok.signs x q2 (List.mem_of_getElem? e2)))
      | int _ => exact absurd hk (by show ("int" : Str) ≠ _; decide +kernel)
      | name _ => exact absurd hk (by show ("name" : Str) ≠ _; decide +kernel)
      | addr _ => exact absurd hk (by show ("addr" : Str) ≠ _; decide +kernel)
      | var _ => exact absurd hk (by show ("meta" : Str) ≠ _; decide +kernel)
      | bad => exact absurd hk (by decide +kernel)
      | fin => exact absurd hk (by decide +kernel)
    obtain ⟨c, rfl⟩ := this
    cases dw2
    refine ⟨_, rfl, _, rfl, p, C, dx1, _, _, rfl, hp1, X.cl, X.nS, rfl, dS, _, rfl, DGet.k (k := Sum.inr c) r1.sg, _, rfl, ?_⟩
    rw [valV_sig]
    unfold pNode at q1
    rw [e2] at q1
    dsimp only at q1
    cases hl : sig.lookup c with
    | none =>
      rw [hl] at q1
      exact iteT ⟨_, rfl, madeP (σ := []) XB.no fun d' H' sm' hd' => q1 d' H' (Keep.ofSame sm') hd'⟩
    | some m =>
      rw [hl] at q1
      dsimp only at q1
      refine iteF ⟨_, rfl, _, _, rfl, rfl, _, rfl, ?_⟩
      by_cases h60 : 60 ≤ d
      · rw [if_pos h60] at q1
        rw [decide_eq_true (show (60 : Int) ≤ (d : Int) by omega)]
        exact iteT ⟨_, rfl, madeP (σ := []) XD.no fun d' H' sm' hd' => q1 d' H' (Keep.ofSame sm') hd'⟩
      rw [if_neg h60] at q1
      rw [decide_eq_false (show ¬ (60 : Int) ≤ (d : Int) by omega)]
      refine iteF ⟨_, rfl, p, dx1, _, rfl, hp1, rfl, p, dS, L, _, sig, tk, i + 1, _, q2, rfl, r1, e2, fun _ v2 H2 k2 r2 _ => ?_, fun z => absurd rfl z⟩
      have h2 := ok.ended.lt e2 (by intro z; cases z)
      have hm : m ≤ 1000 := ok.low _ (mem_lookup hl)
      refine ⟨Nat.zero_le _, fun R hR => ?_⟩
      obtain ⟨dx2, hp2⟩ := id r2.at_
      have nR : p ≠ R := ne_of_none hp2 hR
      have hR1 : H1 R = none := keep_free k2 hp2 hR
      have k3 : Keep p H1 (upd H2 R (.lst [])) := k2.trans (Keep.ofSame (same_new hR))
      have r3 := r2.same (same_new (o := .lst []) hR)
      refine ⟨_, rfl, p, C, dx2, _, _, rfl, by rw [upd_ne nR]; exact hp2, X.cl, X.nS, rfl, _, rfl, dS, .int (m : Nat), rfl, ?_, ?_⟩
      · have := DGet.k (k := Sum.inr c) r3.sg
        rw [valV_sig, hl] at this
        exact this
      refine ⟨(m : Int), rfl, by omega, by omega, for_range (n := m) (fun a σ H' => ∃ (ws : List V) (ts : List Rm) (j : Nat) (b : Option V), σ = [some (.ref p), some (.int (d : Nat)), some (.int (qq : Nat)), some (.str (Tk.word c).kind), some (.str c), some (.int (q2 : Nat)), some (.ref R), b] ∧
        Keep p H1 H' ∧ H' R = some (.lst ws) ∧ DtAll K H' ws (Rm.ds ts) ∧ ts.length = a ∧ RdA K H' p C dS L sig tk j ∧ j < tk.length ∧
        pMany (pTerm sig tk n (d + 1)) m (i + 2) = match pMany (pTerm sig tk n (d + 1)) (m - a) j with
          | .error x => .error x
          | .ok (us, l) => .ok (ts ++ us, l)) ?_ ?_ ?_⟩
      · refine ⟨[], [], i + 2, none, rfl, k3, upd_same, by unfold Rm.ds; exact .nil, rfl, r3, h2, ?_⟩
        rw [Nat.sub_zero]
        cases pMany (pTerm sig tk n (d + 1)) m (i + 2) <;> rfl
      · rintro a σ H' ha ⟨ws, ts, j, b, rfl, kp, hw, da, lt, rj, hj, em⟩
        obtain ⟨dxj, hpj⟩ := id rj.at_
        obtain ⟨a', ea⟩ : ∃ a', m - a = a' + 1 := ⟨m - a - 1, by omega⟩
        rw [ea, many_succ] at em
        have lw := da.length
        have ld : (Rm.ds ts).length = ts.length := by rw [Rm.ds_map, List.length_map]
        refine ⟨_, rfl, .inl ⟨rfl, _, SqL.of hw⟩, ⟨_, rfl, p, dxj, _, rfl, hpj, rfl, _, rfl, _, _, rfl, rfl, p, dS, L, sig, tk, j, d + 1, rfl, rj, hj, ok, by omega, by omega, ?_⟩⟩
        cases ht : pTerm sig tk n (d + 1) j with
        | error x =>
          rw [ht] at em
          rw [em] at q1
          exact q1.keep kp
        | ok x =>
          obtain ⟨tm, l⟩ := x
          rw [ht] at em
          dsimp only at em
          intro v' H'' k' r' dv
          have hpj'' := hpj
          have hw'' := k' _ _ (ne_of hw hpj (fun z => by cases z)) hw
          obtain ⟨dxl, hpl⟩ := id r'.at_
          refine ⟨R, _, _, rfl, rfl, hw'', smallL (by omega), ws ++ [v'], ts ++ [tm], l, _, rfl, ?_, upd_same, ?_, by rw [List.length_append, lt]; rfl, ?_, (term_lt ok.ended _ _ _ _ _ hj ht).2, ?_⟩
          · intro b' o hb' ho
            rw [upd_ne (ne_of_none ho hR1)]
            exact (kp.trans k') b' o hb' ho
          · rw [Rm.ds_map, List.map_append, ← Rm.ds_map]
            exact DtAll.mono (fun _ _ z => seqT_upd z hw'') _ _ (DtAll.append (da.keep k' hpj) (.cons dv .nil))
          · obtain ⟨ws', hL, dL⟩ := r'.tl
            have nLR : L ≠ R := fun z => by
              subst z
              obtain ⟨ws0, hL0, _⟩ := r1.tl
              rw [hL0] at hR1; cases hR1
            exact ⟨⟨dxl, by rw [upd_ne nR]; exact hpl⟩, by rw [upd_ne (ne_of r'.sg hw'' (fun z => by cases z))]; exact r'.sg, ws', by rw [upd_ne nLR]; exact hL, DtAll.mono (fun _ _ z => seqT_upd z hw'') _ _ dL⟩
          · rw [em, show m - (a + 1) = a' by omega]
            cases pMany (pTerm sig tk n (d + 1)) a' l with
            | error x => rfl
            | ok x =>
              obtain ⟨us, l2⟩ := x
              dsimp only
              rw [List.append_assoc]; rfl
      · rintro σ H' ⟨ws, ts, j, b, rfl, kp, hw, da, lt, rj, hj, em⟩
        rw [Nat.sub_self, many_zero] at em
        dsimp only at em
        rw [List.append_nil] at em
        rw [em] at q1
        dsimp only at q1
        obtain ⟨⟨k4, q4⟩, e4⟩ : ∃ x, tk[j]? = some x := ⟨_, List.getElem?_eq_getElem hj⟩
        obtain ⟨dxj, hpj⟩ := id rj.at_
        unfold pClose at q1
        rw [e4] at q1
        dsimp only at q1
        refine ⟨_, rfl, p, dxj, _, rfl, hpj, rfl, p, dS, L, _, sig, tk, j, k4, q4, rfl, rj, e4, fun hk4 v4 H4 kk4 r4 _ => ?_, fun hk4 => ?_⟩
        · rw [if_pos hk4] at q1
          have hw4 := kk4 _ _ (ne_of hw hpj (fun z => by cases z)) hw
          refine ⟨_, rfl, _, rfl, R, _, rfl, .inl ⟨SqL.of hw4, fun t5 h5 => ⟨small (by show 3 ≤ _; decide), fun t6 h6 => ?_⟩⟩⟩
          have s5 := same_new (H := H4) (o := .tup ws) h5
          refine q1 _ _ (((kp.trans kk4).trans (Keep.ofSame s5)).trans (Keep.ofSame (same_new h6))) ((r4.same s5).same (same_new h6)) ?_
          unfold Rm.d
          exact Dt.mk3 h6 (.str _) (.str c) (.tup (SqT.of upd_same) ((da.keep kk4 hpj).same s5))
        · rw [if_neg hk4] at q1
          intro d' H'' k' hd'
          exact q1 d' H'' (kp.trans k') hd'
  · rw [decide_eq_false (show ¬ V.str k.kind = V.str "word" from fun z => hk (V.str.inj z))]
    unfold pNode at q1
    rw [e2] at q1
    have q3 : outR K C CB CD p dS L sig tk H1 Q E (.error (false, q2)) := by
      cases k with
      | word c => exact absurd rfl hk
      | _ => exact q1
    exact iteT (iteT ⟨_, rfl, madeP (σ := []) XB.no fun d' H' sm' hd' => q3 d' H' (Keep.ofSame sm') hd'⟩)
end
end PK
namespace PK
open PySem L2 _root_.TL PyProof.Rows
/-! the order of names -/
abbrev SLe (a b : Str) : Prop := a.cps.toList ≤ b.cps.toList
theorem sle_trans {a b c : Str} (h : SLe a b) (g : SLe b c) : SLe a c := List.le_trans h g
theorem sle_total (a b : Str) : SLe a b ∨ SLe b a := List.le_total _ _
theorem sle_anti {a b : Str} (h : SLe a b) (g : SLe b a) : a = b := Str.ext' (Array.toList_inj.mp (List.le_antisymm h g))
theorem rising_pw : ∀ (l : List Str) (p : Str), risingS p l = true → (p :: l).Pairwise SLe
  | [], p, _ => by simp
  | x :: r, p, h => by
    unfold risingS at h
    rw [PyProof.Rows.ltCps_eq] at h
    obtain ⟨h1, h2⟩ := Bool.and_eq_true_iff.mp h
    have ih := rising_pw r x h2
    have px : SLe p x := fun z => by rw [decide_eq_true z] at h1; cases h1
    refine List.Pairwise.cons (fun y hy => ?_) ih
    rcases List.mem_cons.mp hy with e | e
    · rw [e]; exact px
    · exact sle_trans px ((List.pairwise_cons.mp ih).1 y e)
theorem sorted_pw {l : List Str} (h : sortedS l = true) : l.Pairwise SLe := by
  cases l with
  | nil => exact .nil
  | cons p r => exact rising_pw r p h
theorem ents_pw (es : List (Str × Rm)) : (ents es).Pairwise fun a b => SLe a.1 b.1 := by
  have := List.pairwise_mergeSort (le := fun a b : Str × Rm => decide (a.1.cps.toList ≤ b.1.cps.toList)) (fun a b c h g => decide_eq_true (sle_trans (of_decide_eq_true h) (of_decide_eq_true g)))
    (fun a b => by rcases sle_total a.1 b.1 with h | h <;> simp [h]) es
  exact this.imp fun h => of_decide_eq_true h
theorem ents_perm (es : List (Str × Rm)) : (ents es).Perm es := List.mergeSort_perm _ _
theorem key_inj {es : List (Str × Rm)} (nd : (es.map (·.1)).Nodup) {a b : Str × Rm} (ha : a ∈ es) (hb : b ∈ es) (h : a.1 = b.1) : a = b := by
  induction es with
  | nil => cases ha
  | cons e r ih =>
    rw [List.map_cons, List.nodup_cons] at nd
    rcases List.mem_cons.mp ha with ea | ea <;> rcases List.mem_cons.mp hb with eb | eb
    · rw [ea, eb]
    · exact absurd (by rw [← ea, h]; exact List.mem_map_of_mem eb) nd.1
    · exact absurd (by rw [← eb, ← h]; exact List.mem_map_of_mem ea) nd.1
    · exact ih nd.2 ea eb
theorem nodup_of_map {es : List (Str × Rm)} (h : (es.map (·.1)).Nodup) : es.Nodup := by
  rw [List.Nodup, List.pairwise_map] at h
  exact h.imp fun ne e => ne (by rw [e])
/-- the entries by the sorted names -/
theorem ents_of {es zs : List (Str × Rm)} (nd : (es.map (·.1)).Nodup) (hp : (zs.map (·.1)).Perm (es.map (·.1))) (hs : (zs.map (·.1)).Pairwise SLe) (hz : ∀ z ∈ zs, z ∈ es) : zs = ents es := by
  have ndz : (zs.map (·.1)).Nodup := hp.symm.nodup nd
  have ndz' : zs.Nodup := nodup_of_map ndz
  have nde' : es.Nodup := nodup_of_map nd
  have lz : zs.length = es.length := by have := hp.length_eq; rwa [List.length_map, List.length_map] at this
  have perm : zs.Perm es := by
    refine (List.perm_ext_iff_of_nodup ndz' nde').mpr fun a => ⟨hz a, fun ha => ?_⟩
    have : a.1 ∈ zs.map (·.1) := hp.symm.subset (List.mem_map_of_mem ha)
    obtain ⟨b, hb, e⟩ := List.mem_map.mp this
    rw [key_inj nd ha (hz b hb) e.symm]
    exact hb
  refine List.Perm.eq_of_pairwise (le := fun a b : Str × Rm => SLe a.1 b.1) (fun a b ha hb h g => ?_) (List.pairwise_map.mp hs) (ents_pw es) (perm.trans (ents_perm es).symm)
  exact key_inj nd (hz a ha) ((ents_perm es).subset hb) (sle_anti h g)
theorem valV_none {kvs : List (Key × V)} {ws : List Str} (e : kvs.map (·.1) = ws.map Sum.inr) {w : Str} : valV kvs (Sum.inr w) = none ↔ w ∉ ws := by
  have a := valV_any (Sum.inr w : Key) kvs
  constructor
  · intro h hw
    rw [h] at a
    have : (kvs.any fun kv => decide (kv.1 = Sum.inr w)) = true := by
      have m : (Sum.inr w : Key) ∈ kvs.map (·.1) := by rw [e]; exact List.mem_map_of_mem hw
      obtain ⟨x, hx, ex⟩ := List.mem_map.mp m
      exact List.any_eq_true.mpr ⟨x, hx, decide_eq_true ex⟩
    rw [this] at a; cases a
  · intro h
    cases v : valV kvs (Sum.inr w) with
    | none => rfl
    | some x =>
      rw [v] at a
      obtain ⟨y, hy, ey⟩ := List.any_eq_true.mp a
      have m : (Sum.inr w : Key) ∈ ws.map Sum.inr := by rw [← e, ← of_decide_eq_true ey]; exact List.mem_map_of_mem hy
      obtain ⟨z, hz, ez⟩ := List.mem_map.mp m
      exact absurd (Sum.inr.inj ez ▸ hz) h
/-- the value under a name -/
theorem valV_at {kvs : List (Key × V)} {es : List (Str × Rm)} {K : PySem.W.Frag} {H : Hp} : ∀ (kvs : List (Key × V)) (es : List (Str × Rm)), kvs.map (·.1) = (es.map (·.1)).map Sum.inr → DtAll K H (kvs.map (·.2)) (es.map (·.2.d)) → ∀ w ∈ es.map (·.1), ∃ v t, valV kvs (Sum.inr w) = some v ∧ (w, t) ∈ es ∧ Dt K H v t.d
  | [], [], _, _, w, hw => by cases hw
  | [], _ :: _, e, _, w, hw => by simp at e
  | _ :: _, [], e, _, w, hw => by simp at e
  | (k, v) :: kr, (x, t) :: er, e, da, w, hw => by
    simp only [List.map_cons, List.cons.injEq] at e
    obtain ⟨e1, e2⟩ := e
    subst e1
    rw [List.map_cons, List.map_cons] at da
    cases da with
    | cons d1 d2 =>
      by_cases h : x = w
      · subst h
        exact ⟨v, t, valV_hd, .head _, d1⟩
      · rcases List.mem_cons.mp hw with z | z
        · exact absurd z.symm h
        · obtain ⟨v', t', h1, h2, h3⟩ := valV_at (kvs := kvs) (es := es) kr er e2 d2 w z
          exact ⟨v', t', by rw [valV_tl (fun z => h (Sum.inr.inj z))]; exact h1, .tail _ h2, h3⟩
end PK
namespace PK
open PySem L2 _root_.TL PyProof.Rows
theorem ents_zero (r : Nat → Except PErr (Rm × Nat)) (tk : List (Tk × Nat)) (i : Nat) (acc : List (Str × Rm)) : pEnts r tk 0 i acc = .ok (acc, i) := rfl
theorem ents_name {r : Nat → Except PErr (Rm × Nat)} {tk : List (Tk × Nat)} {n i q : Nat} {acc : List (Str × Rm)} {x : Str} (e : tk[i]? = some (.name x, q)) (h : x ∉ acc.map (·.1)) : pEnts r tk (n + 1) i acc = match r (i + 1) with
      | .error e => .error e
      | .ok (t, j) => pEnts r tk n j (acc ++ [(x, t)]) := by
  show (match tk[i]? with | some (.name w, _) => _ | _ => _) = _
  rw [e]
  dsimp only
  rw [if_neg h]
  all_goals rfl
theorem ents_stop {r : Nat → Except PErr (Rm × Nat)} {tk : List (Tk × Nat)} {n i q : Nat} {acc : List (Str × Rm)} {k : Tk} (e : tk[i]? = some (k, q)) (h : ∀ x, k = .name x → x ∈ acc.map (·.1)) : pEnts r tk n i acc = .ok (acc, i) := by
  cases n with
  | zero => rfl
  | succ n =>
    show (match tk[i]? with | some (.name w, _) => _ | _ => _) = _
    rw [e]
    cases k with
    | name x => exact if_pos (h x rfl)
    | _ => rfl
section
variable {P : Program} {w : World} {K : PySem.W.Frag} {mg : Str → Option Value} {base : Heap} {aS C CB CD : Addr}
abbrev s_Reader_mapping : Stmt := (C8.clsBody (topS 25)).getD 4 (.Pass ⟨0, 0, 0, 0⟩)
theorem sc_Reader_mapping : FnScope ["self", "depth", "entries", "word"] ["self", "depth"] (defScope s_Reader_mapping) := ⟨rfl, rfl, rfl, by decide +kernel, rfl, by decide +kernel, by decide +kernel⟩
-- slots: 0:self 1:depth 2:entries(cell) 3:word
theorem ok_rmap {n : Nat} {f : Addr} {fd : FuncData} (F : Fun K "mapping" "Reader.mapping" s_Reader_mapping f fd) (T : TxtP K mg aS) (X : RTx K C) (XB : CalY P w K mg base 1 "BadTerm" CB (spIP K)) (XD : CalY P w K mg base 1 "TooDeep" CD (spIP K))
    (M_take : CalM P w K mg base 3 C "take" (spRTake K C CB)) (M_term : CalM P w K mg base (2 * n + 4) C "term" (rdTerm K C CB CD n)) :
    FnOk P w K mg base (L2N.CX P w) (2 * n + 5) f fd ["self", "depth"] (spMap K C CB CD n) := by
  refine PKN.okXN F sc_Reader_mapping (fun vs H Q E h => ?_) (fun cdv A outer s H vs Q E hr h => ?_)
  · obtain ⟨_, _, _, _, _, _, _, _, rfl, _⟩ := h
    rfl
  obtain ⟨p, dS, L, sig, tk, i, d, qq, rfl, r, e, ok, hd, hf, q⟩ := h
  refine ⟨_, (pss_cons (ps_if (pt_cmpR op_ge (pv 1) (pe_glI (n := 60) rfl T.g_MO) (nomark _)) (pss_one (L2N.ps_raise rfl (L2N.takes_of rfl rfl rfl rfl) <| pmk_y XD hr (by omega) rfl (pa_cons (pe_ix ix_tup (pe_ix ix_list (pe_fld (pv 0) rfl) (pe_fld (pv 0) rfl) (fun _ _ => rfl)) pe_int (fun _ _ => rfl)) pa_nil))) pss_nil)
    (pss_cons (ps_expr (pe_mr M_take (L2N.takes_of rfl rfl rfl rfl) hr (by omega) (pv 0) (pa_cons pe_str pa_nil)))
    (pss_cons (ps_set (i := 2) sc_Reader_mapping.nd rfl (Or.inr rfl) pe_dnewK)
    (C8.pss_cut (ps_while (passes_of rfl) (PW.pt (pw_and (pt_cmpR op_eq (pe_ix ix_tup (pe_ix ix_list (pe_fld (pv 0) rfl) (pe_fld (pv 0) rfl) (fun _ _ => rfl)) pe_int (fun _ _ => rfl)) pe_str (nomark _)) (pw_and1 (pt_cmp (pc_dnotin (hu_of hr) (pe_ix ix_tup (pe_ix ix_list (pe_fld (pv 0) rfl) (pe_fld (pv 0) rfl) (fun _ _ => rfl)) pe_int (fun _ _ => rfl)) (pv 2)))))) (pss_cons (ps_set (i := 3) sc_Reader_mapping.nd rfl (Or.inl rfl) (pe_mr M_take (L2N.takes_of rfl rfl rfl rfl) hr (by omega) (pv 0) (pa_cons pe_str pa_nil)))
    (pss_one (ps_dput (hu_of hr) (pv 2) (pv 3) (pe_mr M_term (L2N.takes_of rfl rfl rfl rfl) hr (by omega) (pv 0) (pa_cons (pe_op op_add (pv 1) pe_int) pa_nil)) rfl))))
    (pss_cons (ps_expr (pe_mr M_take (L2N.takes_of rfl rfl rfl rfl) hr (by omega) (pv 0) (pa_cons pe_str pa_nil)))
    (pss_one (ps_ret (pe_tup (pa_cons pe_str (pa_cons (pe_callTy call_tuple_of (by rfl) T.z_tuple (by decide +kernel) (pa_cons (pe_lc (own := [("word", 3)]) (g := (gName 3)) (tt := tYes) (by rfl) sc_Reader_mapping.nd (pi_list (pe_callB (call_sortedD (by rfl)) (by rfl) T.z_sorted (by decide +kernel) (pa_cons (pv 2) pa_nil))) (blkOk_by (N := ["self", "depth", "entries", "word"]) (sc := defScope s_Reader_mapping) (by decide +kernel)) (fun _ _ _ _ _ => (pg_name (i := 3) sc_Reader_mapping.nd rfl (Or.inl rfl))) (fun _ _ _ _ _ => pts_nil) (fun _ _ _ _ _ => (pe_tup (pa_cons (pv 3) (pa_cons (pe_dget (hu_of hr) (pv 2) (pv 3) (fun _ _ => rfl)) pa_nil))))) pa_nil)) pa_nil)))))))))), ?_⟩
  obtain ⟨dx, hp⟩ := id r.at_
  unfold pMap at q
  refine ⟨_, rfl, _, _, rfl, rfl, _, rfl, ?_⟩
  by_cases h60 : 60 ≤ d
  · rw [if_pos h60] at q
    rw [decide_eq_true (show (60 : Int) ≤ (d : Int) by omega)]
    refine iteT (vHere X rfl r e fun t w st dw => ⟨t, _, _, _, rfl, rfl, st, rfl, ?_⟩)
    exact madeP (σ := []) XD.no fun d' H' sm' hd' => q d' H' (Keep.ofSame sm') hd'
  rw [if_neg h60] at q
  rw [decide_eq_false (show ¬ (60 : Int) ≤ (d : Int) by omega)]
  refine iteF ⟨_, rfl, p, dx, _, rfl, hp, rfl, p, dS, L, _, sig, tk, i, _, qq, rfl, r, e, fun _ v H1 k1 r1 _ => ?_, fun z => absurd rfl z⟩
  have q1 := outR.keep q k1
  clear q
  have h1 := ok.ended.lt e (by intro z; cases z)
  obtain ⟨N, hN, few⟩ := ok.few
  intro D hD
  obtain ⟨dx1, hp1⟩ := id r1.at_
  have nD : p ≠ D := ne_of_none hp1 hD
  have r2 := r1.same (same_new (o := .dK []) hD)
  refine ⟨fun σ H' => ∃ (kvs : List (Key × V)) (es : List (Str × Rm)) (j : Nat) (b : Option V), σ = [some (.ref p), some (.int (d : Nat)), some (.ref D), b] ∧ Keep p H1 H' ∧ H' D = some (.dK kvs) ∧
    kvs.map (·.1) = (es.map (·.1)).map Sum.inr ∧ DtAll K H' (kvs.map (·.2)) (es.map (·.2.d)) ∧ (es.map (·.1)).Nodup ∧ es.length < 64 ∧ RdA K H' p C dS L sig tk j ∧ j < tk.length ∧
    pEnts (pTerm sig tk n (d + 1)) tk tk.length (i + 1) [] = .ok (es, j), ?_, ?_⟩
  · refine ⟨fun m σ H' => ∃ (kvs : List (Key × V)) (es : List (Str × Rm)) (j g : Nat) (b : Option V), σ = [some (.ref p), some (.int (d : Nat)), some (.ref D), b] ∧ m = tk.length - j ∧ Keep p H1 H' ∧ H' D = some (.dK kvs) ∧
      kvs.map (·.1) = (es.map (·.1)).map Sum.inr ∧ DtAll K H' (kvs.map (·.2)) (es.map (·.2.d)) ∧ (es.map (·.1)).Nodup ∧ (∀ x ∈ es.map (·.1), x ∈ N) ∧ RdA K H' p C dS L sig tk j ∧ j < tk.length ∧ tk.length ≤ g + j ∧
      pEnts (pTerm sig tk n (d + 1)) tk tk.length (i + 1) [] = pEnts (pTerm sig tk n (d + 1)) tk g j es, ⟨_, [], [], i + 1, tk.length, none, rfl, rfl, Keep.ofSame (same_new hD), upd_same, rfl, .nil, .nil, (fun _ h => nomatch h), r2, h1, by omega, rfl⟩, ?_⟩
    rintro m σ H' ⟨kvs, es, j, g, b, rfl, rfl, kp, hw, ek, da, nd, hN2, rj, hj, hg, em⟩
    obtain ⟨dxj, hpj⟩ := id rj.at_
    obtain ⟨⟨k, q3⟩, e3⟩ : ∃ x, tk[j]? = some x := ⟨_, List.getElem?_eq_getElem hj⟩
    have les : es.length ≤ N.length := by
      have := inj_le (es.map (·.1)) N nd hN2
      rwa [List.length_map] at this
    have lk : kvs.length = es.length := by
      have := congrArg List.length ek
      simpa using this
    have out : (∀ x, k = .name x → x ∈ es.map (·.1)) → ∃ (kvs : List (Key × V)) (es : List (Str × Rm)) (j : Nat) (b' : Option V), [some (V.ref p), some (.int (d : Nat)), some (.ref D), b] = [some (.ref p), some (.int (d : Nat)), some (.ref D), b'] ∧ Keep p H1 H' ∧ H' D = some (.dK kvs) ∧
        kvs.map (·.1) = (es.map (·.1)).map Sum.inr ∧ DtAll K H' (kvs.map (·.2)) (es.map (·.2.d)) ∧ (es.map (·.1)).Nodup ∧ es.length < 64 ∧ RdA K H' p C dS L sig tk j ∧ j < tk.length ∧
        pEnts (pTerm sig tk n (d + 1)) tk tk.length (i + 1) [] = .ok (es, j) := fun h =>
      ⟨kvs, es, j, b, rfl, kp, hw, ek, da, nd, by omega, rj, hj, em.trans (ents_stop e3 h)⟩
    refine vHere X rfl rj e3 fun t w st dw => ⟨t, _, _, _, rfl, rfl, st, rfl, ?_⟩
    refine ⟨rfl, _, rfl, ?_⟩
    by_cases hk : ∃ x, k = .name x
    · obtain ⟨x, rfl⟩ := hk
      refine sT rfl ?_
      cases dw
      refine vHere X rfl rj e3 fun t2 w2 st2 dw2 => ⟨t2, _, _, _, rfl, rfl, st2, rfl, ?_⟩
      cases dw2
      refine ⟨_, rfl, D, _, rfl, DGet.k (k := Sum.inr x) hw, _, rfl, ?_⟩
      by_cases hx : x ∈ es.map (·.1)
      · have hv : valV kvs (Sum.inr x) ≠ none := fun z => (valV_none ek).mp z hx
        cases hvv : valV kvs (Sum.inr x) with
        | none => exact absurd hvv hv
        | some v0 => exact iteF (out fun y hy => by cases hy; exact hx)
      · rw [(valV_none ek).mpr hx]
        have h4 := ok.ended.lt e3 (by intro z; cases z)
        obtain ⟨g', rfl⟩ : ∃ g', g = g' + 1 := ⟨g - 1, by omega⟩
        rw [ents_name e3 hx] at em
        refine iteT ⟨fun σ H2 => ∃ m', m' < tk.length - j ∧ ∃ (kvs : List (Key × V)) (es : List (Str × Rm)) (j g : Nat) (b : Option V), σ = [some (.ref p), some (.int (d : Nat)), some (.ref D), b] ∧ m' = tk.length - j ∧ Keep p H1 H2 ∧ H2 D = some (.dK kvs) ∧
          kvs.map (·.1) = (es.map (·.1)).map Sum.inr ∧ DtAll K H2 (kvs.map (·.2)) (es.map (·.2.d)) ∧ (es.map (·.1)).Nodup ∧ (∀ x ∈ es.map (·.1), x ∈ N) ∧ RdA K H2 p C dS L sig tk j ∧ j < tk.length ∧ tk.length ≤ g + j ∧
          pEnts (pTerm sig tk n (d + 1)) tk tk.length (i + 1) [] = pEnts (pTerm sig tk n (d + 1)) tk g j es, fun σ' H2 h => h, ?_⟩
        refine ⟨_, rfl, p, dxj, _, rfl, hpj, rfl, p, dS, L, _, sig, tk, j, _, q3, rfl, rj, e3, fun _ v5 H5 k5 r5 d5 => ?_, fun z => absurd rfl z⟩
        cases d5
        obtain ⟨dx5, hp5⟩ := id r5.at_
        have hw5 := k5 _ _ (ne_of hw hpj (fun z => by cases z)) hw
        refine ⟨_, rfl, p, dx5, _, rfl, hp5, rfl, _, rfl, _, _, rfl, rfl, p, dS, L, sig, tk, j + 1, d + 1, rfl, r5, h4, ok, by omega, by omega, ?_⟩
        cases ht : pTerm sig tk n (d + 1) (j + 1) with
        | error z =>
          rw [ht] at em
          dsimp only at em
          rw [em] at q1
          exact q1.keep (kp.trans k5)
        | ok z =>
          obtain ⟨tm, l⟩ := z
          rw [ht] at em
          dsimp only at em
          intro v6 H6 k6 r6 d6
          have hw6 := k6 _ _ (ne_of hw5 hp5 (fun z => by cases z)) hw5
          have hlt := term_lt ok.ended _ _ _ _ _ h4 ht
          obtain ⟨dx6, hp6⟩ := id r6.at_
          refine ⟨_, rfl, _, rfl, D, _, rfl, DPut.k (k := Sum.inr x) hw6 (smallL (by omega)), ?_⟩
          refine ⟨_, by omega, kvs ++ [(Sum.inr x, v6)], es ++ [(x, tm)], l, g', _, rfl, rfl, ?_, ?_, ?_, ?_, ?_, ?_, ?_, hlt.2, by omega, em⟩
          · intro b' o hb' ho
            rw [upd_ne (ne_of_none ho hD)]
            exact ((kp.trans k5).trans k6) b' o hb' ho
          · rw [upd_same, putK_new _ ((valV_none ek).mpr hx)]
          · rw [List.map_append, ek, List.map_append, List.map_append]; rfl
          · rw [List.map_append, List.map_append]
            exact DtAll.mono (fun _ _ z => seqT_updK z hw6) _ _ (DtAll.append ((da.keep k5 hpj).keep k6 hp5) (.cons d6 .nil))
          · rw [List.map_append]
            exact List.nodup_append.mpr ⟨nd, by simp, fun a ha b hb e => hx (by
              have hb' : b = x := List.mem_singleton.mp hb
              rw [hb'] at e; rw [← e]; exact ha)⟩
          · intro y hy
            rw [List.map_append] at hy
            rcases List.mem_append.mp hy with h | h
            · exact hN2 y h
            · rw [List.mem_singleton.mp h]; exact few x q3 (List.mem_of_getElem? e3)
          · obtain ⟨ws', hL, dL⟩ := r6.tl
            have nS : dS ≠ D := fun z => by
              have h0 := r1.sg
              rw [z, hD] at h0; cases h0
            exact ⟨⟨dx6, by rw [upd_ne nD]; exact hp6⟩, by rw [upd_ne nS]; exact r6.sg, ws', by rw [upd_ne (ne_of hL hw6 (fun z => by cases z))]; exact hL, DtAll.mono (fun _ _ z => seqT_updK z hw6) _ _ dL⟩
    · have nk : k.kind ≠ "name" := by
        intro z
        cases k with
        | name x => exact hk ⟨x, rfl⟩
        | sg x =>
          have nk : ∀ y ∈ SIGNS, y ≠ "name" := by decide +kernel
          exact absurd z (nk x (ok.signs x q3 (List.mem_of_getElem? e3)))
        | int _ => exact absurd z (by show ("int" : Str) ≠ _; decide +kernel)
        | word _ => exact absurd z (by show ("word" : Str) ≠ _; decide +kernel)
        | addr _ => exact absurd z (by show ("addr" : Str) ≠ _; decide +kernel)
        | var _ => exact absurd z (by show ("meta" : Str) ≠ _; decide +kernel)
        | bad => exact absurd z (by decide +kernel)
        | fin => exact absurd z (by decide +kernel)
      refine sF nk ?_
      exact iteF (out fun y hy => absurd ⟨y, hy⟩ hk)
  · rintro σ H' ⟨kvs, es, j, b, rfl, kp, hw, ek, da, nd, l64, rj, hj, em⟩
    rw [em] at q1
    dsimp only at q1
    obtain ⟨⟨k4, q4⟩, e4⟩ : ∃ x, tk[j]? = some x := ⟨_, List.getElem?_eq_getElem hj⟩
    obtain ⟨dxj, hpj⟩ := id rj.at_
    unfold pClose at q1
    rw [e4] at q1
    dsimp only at q1
    refine ⟨_, rfl, p, dxj, _, rfl, hpj, rfl, p, dS, L, _, sig, tk, j, k4, q4, rfl, rj, e4, fun hk4 v4 H4 kk4 r4 _ => ?_, fun hk4 => ?_⟩
    · rw [if_pos hk4] at q1
      have hw4 := kk4 _ _ (ne_of hw hpj (fun z => by cases z)) hw
      have da4 := da.keep kk4 hpj
      refine ⟨_, rfl, D, kvs, es.map (·.1), rfl, .of hw4, ek, by rw [List.length_map]; exact l64, fun ys Y hperm hsort hY => ?_⟩
      have s5 := same_new (H := H4) (o := .lst (ys.map V.str)) hY
      have hpm : ∀ y ∈ ys, y ∈ es.map (·.1) := fun y hy => hperm.subset hy
      have ly : ys.length < 64 := by rw [hperm.length_eq, List.length_map]; exact l64
      refine ⟨Y, rfl, ⟨_, SqL.of upd_same⟩, fun D2 hD2 => lc_list (K := K) (a := Y) (xs := ys.map V.str) (fun a H'' => ∃ (ws : List V) (zs : List (Str × Rm)), a ≤ ys.length ∧ Same (upd H4 Y (.lst (ys.map V.str))) H'' ∧ H'' D2 = some (.lst ws) ∧
        DtAll K H'' ws (Rm.es zs) ∧ zs.map (·.1) = ys.take a ∧ ∀ z ∈ zs, z ∈ es) ?_ (fun a H'' _ h => ?_) ?_ ?_⟩
      · exact ⟨[], [], Nat.zero_le _, same_new hD2, upd_same, by unfold Rm.es; exact .nil, rfl, fun _ h => nomatch h⟩
      · obtain ⟨_, _, _, s6, _⟩ := h
        exact s6.seq (SqL.of upd_same)
      · rintro a x H'' hx ⟨ws, zs, ha, s6, hD3, dz, ez, hz⟩
        have ha2 : a < ys.length := by
          have := (List.getElem?_eq_some_iff.mp hx).1
          rwa [List.length_map] at this
        rw [List.getElem?_map, List.getElem?_eq_getElem ha2] at hx
        cases hx
        obtain ⟨v6, t6, hv6, hm6, d6⟩ := valV_at (kvs := kvs) (es := es) kvs es ek da4 ys[a] (hpm _ (List.getElem_mem ha2))
        have hDn : H'' D = some (.dK kvs) := s6 _ _ (s5 _ _ hw4)
        have lw : ws.length = zs.length := by have := dz.length; rwa [Rm.es_map, List.length_map] at this
        have lz : zs.length = a := by
          have := congrArg List.length ez
          rw [List.length_map, List.length_take] at this
          omega
        refine ⟨rfl, yes_ ⟨_, rfl, _, rfl, _, rfl, D, v6, rfl, ?_, small (by show 2 ≤ _; decide), fun t ht => ⟨ws, ?_, smallL (by omega), ws ++ [.ref t], zs ++ [(ys[a], t6)], ha2, ?_, upd_same, ?_, ?_, ?_⟩⟩⟩
        · have := DGet.k (k := Sum.inr ys[a]) hDn
          rw [hv6] at this
          exact this
        · rw [upd_ne (ne_of_none hD3 ht)]; exact hD3
        · exact Same.upd (Same.upd s6 (s6.free ht)) hD2
        · rw [Rm.es_map, List.map_append, ← Rm.es_map]
          exact dz.snoc (same_new ht) (by rw [upd_ne (ne_of_none hD3 ht)]; exact hD3) (Dt.mk2 ht (.str _) ((d6.same s5).same s6))
        · rw [List.map_append, ez, List.take_add_one, List.getElem?_eq_getElem ha2]; rfl
        · intro z hz'
          rcases List.mem_append.mp hz' with h | h
          · exact hz z h
          · rw [List.mem_singleton.mp h]; exact hm6
      · rintro H'' ⟨ws, zs, _, s6, hD3, dz, ez, hz⟩
        rw [List.length_map, List.take_length] at ez
        have ee : zs = ents es := ents_of nd (by rw [ez]; exact hperm) (by rw [ez]; exact sorted_pw hsort) hz
        refine ⟨D2, _, rfl, .inl ⟨SqL.of hD3, fun l hl => ⟨small (by show 2 ≤ _; decide), fun t ht => ?_⟩⟩⟩
        have s7 := same_new (H := H'') (o := .tup ws) hl
        have s8 := (s5.trans s6).trans (s7.trans (same_new (o := .tup [.str "map", .ref l]) ht))
        refine q1 _ _ ((kp.trans kk4).trans (Keep.ofSame s8)) (r4.same s8) ?_
        unfold Rm.d
        rw [← ee]
        exact Dt.mk2 ht (.str _) (.tup (SqT.of upd_same) (dz.same s7))
    · rw [if_neg hk4] at q1
      intro d' H'' k' hd'
      exact q1 d' H'' (kp.trans k') hd'
end
end PK
namespace PK
open PySem L2 _root_.TL PyProof.Rows
structure CalC (P : Program) (w : World) (K : PySem.W.Frag) (mg : Str → Option Value) (base : Heap) (k : Nat) (x : Str) (C : Addr) (sp : Sp) : Prop where
  gC : mg x = some (.ref C)
  ex : ∃ (f : Addr) (fd : FuncData) (ps : List Str), Mk K C f ∧ FnOk P w K mg base CX0 k f fd ps sp ∧ Binds K fd ps []
section
variable {X : Cx} {k j : Nat} {x : Str} {sp : Sp} {p pos : Pos} {e : Expr} {es : List Expr} {t : TA} {C : Addr}
theorem pe_mk (c : CalC X.prog X.w X.K X.mg X.base k x C sp) (hr : Room j X.A) (hk : k + 1 ≤ j) (hg : Gl X x) (ha : PA X (e :: es) t)
    (hdb : (x == ("__debug__" : Str)) = false := by decide) (he : starEach (e :: es) X.env = (false, eval e X.env) :: starEach es X.env := by rfl) (hpl : (backTo pos (starEach es X.env)).any (·.1) = false := by rfl) :
    PE X (.Call (.Name x p) (e :: es) [] pos) (tMake C sp [] C8.E0 t) := by
  obtain ⟨f, fd, ps, M, F, b⟩ := c.ex
  exact pe_make M F (hr.mono hk) hg c.gC b .nil pass0 ha hdb he hpl
end
theorem tokOf_sg {p : List Nat} {s : Str} (h : tokOf p = .sg s) : s ∈ SIGNS := by
  unfold tokOf at h
  split at h
  · rename_i h1
    cases h; exact h1
  · repeat' split at h
    all_goals cases h
theorem scan_sg : ∀ (f p : Nat) (cs : List Nat) (s : Str) (q : Nat), (Tk.sg s, q) ∈ scan f p cs → s ∈ SIGNS := by
  intro f
  induction f with
  | zero => intro p cs s q h; cases h
  | succ f ih =>
    intro p cs s q h
    cases cs with
    | nil => rw [scan_nil] at h; cases h
    | cons c r =>
      by_cases hc : c ∈ SEP.cps.toList
      · rw [scan_sep hc] at h; exact ih _ _ _ _ h
      · rw [scan_tok hc] at h
        rcases List.mem_cons.mp h with e | e
        · exact tokOf_sg (Prod.mk.inj e).1.symm
        · exact ih _ _ _ _ e
theorem scan_len : ∀ (f p : Nat) (cs : List Nat), (scan f p cs).length ≤ cs.length := by
  intro f
  induction f with
  | zero => intro p cs; exact Nat.zero_le _
  | succ f ih =>
    intro p cs
    cases cs with
    | nil => exact Nat.le_refl _
    | cons c r =>
      by_cases h : c ∈ SEP.cps.toList
      · rw [scan_sep h]
        exact Nat.le_succ_of_le (ih _ _)
      · rw [scan_tok h, List.length_cons, List.length_cons]
        have h0 : 0 < tokLen (c :: r) := tokLen_pos (by simp)
        have := ih (p + tokLen (c :: r)) ((c :: r).drop (tokLen (c :: r)))
        rw [List.length_drop, List.length_cons] at this
        omega
theorem toks_ok {sig : List (Str × Nat)} {cs : List Nat} (hl : cs.length ≤ 4000) (few : ∃ N : List Str, N.length < 64 ∧ ∀ w p, (Tk.name w, p) ∈ toks cs → w ∈ N) (low : ∀ e ∈ sig, e.2 ≤ 1000) : TkOk sig (toks cs) where
  len := by
    unfold toks
    have := scan_len cs.length 0 cs
    rw [List.length_append, List.length_singleton]; omega
  ended := toks_ended cs
  signs := fun s p h => by
    unfold toks at h
    rcases List.mem_append.mp h with e | e
    · exact scan_sg _ _ _ _ _ e
    · have := List.mem_singleton.mp e
      cases this
  few := few
  low := low
def spRInit (K : PySem.W.Frag) (C : Addr) : Sp := fun vs H Q _ => ∃ (p dx dS : Addr) (x : Str) (sig : List (Str × Nat)), vs = [.ref p, .ref dS, .str x] ∧ H p = some (.ins C dx []) ∧ H dS = some (.dK (sigK sig)) ∧ x.length ≤ 4000 ∧
  ∀ H' L, Keep p H H' → RdA K H' p C dS L sig (toks x.cps.toList) 0 → Q .non H'
/-- what comes of a text -/
def outT (K : PySem.W.Frag) (CB CD : Addr) (H : Hp) (Q : VK) (E : XK) : Except PErr Rm → Prop
  | .ok t => ∀ v H', Same H H' → Dt K H' v t.d → Q v H'
  | .error (b, q) => ∀ d H', Same H H' → H' d = some (.xd [("position", .int (q : Nat))]) → E (.ref (if b then CD else CB)) (some d) H'
structure TxtR (K : PySem.W.Frag) (mg : Str → Option Value) (aS CL CP : Addr) : Prop extends TxtP K mg aS where
  gL : mg "TooLong" = some (.ref CL)
  xL : PySem.W.excIn K CL [.type "ValueError", .type "Exception", .type "BaseException", .type "object"] "ValueError.__new__" = true
  kL : PySem.W.keepIn K (.ref CL) = true
  bL : PySem.W.subIn K (.ref CL) (.type "BaseException") = some true
  tL : PySem.W.typeIn K (.ref CL) = some (.type "type")
  eL : PySem.W.exmOne K (.ref CL) (.ref CL) = some true
  gP : mg "PassError" = some (.ref CP)
  cE : ExcC K CL
  kP : PySem.W.kitOne K (.ref CL) (.ref CP) = some true
  kV : PySem.W.kitOne K (.ref CL) (.type "ValueError") = some true
  z_ValueError : mg "ValueError" = none
  z_repr : mg "repr" = none
  z_dict : mg "dict" = none
def spRead (K : PySem.W.Frag) (CB CD CL : Addr) : Sp := fun vs H Q E => ∃ (dS : Addr) (x : Str) (sig : List (Str × Nat)), vs = [.ref dS, .str x] ∧ H dS = some (.dK (sigK sig)) ∧ x.length ≤ 100000 ∧
  (x.length ≤ 4000 → TkOk sig (toks x.cps.toList) ∧ outT K CB CD H Q E (pRead sig x.cps.toList)) ∧ (4000 < x.length → E (.ref CL) none H)
section
variable {P : Program} {w : World} {K : PySem.W.Frag} {mg : Str → Option Value} {base : Heap} {aS C CB CD CL CP : Addr}
abbrev s_Reader___init__ : Stmt := (C8.clsBody (topS 25)).getD 0 (.Pass ⟨0, 0, 0, 0⟩)
theorem sc_Reader___init__ : FnScope ["self", "signature", "text"] ["self", "signature", "text"] (defScope s_Reader___init__) := ⟨rfl, rfl, rfl, by decide +kernel, rfl, by decide +kernel, by decide +kernel⟩
-- slots: 0:self 1:signature 2:text
abbrev s_read_term : Stmt := topS 19
theorem sc_read_term : FnScope ["signature", "text", "reader", "term"] ["signature", "text"] (defScope s_read_term) := ⟨rfl, rfl, rfl, by decide +kernel, rfl, by decide +kernel, by decide +kernel⟩
-- slots: 0:signature 1:text 2:reader 3:term
theorem ok_rinit {f : Addr} {fd : FuncData} (F : Fun K "__init__" "Reader.__init__" s_Reader___init__ f fd) (X : RTx K C) (C_tokens_of : C8.Cal P w K mg base 4 "_tokens_of" (spToks K) []) : FnOk P w K mg base CX0 5 f fd ["self", "signature", "text"] (spRInit K C) := by
  refine F.ok sc_Reader___init__ (fun vs H Q E h => ?_) (fun cdv A outer s H vs Q E hr h => ?_)
  · obtain ⟨_, _, _, _, _, rfl, _⟩ := h
    rfl
  obtain ⟨p, dx, dS, x, sig, rfl, hp, hS, hx, q⟩ := h
  refine ⟨_, (pss_cons (ps_fld (pv 0) (pv 1) rfl)
    (pss_cons (ps_fld (pv 0) (C8.pe_c C_tokens_of hr (by decide) rfl (pa_cons (pv 2) pa_nil)) rfl)
    (pss_one (ps_fld (pv 0) pe_int rfl)))), ?_⟩
  have nS : dS ≠ p := ne_of hS hp (fun z => by cases z)
  refine ⟨_, rfl, _, rfl, p, C, dx, _, rfl, hp, X.cl, X.nS, (by show 0 < 1000; decide), ?_⟩
  refine ⟨_, rfl, x, rfl, by omega, fun H1 L ws s1 hL hw da => ?_⟩
  refine ⟨_, rfl, p, C, dx, _, rfl, s1 _ _ upd_same, X.cl, X.nT, (by show 1 < 1000; decide), ?_⟩
  refine ⟨_, rfl, p, C, dx, _, rfl, upd_same, X.cl, X.nA, (by show 2 < 1000; decide), ?_⟩
  have nL : L ≠ p := fun z => by subst z; rw [upd_same] at hL; cases hL
  refine q _ L (fun b o hb ho => ?_) ⟨⟨dx, upd_same⟩, ?_, ws, ?_, ?_⟩
  · rw [upd_ne hb, upd_ne hb]
    exact s1 _ _ (by rw [upd_ne hb]; exact ho)
  · rw [upd_ne nS, upd_ne nS]
    exact s1 _ _ (by rw [upd_ne nS]; exact hS)
  · rw [upd_ne nL, upd_ne nL]; exact hw
  · refine da.keep (p := p) (C := C) (dx := dx) (fs := _) (fun b o hb ho => ?_) (s1 _ _ upd_same)
    rw [upd_ne hb, upd_ne hb]; exact ho
theorem ok_read {f : Addr} {fd : FuncData} (F : Fun K "read_term" "read_term" s_read_term f fd) (T : TxtR K mg aS CL CP) (MR : CalC P w K mg base 5 "Reader" C (spRInit K C))
    (M_term : CalM P w K mg base 126 C "term" (rdTerm K C CB CD 61)) (M_take : CalM P w K mg base 3 C "take" (spRTake K C CB)) : FnOk P w K mg base (L2N.CX P w) 128 f fd ["signature", "text"] (spRead K CB CD CL) := by
  refine PKN.okXN F sc_read_term (fun vs H Q E h => ?_) (fun cdv A outer s H vs Q E hr h => ?_)
  · obtain ⟨_, _, _, rfl, _⟩ := h
    rfl
  obtain ⟨dS, x, sig, rfl, hS, hxl, q0, qE⟩ := h
  refine ⟨_, (pss_cons (ps_if (pt_cmpR op_gt (pe_callB call_len_str (by rfl) T.z_len (by decide +kernel) (pa_cons (pv 1) pa_nil)) (pe_glI (n := 4000) rfl T.g_MT) (nomark _)) (pss_one (L2N.ps_raise rfl (L2N.takes_of rfl rfl rfl rfl) (L2N.pmk_own PySem.F.excBase_ValueError T.xL T.gL T.kL (raises_own T.bL T.tL) rfl))) pss_nil)
    (pss_cons (ps_set (i := 2) sc_read_term.nd rfl (Or.inl rfl) (pe_mk MR hr (by decide) rfl (pa_cons (pv 0) (pa_cons (pv 1) pa_nil))))
    (pss_cons (ps_set (i := 3) sc_read_term.nd rfl (Or.inl rfl) (pe_mr M_term (L2N.takes_of rfl rfl rfl rfl) hr (by decide) (pv 2) (pa_cons pe_int pa_nil)))
    (pss_cons (ps_expr (pe_mr M_take (L2N.takes_of rfl rfl rfl rfl) hr (by decide) (pv 2) (pa_cons pe_str pa_nil)))
    (pss_one (ps_ret (pv 3))))))), ?_⟩
  refine ⟨_, rfl, x, rfl, small (by omega), _, _, rfl, rfl, _, rfl, ?_⟩
  by_cases hx : 4000 < x.length
  · rw [decide_eq_true (show (x.length : Int) > 4000 by omega)]
    exact iteT (qE hx)
  have hx : x.length ≤ 4000 := by omega
  obtain ⟨ok, q⟩ := q0 hx
  rw [decide_eq_false (show ¬ (x.length : Int) > 4000 by omega)]
  refine iteF ⟨_, rfl, _, rfl, fun p dx hp hdx ne => ?_⟩
  have nS : dS ≠ p := ne_of_none hS hp
  have nS2 : dS ≠ dx := ne_of_none hS hdx
  refine ⟨p, dx, dS, x, sig, rfl, upd_same, by rw [upd_ne nS, upd_ne nS2]; exact hS, hx, fun H1 L k1 r1 => ⟨rfl, ?_⟩⟩
  have sm : ∀ {H2 : Hp}, Keep p H1 H2 → Same H H2 := fun k2 b o hb => by
    have h1 : b ≠ p := ne_of_none hb hp
    have h2 : b ≠ dx := ne_of_none hb hdx
    exact k2 b o h1 (k1 b o h1 (by rw [upd_ne h1, upd_ne h2]; exact hb))
  obtain ⟨dx1, hp1⟩ := id r1.at_
  have l0 : 0 < (toks x.cps.toList).length := by unfold toks; rw [List.length_append, List.length_singleton]; omega
  unfold pRead at q
  refine ⟨_, rfl, p, dx1, _, rfl, hp1, rfl, p, dS, L, sig, _, 0, 0, rfl, r1, l0, ok, by omega, by omega, ?_⟩
  cases ht : pTerm sig (toks x.cps.toList) 61 0 0 with
  | error z =>
    rw [ht] at q
    exact fun d H' k' hd => q d H' (sm k') hd
  | ok z =>
    obtain ⟨tm, j⟩ := z
    rw [ht] at q
    dsimp only at q
    have hj := (term_lt ok.ended _ _ _ _ _ l0 ht).2
    obtain ⟨⟨k, q3⟩, e3⟩ : ∃ x', (toks x.cps.toList)[j]? = some x' := ⟨_, List.getElem?_eq_getElem hj⟩
    rw [e3] at q
    dsimp only at q
    intro v H' k' r' dv
    obtain ⟨dxj, hpj⟩ := id r'.at_
    have kf : k.kind = "end" ↔ k = .fin := ⟨fun z => by
        cases k with
        | fin => rfl
        | sg y =>
          have nk : ∀ y ∈ SIGNS, y ≠ "end" := by decide +kernel
          exact absurd z (nk y (ok.signs y q3 (List.mem_of_getElem? e3)))
        | int _ => exact absurd z (by show ("int" : Str) ≠ _; decide +kernel)
        | word _ => exact absurd z (by show ("word" : Str) ≠ _; decide +kernel)
        | name _ => exact absurd z (by show ("name" : Str) ≠ _; decide +kernel)
        | addr _ => exact absurd z (by show ("addr" : Str) ≠ _; decide +kernel)
        | var _ => exact absurd z (by show ("meta" : Str) ≠ _; decide +kernel)
        | bad => exact absurd z (by decide +kernel), fun z => by rw [z]; rfl⟩
    refine ⟨_, rfl, p, dxj, _, rfl, hpj, rfl, p, dS, L, _, sig, _, j, k, q3, rfl, r', e3, fun hk v5 H5 k5 r5 _ => ?_, fun hk d H5 k5 hd => ?_⟩
    · rw [if_pos (kf.mp hk)] at q
      exact ⟨_, rfl, q _ _ (sm (k'.trans k5)) (dv.keep k5 hpj)⟩
    · rw [if_neg (fun z => hk (kf.mpr z))] at q
      exact q d H5 (sm (k'.trans k5)) hd
end
end PK
namespace PK
open PySem L2 _root_.TL
/-! texts in which tokens lie -/
theorem app_list (a b : Str) : (a ++ b).cps.toList = a.cps.toList ++ b.cps.toList := by
  show (a.cps ++ b.cps).toList = _
  rw [Array.toList_append]
theorem sep_oth : ∀ c ∈ SEP.cps.toList, c ∉ OTH.cps.toList := by decide +kernel
def Blk (b : Str) : Prop := ∀ c ∈ b.cps.toList, c ∈ SEP.cps.toList
theorem pre_list {p : Str} {c : Nat} (hp : p.cps.toList = [c]) (w : Str) : (p ++ w).cps.toList = c :: w.cps.toList := by rw [app_list, hp]; rfl
abbrev txt (n : Int) : Str := Str.ofString (toString n)
theorem txt_nat (n : Nat) : (txt (n : Nat)).cps.toList = numL n := tl_num n
theorem txt_neg {n : Nat} (h : 0 < n) : (txt (-(n : Int))).cps.toList = 45 :: numL n := by
  show (Str.ofString (toString (-(n : Int)))).cps.toList = _
  rw [PyProof.Rows.toString_neg (by omega), PyProof.Rows.signs_ofString, show (0 : Int) - -(n : Int) = (n : Nat) by omega, String.toList_append, List.map_append]
  rw [show List.map Char.toNat (toString ((n : Nat) : Int)).toList = numL n from (PyProof.Rows.signs_ofString _).symm.trans (tl_num n)]
  rfl
theorem txt_len {n : Int} (h : -(10 ^ 15) < n ∧ n < 10 ^ 15) : (txt n).length ≤ 16 := by
  by_cases h0 : 0 ≤ n
  · obtain ⟨m, rfl⟩ : ∃ m : Nat, n = m := ⟨n.toNat, by omega⟩
    rw [len_list, txt_nat]
    have := numL_len (n := m) (k := 15) (by decide) (by omega)
    omega
  · obtain ⟨m, rfl⟩ : ∃ m : Nat, n = -(m : Int) := ⟨(-n).toNat, by omega⟩
    rw [len_list, txt_neg (by omega), List.length_cons]
    have := numL_len (n := m) (k := 15) (by decide) (by omega)
    omega
theorem log_small {n : Int} (h : -(10 ^ 15) < n ∧ n < 10 ^ 15) : n.natAbs.log2 < 1920 := by
  by_cases z : n.natAbs = 0
  · rw [z]; decide
  · refine (Nat.log2_lt z).mpr (Nat.lt_of_lt_of_le (m := 2 ^ 64) (by omega) (Nat.pow_le_pow_right (by decide) (by decide)))

abbrev MDG : List Nat := ("-@0123456789" : Str).cps.toList
abbrev SGN : List Nat := ("(){}" : Str).cps.toList
/-- which sign may stand behind a token -/
def nxtS : Tk → Nat → Prop
  | .int _, c => c ∉ DIGS.cps.toList
  | .addr _, c => c ∉ DIGS.cps.toList
  | .name _, c => c ∉ OTH.cps.toList
  | .var _, c => c ∉ OTH.cps.toList
  | .word _, c => c ∉ OTH.cps.toList
  | _, _ => True
def meetB (b c : Nat) : Bool := if b ∈ MDG then decide (c ∈ DIGS.cps.toList) else if b ∈ SGN then false else decide (c ∈ OTH.cps.toList)
/-- the text of a token -/
structure TS (k : Tk) (x : Str) : Prop where
  pc : Piece x.cps.toList (nxtS k)
  tk : tokOf x.cps.toList = k
  hi : x.length ≤ 17
  mt : ∀ c, meetB (x.cps.toList.headD 0) c = false → nxtS k c
theorem sep_nxt {k : Tk} {c : Nat} (h : c ∈ SEP.cps.toList) : nxtS k c := by
  have h1 : c ∉ OTH.cps.toList := sep_oth c h
  have h2 : c ∉ DIGS.cps.toList := fun z => h1 (dig_oth c z)
  cases k <;> first | exact trivial | exact h1 | exact h2
theorem TS.ne {k : Tk} {x : Str} (h : TS k x) : x.cps.toList ≠ [] := h.pc.1
theorem ts_sign {s : Nat} (h : s ∈ ([40, 41, 123, 125] : List Nat)) {x : Str} (hx : x.cps.toList = [s]) : TS (.sg x) x := by
  refine ⟨?_, ?_, ?_, fun _ _ => trivial⟩
  · rw [hx]; exact piece_sign h
  · rw [hx, tok_sign s h, show mkS [s] = x by rw [← hx, mk'_of]]
  · rw [len_list, hx]; show 1 ≤ 17; decide
theorem meet_num {b : Nat} (h : b ∈ MDG) {c : Nat} (m : meetB b c = false) : c ∉ DIGS.cps.toList := by
  unfold meetB at m
  rw [if_pos h] at m
  exact of_decide_eq_false m
theorem meet_word {b : Nat} (h : b ∉ MDG) (h2 : b ∉ SGN) {c : Nat} (m : meetB b c = false) : c ∉ OTH.cps.toList := by
  unfold meetB at m
  rw [if_neg h, if_neg h2] at m
  exact of_decide_eq_false m
theorem let_not : ∀ s ∈ ("'$" : Str).cps.toList ++ LET.cps.toList, s ∉ MDG ∧ s ∉ SGN := by decide +kernel
theorem dig_mdg : ∀ s ∈ DIGS.cps.toList, s ∈ MDG := by decide +kernel
theorem ts_word {w : Str} (h : Wd w) : TS (.word w) w := by
  obtain ⟨s, r, e, hs⟩ := h.hd
  have ho := h.al
  rw [e] at ho
  obtain ⟨n1, n2⟩ := let_not s (List.mem_append_right _ hs)
  refine ⟨?_, tok_word h, by have := h.hi; omega, fun c m => ?_⟩
  · rw [e]; exact piece_word (.inr hs) (fun x hx => ho x (.tail _ hx))
  · rw [e] at m; exact meet_word n1 n2 m
theorem ts_name {w : Str} (h : Wd w) : TS (.name w) ("'" ++ w) := by
  have e := pre_list (by decide +kernel : ("'" : Str).cps.toList = [39]) w
  obtain ⟨n1, n2⟩ := let_not 39 (by decide +kernel)
  refine ⟨?_, ?_, ?_, fun c m => ?_⟩
  · rw [e]; exact piece_word (.inl (by decide +kernel : 39 ∈ ("'$" : Str).cps.toList)) h.al
  · rw [e]; exact tok_name h
  · rw [len_list, e, List.length_cons, ← len_list]; have := h.hi; omega
  · rw [e] at m; exact meet_word n1 n2 m
theorem ts_var {w : Str} (h : Wd w) : TS (.var w) ("$" ++ w) := by
  have e := pre_list (by decide +kernel : ("$" : Str).cps.toList = [36]) w
  obtain ⟨n1, n2⟩ := let_not 36 (by decide +kernel)
  refine ⟨?_, ?_, ?_, fun c m => ?_⟩
  · rw [e]; exact piece_word (.inl (by decide +kernel : 36 ∈ ("'$" : Str).cps.toList)) h.al
  · rw [e]; exact tok_var h
  · rw [len_list, e, List.length_cons, ← len_list]; have := h.hi; omega
  · rw [e] at m; exact meet_word n1 n2 m
theorem ts_addr {n : Int} (h : 0 ≤ n ∧ n < 1000000000) : TS (.addr n) ("@" ++ txt n) := by
  obtain ⟨m, rfl⟩ : ∃ m : Nat, n = m := ⟨n.toNat, by omega⟩
  have e := pre_list (by decide +kernel : ("@" : Str).cps.toList = [64]) (txt (m : Nat))
  have hm : m < 10 ^ 9 := by omega
  rw [txt_nat] at e
  refine ⟨?_, ?_, ?_, fun c m => ?_⟩
  · rw [e]; exact piece_num (.inl (by decide +kernel : 64 ∈ ("-@" : Str).cps.toList)) (all_dig (numL_digits m))
  · rw [e]; exact tok_addr hm
  · rw [len_list, e, List.length_cons]; have := numL_len (n := m) (k := 9) (by decide) hm; omega
  · rw [e] at m; exact meet_num (by decide +kernel : 64 ∈ MDG) m
theorem ts_int {n : Int} (h : -1000000000000000 < n ∧ n < 1000000000000000) : TS (.int n) (txt n) := by
  by_cases h0 : 0 ≤ n
  · obtain ⟨m, rfl⟩ : ∃ m : Nat, n = m := ⟨n.toNat, by omega⟩
    have hm : m < 10 ^ 15 := by omega
    have e := txt_nat m
    have hd := all_dig (numL_digits m)
    cases ed : numL m with
    | nil => exact absurd ed (numL_ne m)
    | cons a r =>
      have hd' := hd
      rw [ed] at hd'
      refine ⟨?_, ?_, ?_, fun c q => ?_⟩
      · rw [e, ed]; exact piece_num (.inr (hd' a (.head _))) (fun x hx => hd' x (.tail _ hx))
      · rw [e]; exact tok_nat hm
      · rw [len_list, e]; have := numL_len (n := m) (k := 15) (by decide) hm; omega
      · rw [e, ed] at q; exact meet_num (dig_mdg a (hd' a (.head _))) q
  · obtain ⟨m, rfl⟩ : ∃ m : Nat, n = -(m : Int) := ⟨(-n).toNat, by omega⟩
    have hm : m < 10 ^ 15 := by omega
    have e := txt_neg (n := m) (by omega)
    refine ⟨?_, ?_, ?_, fun c q => ?_⟩
    · rw [e]; exact piece_num (.inl (by decide +kernel : 45 ∈ ("-@" : Str).cps.toList)) (all_dig (numL_digits m))
    · rw [e]; exact tok_neg hm (by omega)
    · rw [len_list, e, List.length_cons]; have := numL_len (n := m) (k := 15) (by decide) hm; omega
    · rw [e] at q; exact meet_num (by decide +kernel : 45 ∈ MDG) q
inductive TSL : List Tk → List Str → Prop
  | nil : TSL [] []
  | cons {k : Tk} {x : Str} {ks : List Tk} {xs : List Str} : TS k x → TSL ks xs → TSL (k :: ks) (x :: xs)
theorem TSL.app : ∀ {a b : List Tk} {x y : List Str}, TSL a x → TSL b y → TSL (a ++ b) (x ++ y)
  | _, _, _, _, .nil, h => h
  | _, _, _, _, .cons h t, g => .cons h (t.app g)
theorem TSL.len : ∀ {a : List Tk} {x : List Str}, TSL a x → a.length = x.length
  | _, _, .nil => rfl
  | _, _, .cons _ t => by rw [List.length_cons, List.length_cons, t.len]
theorem TSL.get : ∀ {a : List Tk} {x : List Str} {i : Nat} {z : Str}, TSL a x → x[i]? = some z → ∃ k, a[i]? = some k ∧ TS k z
  | _, _, _, _, .nil, e => by simp at e
  | _, _, 0, _, .cons h t, e => by simp at e; subst e; exact ⟨_, rfl, h⟩
  | _, _, i + 1, _, .cons h t, e => by
    obtain ⟨k, h1, h2⟩ := TSL.get (i := i) t (by simpa using e)
    exact ⟨k, by simpa using h1, h2⟩
/-- what is laid so far, the last token k -/
def Pre (x : Str) (done : List Tk) (k : Tk) : Prop := ∀ u us, (∀ c ∈ u.head?, nxtS k c) → Lays u us → Lays (x.cps.toList ++ u) (done ++ us)
def LaidT (x : Str) (ts : List Tk) : Prop := ∀ u, (∀ c ∈ u, c ∈ SEP.cps.toList) → Lays (x.cps.toList ++ u) ts
theorem pre_nil (k : Tk) : Pre "" [] k := fun u us _ l => by
  show Lays ([] ++ u) ([] ++ us)
  rw [List.nil_append, List.nil_append]; exact l
theorem Pre.step {x g z : Str} {done : List Tk} {k j : Tk} (h : Pre x done k) (hg : Blk g) (hz : TS j z) (hn : g.cps.toList = [] → nxtS k (z.cps.toList.headD 0)) : Pre (x ++ g ++ z) (done ++ [j]) j := fun u us hu l => by
  rw [app_list, app_list, List.append_assoc, List.append_assoc, List.append_assoc]
  have l1 := lays_tok hz.pc hu l
  rw [hz.tk] at l1
  refine h _ (j :: us) ?_ (lays_seps hg l1)
  intro c hc
  cases eg : g.cps.toList with
  | nil =>
    have h0 := hn eg
    cases ez : z.cps.toList with
    | nil => exact absurd ez hz.ne
    | cons a r =>
      rw [ez] at h0
      rw [eg, ez] at hc
      have : a = c := by simpa using hc
      rw [← this]; exact h0
  | cons a r =>
    rw [eg] at hc
    have : a = c := by simpa using hc
    exact sep_nxt (hg c (by rw [eg, this]; exact .head _))
theorem Pre.fin {x g : Str} {done : List Tk} {k : Tk} (h : Pre x done k) (hg : Blk g) : LaidT (x ++ g) done := fun u hu => by
  rw [app_list, List.append_assoc]
  have hb : ∀ c ∈ g.cps.toList ++ u, c ∈ SEP.cps.toList := fun c hc => (List.mem_append.mp hc).elim (hg c) (hu c)
  have l0 : Lays (g.cps.toList ++ u) [] := by
    have := lays_seps (b := g.cps.toList ++ u) (u := []) hb lays_nil
    rwa [List.append_nil] at this
  have := h (g.cps.toList ++ u) [] (fun c hc => sep_nxt (hb c (List.mem_of_mem_head? hc))) l0
  rwa [List.append_nil] at this
theorem cut_hd (z : Str) (h : z.cps.toList ≠ []) : cutS z none (some 1) = ⟨#[z.cps.toList.headD 0]⟩ := by
  have hl : 1 ≤ z.length := by
    rw [len_list]; exact List.length_pos_iff.mpr h
  unfold cutS HT.sIx
  cases e : z.cps.toList with
  | nil => exact absurd e h
  | cons a r =>
    have e2 : z.length = r.length + 1 := by rw [len_list, e]; rfl
    simp [e2]
abbrev GAPS : List Str := ["", "", " ", "\n", "   ", " \n ", "\n\n"]
theorem gaps_ok : ∀ g ∈ GAPS, (∀ c ∈ g.cps.toList, c ∈ SEP.cps.toList) ∧ g.length ≤ 3 := by decide +kernel
def spMeet : Sp := fun vs H Q _ => ∃ (b x : Str), vs = [.str b, .str x] ∧ b.cps.toList ≠ [] ∧ x.cps.toList ≠ [] ∧ b.length ≤ 100 ∧ x.length ≤ 100 ∧ Q (.bl (meetB (b.cps.toList.headD 0) (x.cps.toList.headD 0))) H
def spGap : Sp := fun vs H Q _ => ∃ (l c : Addr), vs = [.ref l] ∧ Pool H l c ∧ ∀ (g : Str) (H' : Hp), Ext l c H H' → Blk g → g.length ≤ 3 → Q (.str g) H'
section
variable {P : Program} {w : World} {K : PySem.W.Frag} {mg : Str → Option Value} {base : Heap} {aS CL CP : Addr}
abbrev s_law_meet : Stmt := topS 37
theorem sc_law_meet : FnScope ["before", "word", "others"] ["before", "word"] (defScope s_law_meet) := ⟨rfl, rfl, rfl, by decide +kernel, rfl, by decide +kernel, by decide +kernel⟩
-- slots: 0:before 1:word 2:others
abbrev s_law_gap : Stmt := topS 38
theorem sc_law_gap : FnScope ["pool", "gaps"] ["pool"] (defScope s_law_gap) := ⟨rfl, rfl, rfl, by decide +kernel, rfl, by decide +kernel, by decide +kernel⟩
-- slots: 0:pool 1:gaps
theorem ok_meet {f : Addr} {fd : FuncData} (F : Fun K "_law_meet" "_law_meet" s_law_meet f fd) : FnOk P w K mg base CX0 1 f fd ["before", "word"] spMeet := by
  refine F.ok sc_law_meet (fun vs H Q E h => ?_) (fun cdv A outer s H vs Q E hr h => ?_)
  · obtain ⟨_, _, rfl, _⟩ := h
    rfl
  obtain ⟨b, x, rfl, hb, hx, lb, lx, q⟩ := h
  refine ⟨_, (pss_cons (ps_set (i := 2) sc_law_meet.nd rfl (Or.inl rfl) pe_str)
    (pss_cons (ps_if (pt_cmpR op_in_sign (pe_slice sl_str (pv 0) po_none (po_some pe_int)) pe_str rfl) (pss_one (ps_ret (pe_cmpR op_in_sign (pe_slice sl_str (pv 1) po_none (po_some pe_int)) pe_str rfl))) pss_nil)
    (pss_cons (ps_if (pt_cmpR op_in_sign (pe_slice sl_str (pv 0) po_none (po_some pe_int)) pe_str rfl) (pss_one (ps_ret pe_bl)) pss_nil)
    (pss_one (ps_ret (pe_cmpR op_in_sign (pe_slice sl_str (pv 1) po_none (po_some pe_int)) (pv 2) rfl)))))), ?_⟩
  unfold meetB at q
  refine ⟨_, rfl, _, rfl, b, rfl, small (by omega), ?_⟩
  rw [cut_hd b hb]
  refine ⟨_, _, rfl, rfl, _, rfl, ?_⟩
  by_cases h1 : b.cps.toList.headD 0 ∈ MDG
  · rw [if_pos h1] at q
    rw [decide_eq_true h1]
    refine iteT ⟨_, rfl, _, rfl, x, rfl, small (by omega), ?_⟩
    rw [cut_hd x hx]
    exact ⟨_, _, rfl, rfl, q⟩
  rw [if_neg h1] at q
  rw [decide_eq_false h1]
  refine iteF ⟨_, rfl, _, rfl, b, rfl, small (by omega), ?_⟩
  rw [cut_hd b hb]
  refine ⟨_, _, rfl, rfl, _, rfl, ?_⟩
  by_cases h2 : b.cps.toList.headD 0 ∈ SGN
  · rw [if_pos h2] at q
    rw [decide_eq_true h2]
    exact iteT q
  rw [if_neg h2] at q
  rw [decide_eq_false h2]
  refine iteF ⟨_, rfl, _, rfl, x, rfl, small (by omega), ?_⟩
  rw [cut_hd x hx]
  exact ⟨_, rfl, _, _, rfl, rfl, q⟩
theorem ok_gap {f : Addr} {fd : FuncData} (F : Fun K "_law_gap" "_law_gap" s_law_gap f fd) (C_law_take : C8.Cal P w K mg base 2 "_law_take" (spTake 2) []) : FnOk P w K mg base CX0 3 f fd ["pool"] spGap := by
  refine F.ok sc_law_gap (fun vs H Q E h => ?_) (fun cdv A outer s H vs Q E hr h => ?_)
  · obtain ⟨_, _, rfl, _⟩ := h
    rfl
  obtain ⟨l, c, rfl, P0, q⟩ := h
  refine ⟨_, (pss_cons (ps_set (i := 1) sc_law_gap.nd rfl (Or.inl rfl) (pe_lst (pa_cons pe_str (pa_cons pe_str (pa_cons pe_str (pa_cons pe_str (pa_cons pe_str (pa_cons pe_str (pa_cons pe_str pa_nil)))))))))
    (pss_one (ps_ret (pe_ix ix_list (pv 1) (C8.pe_c C_law_take hr (by decide) rfl (pa_cons (pv 0) (pa_cons pe_int pa_nil))) (fun _ _ => rfl))))), ?_⟩
  refine ⟨small (by show 7 ≤ _; decide), fun D hD => ?_⟩
  have x1 := (Ext.refl P0).new (o := .lst (GAPS.map V.str)) P0 hD
  refine ⟨_, rfl, vTake rfl x1.pool (by decide) (by decide) fun d H2 d0 d1 x2 => ?_⟩
  have hD2 := x2.keep _ _ (P0.ne hD).1 (upd_same (H := H) (a := D) (o := .lst (GAPS.map V.str)))
  obtain ⟨j, rfl⟩ : ∃ j : Nat, d = j := ⟨d.toNat, by omega⟩
  have hj : j < GAPS.length := by show j < 7; omega
  have gg : GAPS[j]? = some GAPS[j] := List.getElem?_eq_getElem hj
  have hm : GAPS[j] ∈ GAPS := List.getElem_mem hj
  generalize GAPS[j] = g at gg hm
  obtain ⟨g1, g2⟩ := gaps_ok g hm
  exact ⟨D, _, (j : Nat), .str g, rfl, rfl, SqL.of hD2, atI_nat (by rw [List.getElem?_map, gg]; rfl), q g H2 (x1.trans x2) (fun c hc => g1 c hc) g2⟩
end
end PK
namespace PK
open PySem L2 _root_.TL
/-! the words of a term -/
/-- as the reader says terms -/
def Tm.rm (t : Tm) : Rm := match t with
  | .int n => .int n
  | .name s => .name s
  | .addr n => .addr n
  | .var s => .var s
  | .node c ts => .node c (ts.attach.map fun k => k.1.rm)
  | .map es => .map (es.attach.map fun e => (e.1.1, e.1.2.rm))
  | .form _ _ => .int 0
termination_by sizeOf t
decreasing_by
  · have := List.sizeOf_lt_of_mem k.2; simp only [Tm.node.sizeOf_spec]; omega
  · have := List.sizeOf_lt_of_mem e.2
    have e2 : sizeOf e.1 = 1 + sizeOf e.1.1 + sizeOf e.1.2 := by cases e.1; rfl
    simp only [Tm.map.sizeOf_spec]; omega
theorem rm_node (c : Str) (ts : List Tm) : (Tm.node c ts).rm = .node c (ts.map Tm.rm) := by
  rw [Tm.rm, List.attach_map_val (f := Tm.rm)]
theorem rm_map (es : List (Str × Tm)) : (Tm.map es).rm = .map (es.map fun e => (e.1, e.2.rm)) := by
  rw [Tm.rm, List.attach_map_val (f := fun e : Str × Tm => (e.1, e.2.rm))]
theorem rm_d {sig : List (Str × Nat)} {ms : List Str} {t : Tm} (h : TOk sig ms t) : t.rm.d = t.d := by
  induction t using Tm.ind with
  | h t ih =>
    cases t with
    | node c ts =>
      rw [rm_node]
      unfold Rm.d Tm.d
      rw [Rm.ds_map, Tm.ds_map, List.map_map]
      have e : ts.map (Rm.d ∘ Tm.rm) = ts.map Tm.d := List.map_congr_left fun k hk => ih k hk (h.kid hk)
      rw [e]
    | map es =>
      rw [rm_map]
      unfold Rm.d Tm.d
      rw [Rm.es_map, Tm.es_map, List.map_map]
      have e : es.map ((fun e : Str × Rm => PyData.tuple [.str e.1, e.2.d]) ∘ fun e : Str × Tm => (e.1, e.2.rm)) = es.map Tm.ent := List.map_congr_left fun e he => by
        have hk : e.2 ∈ (Tm.map es).kids := List.mem_map.mpr ⟨e, he, rfl⟩
        show PyData.tuple [.str e.1, e.2.rm.d] = PyData.tuple [.str e.1, e.2.d]
        rw [ih e.2 hk (h.kid hk)]
      rw [e]
    | form f ts => exact h.at_.elim
    | int n => rw [Tm.rm]; rfl
    | name n => rw [Tm.rm]; rfl
    | addr n => rw [Tm.rm]; rfl
    | var n => rw [Tm.rm]; rfl
theorem sig_look {sh : Int} {sig : List (Str × Nat)} (ok : SigOk sh sig) {c : Str} {m : Nat} (h : (c, m) ∈ sig) : sig.lookup c = some m := by
  obtain ⟨j, hj, e⟩ := List.mem_iff_getElem.mp h
  have g : sig[j]? = some (c, m) := by rw [List.getElem?_eq_getElem hj, e]
  have h1 := sig_get ok g
  rw [valV_sig] at h1
  cases e2 : sig.lookup c with
  | none => rw [e2] at h1; cases h1
  | some k =>
    rw [e2] at h1
    have : V.int (k : Nat) = V.int (m : Nat) := Option.some.inj h1
    have := V.int.inj this
    rw [show k = m by omega]
/-- the tokens of a term -/
def FlT (sig : List (Str × Nat)) (t : Tm) (ks : List Tk) : Prop := ∀ n, t.ht ≤ n → Fl sig n t.rm ks
theorem fl_leaf {sig : List (Str × Nat)} {t : Tm} {ks : List Tk} (h : Leaf sig t.rm ks) : FlT sig t ks := fun n _ => by
  cases n with
  | zero => exact h
  | succ n => exact .inl h
theorem fl_node {sig : List (Str × Nat)} {c : Str} {ts : List Tm} {body : List Tk} (hl : sig.lookup c = some ts.length) (hb : ∀ n, (∀ k ∈ ts, k.ht ≤ n) → FlL (Fl sig n) (ts.map Tm.rm) body) : FlT sig (Tm.node c ts) (.sg "(" :: .word c :: (body ++ [.sg ")"])) := fun n hn => by
  have hp := (Tm.node c ts).ht_pos
  obtain ⟨m, rfl⟩ : ∃ m, n = m + 1 := ⟨n - 1, by omega⟩
  refine .inr (.inl ⟨c, ts.map Tm.rm, body, rm_node c ts, by rw [List.length_map]; exact hl, hb m fun k hk => ?_, rfl⟩)
  have := Tm.ht_kid (t := .node c ts) hk
  omega
theorem fl_map {sig : List (Str × Nat)} {es es' : List (Str × Tm)} {body : List Tk} (nd : (es.map Prod.fst).Nodup) (srt : PyProof.Rows.sortedS (es.map Prod.fst) = true) (pm : es'.Perm es) (hb : ∀ n, (∀ e ∈ es', e.2.ht ≤ n) → FlE (Fl sig n) (es'.map fun e => (e.1, e.2.rm)) body) : FlT sig (Tm.map es) (.sg "{" :: (body ++ [.sg "}"])) := fun n hn => by
  have hp := (Tm.map es).ht_pos
  obtain ⟨m, rfl⟩ : ∃ m, n = m + 1 := ⟨n - 1, by omega⟩
  have ek : ∀ l : List (Str × Tm), (l.map fun e => ((e.1, e.2.rm) : Str × Rm)).map (·.1) = l.map Prod.fst := fun l => by rw [List.map_map]; rfl
  have nd' : ((es'.map fun e => ((e.1, e.2.rm) : Str × Rm)).map (·.1)).Nodup := by rw [ek]; exact (pm.map Prod.fst).nodup_iff.mpr nd
  refine .inr (.inr ⟨es'.map fun e => (e.1, e.2.rm), body, ?_, nd', hb m fun e he => ?_, rfl⟩)
  · rw [rm_map]
    congr 1
    refine ents_of nd' ?_ ?_ fun z hz => ?_
    · rw [ek, ek]; exact (pm.map Prod.fst).symm
    · rw [ek]; exact sorted_pw srt
    · obtain ⟨e, he, rfl⟩ := List.mem_map.mp hz
      exact List.mem_map.mpr ⟨e, pm.mem_iff.mpr he, rfl⟩
  · have := Tm.ht_kid (t := .map es) (k := e.2) (List.mem_map.mpr ⟨e, pm.mem_iff.mp he, rfl⟩)
    omega
theorem fll_snoc {R : Rm → List Tk → Prop} : ∀ {us : List Rm} {b : List Tk} {t : Rm} {a : List Tk}, FlL R us b → R t a → FlL R (us ++ [t]) (b ++ a)
  | [], b, t, a, h, ha => by
    have : b = [] := h
    subst this
    exact ⟨a, [], (List.append_nil _).symm, ha, rfl⟩
  | u :: us, b, t, a, h, ha => by
    obtain ⟨x, y, rfl, h1, h2⟩ := h
    exact ⟨x, y ++ a, by rw [List.append_assoc], h1, fll_snoc h2 ha⟩
theorem fle_snoc {R : Rm → List Tk → Prop} : ∀ {us : List (Str × Rm)} {b : List Tk} {w : Str} {t : Rm} {a : List Tk}, FlE R us b → R t a → FlE R (us ++ [(w, t)]) (b ++ .name w :: a)
  | [], b, w, t, a, h, ha => by
    have : b = [] := h
    subst this
    exact ⟨a, [], by rw [List.append_nil]; rfl, ha, rfl⟩
  | (v, u) :: us, b, w, t, a, h, ha => by
    obtain ⟨x, y, rfl, h1, h2⟩ := h
    exact ⟨x, y ++ .name w :: a, by rw [List.cons_append, List.append_assoc], h1, fle_snoc h2 ha⟩
theorem take_sum {α : Type} (f : α → Nat) : ∀ (l : List α) (n : Nat), ((l.take n).map f).sum ≤ (l.map f).sum
  | [], n => by simp
  | a :: r, 0 => by simp
  | a :: r, n + 1 => by
    rw [List.take_succ_cons, List.map_cons, List.map_cons, List.sum_cons, List.sum_cons]
    have := take_sum f r n
    omega
theorem sum_le {f : Tm → Nat} : ∀ {l : List Tm} {k : Tm}, k ∈ l → f k ≤ (l.map f).sum
  | a :: r, k, h => by
    show _ ≤ f a + (r.map f).sum
    rcases List.mem_cons.mp h with rfl | h
    · omega
    · have := sum_le (f := f) h; omega
theorem kid_size {t k : Tm} (h : k ∈ t.kids) : k.size ≤ t.size := by
  have := sum_le (f := Tm.size) h
  rw [Tm.size_eq t]; omega
def spLw (K : PySem.W.Frag) (n : Nat) : Sp := fun vs H Q _ => ∃ (l c : Addr) (v : V) (t : Tm) (sig : List (Str × Nat)) (ms : List Str) (sh : Int), vs = [.ref l, v] ∧ Pool H l c ∧ Dt K H v t.d ∧ TOk sig ms t ∧ SigOk sh sig ∧ t.ht ≤ n ∧ t.size ≤ 1000 ∧
  ∀ (H' : Hp) (L : Addr) (ks : List Tk) (xs : List Str), Ext l c H H' → H L = none → H' L = some (.lst (xs.map V.str)) → TSL ks xs → FlT sig t ks → xs.length + 1 ≤ 4 * t.size → (∀ w, Tk.name w ∈ ks → w ∈ ms) → Q (.ref L) H'
section
variable {P : Program} {w : World} {K : PySem.W.Frag} {mg : Str → Option Value} {base : Heap} {aS CL CP : Addr}
abbrev s_law_words : Stmt := topS 36
theorem sc_law_words : FnScope ["pool", "term", "head", "row", "part", "entries", "entry"] ["pool", "term"] (defScope s_law_words) := ⟨rfl, rfl, rfl, by decide +kernel, rfl, by decide +kernel, by decide +kernel⟩
-- slots: 0:pool 1:term 2:head 3:row 4:part 5:entries 6:entry
theorem ok_words {n : Nat} {f : Addr} {fd : FuncData} (F : Fun K "_law_words" "_law_words" s_law_words f fd) (T : TxtR K mg aS CL CP) (C_law_take : C8.Cal P w K mg base 2 "_law_take" (spTake 2) []) (C_law_words : C8.Cal P w K mg base (n + 2) "_law_words" (spLw K n) []) : FnOk P w K mg base CX0 (n + 3) f fd ["pool", "term"] (spLw K (n + 1)) := by
  refine F.ok sc_law_words (fun vs H Q E h => ?_) (fun cdv A outer s H vs Q E hr h => ?_)
  · obtain ⟨_, _, _, _, _, _, _, rfl, _⟩ := h
    rfl
  obtain ⟨l, c, v, t, sig, ms, sh, rfl, P0, hv, tok, sok, hht, hsz, q⟩ := h
  refine ⟨_, (pss_cons (ps_set (i := 2) sc_law_words.nd rfl (Or.inl rfl) (pe_ix ix_tup (pv 1) pe_int (fun _ _ => rfl)))
    (pss_cons (ps_if (pt_cmpR op_eq (pv 2) pe_str (nomark _)) (pss_one (ps_ret (pe_lst (pa_cons (pe_callTy call_str_int (by rfl) T.z_str (by decide +kernel) (pa_cons (pe_ix ix_tup (pv 1) pe_int (fun _ _ => rfl)) pa_nil)) pa_nil)))) pss_nil)
    (pss_cons (ps_if (pt_cmpR op_eq (pv 2) pe_str (nomark _)) (pss_one (ps_ret (pe_lst (pa_cons (pe_op op_add_str pe_str (pe_callTy call_str_int (by rfl) T.z_str (by decide +kernel) (pa_cons (pe_ix ix_tup (pv 1) pe_int (fun _ _ => rfl)) pa_nil))) pa_nil)))) pss_nil)
    (pss_cons (ps_if (pt_cmpR op_eq (pv 2) pe_str (nomark _)) (pss_one (ps_ret (pe_lst (pa_cons (pe_op op_add_str pe_str (pe_ix ix_tup (pv 1) pe_int (fun _ _ => rfl))) pa_nil)))) pss_nil)
    (pss_cons (ps_if (pt_cmpR op_eq (pv 2) pe_str (nomark _)) (pss_one (ps_ret (pe_lst (pa_cons (pe_op op_add_str pe_str (pe_ix ix_tup (pv 1) pe_int (fun _ _ => rfl))) pa_nil)))) pss_nil)
    (pss_cons (ps_if (pt_cmpR op_eq (pv 2) pe_str (nomark _)) (C8.pss_cut (ps_if (PW.pt (pw_and (pt_not (pt_truth (pe_ix ix_tup (pv 1) pe_int (fun _ _ => rfl)) (by intro _; rfl))) (pw_and1 (pt_cmpR op_eq (C8.pe_c C_law_take hr (by omega) rfl (pa_cons (pv 0) (pa_cons pe_int pa_nil))) pe_int (nomark _))))) (pss_one (ps_ret (pe_lst (pa_cons (pe_ix ix_tup (pv 1) pe_int (fun _ _ => rfl)) pa_nil)))) pss_nil)
    (pss_cons (ps_set (i := 3) sc_law_words.nd rfl (Or.inl rfl) (pe_lst (pa_cons pe_str (pa_cons (pe_ix ix_tup (pv 1) pe_int (fun _ _ => rfl)) pa_nil))))
    (pss_cons (ps_for PassesOwn.never rfl (pi_tup (pe_ix ix_tup (pv 1) pe_int (fun _ _ => rfl))) (pg_name (i := 4) sc_law_words.nd rfl (Or.inl rfl)) (pss_one (ps_set (i := 3) sc_law_words.nd rfl (Or.inl rfl) (pe_op op_cat (pv 3) (C8.pe_c C_law_words hr (by omega) rfl (pa_cons (pv 0) (pa_cons (pv 4) pa_nil)))))))
    (pss_one (ps_ret (pe_op op_cat (pv 3) (pe_lst (pa_cons pe_str pa_nil)))))))) pss_nil)
    (pss_cons (ps_set (i := 5) sc_law_words.nd rfl (Or.inl rfl) (pe_lst pa_nil))
    (pss_cons (ps_for PassesOwn.never rfl (pi_tup (pe_ix ix_tup (pv 1) pe_int (fun _ _ => rfl))) (pg_name (i := 6) sc_law_words.nd rfl (Or.inl rfl)) (pss_one (ps_expr (pe_bm PySem.F.plainAttrs_list PySem.F.slot_list_insert PySem.F.type_list_insert mt_insert (pv 5) (pa_cons (C8.pe_c C_law_take hr (by omega) rfl (pa_cons (pv 0) (pa_cons (pe_op op_add (pe_callB call_len_seq (by rfl) T.z_len (by decide +kernel) (pa_cons (pv 5) pa_nil)) pe_int) pa_nil))) (pa_cons (pv 6) pa_nil))))))
    (pss_cons (ps_set (i := 3) sc_law_words.nd rfl (Or.inl rfl) (pe_lst (pa_cons pe_str pa_nil)))
    (pss_cons (ps_for PassesOwn.never rfl (pi_list (pv 5)) (pg_name (i := 6) sc_law_words.nd rfl (Or.inl rfl)) (pss_one (ps_set (i := 3) sc_law_words.nd rfl (Or.inl rfl) (pe_op op_cat (pe_op op_cat (pv 3) (pe_lst (pa_cons (pe_op op_add_str pe_str (pe_ix ix_tup (pv 6) pe_int (fun _ _ => rfl))) pa_nil))) (C8.pe_c C_law_words hr (by omega) rfl (pa_cons (pv 0) (pa_cons (pe_ix ix_tup (pv 6) pe_int (fun _ _ => rfl)) pa_nil)))))))
    (pss_one (ps_ret (pe_op op_cat (pv 3) (pe_lst (pa_cons pe_str pa_nil))))))))))))))), ?_⟩
  have hsize := t.size_pos
  have one : ∀ {H1 : Hp} {p : Addr} {k : Tk} {x : Str}, Ext l c H H1 → H1 p = none → H p = none → TS k x → Leaf sig t.rm [k] → (∀ w, k = .name w → w ∈ ms) → Q (.ref p) (upd H1 p (.lst [.str x])) := fun {H1 p k x} x1 hp hp0 ts lf hn =>
    q _ p [k] [x] (x1.new P0 hp) hp0 upd_same (.cons ts .nil) (fl_leaf lf) (by show 1 + 1 ≤ _; omega) fun w hw => hn w (List.mem_singleton.mp hw).symm
  cases t with
  | form f ts => exact tok.at_.elim
  | int m =>
    unfold Tm.d at hv
    obtain ⟨a, x, y, rfl, hs, h1, h2⟩ := Dt.t2 hv
    obtain rfl := h1.s
    obtain rfl := h2.i
    have hm : -1000000000000000 < m ∧ m < 1000000000000000 := tok.at_
    refine vTx rfl hs (atI_nat (j := 0) rfl) ⟨_, rfl, rfl, _, rfl, sT rfl ?_⟩
    refine vTx rfl hs (atI_nat (j := 1) rfl) ⟨_, rfl, ?_⟩
    exact ⟨log_small (by omega), small (by show 1 ≤ _; decide), fun p hp => one (Ext.refl P0) hp hp (ts_int hm) (by rw [Tm.rm]; rfl) (fun w e => nomatch e)⟩
  | addr m =>
    unfold Tm.d at hv
    obtain ⟨a, x, y, rfl, hs, h1, h2⟩ := Dt.t2 hv
    obtain rfl := h1.s
    obtain rfl := h2.i
    have hm : 0 ≤ m ∧ m < 1000000000 := tok.at_
    have tl : (txt m).length ≤ 16 := txt_len (by omega)
    refine vTx rfl hs (atI_nat (j := 0) rfl) ⟨_, rfl, rfl, _, rfl, sF (by decide +kernel) ⟨_, rfl, rfl, _, rfl, sT rfl ?_⟩⟩
    refine vTx rfl hs (atI_nat (j := 1) rfl) ⟨_, rfl, log_small (by omega), _, _, rfl, rfl, small (by show 1 + (txt m).length ≤ _; omega), small (by show 1 ≤ _; decide), fun p hp => one (Ext.refl P0) hp hp (ts_addr hm) (by rw [Tm.rm]; rfl) (fun w e => nomatch e)⟩
  | name m =>
    unfold Tm.d at hv
    obtain ⟨a, x, y, rfl, hs, h1, h2⟩ := Dt.t2 hv
    obtain rfl := h1.s
    obtain rfl := h2.s
    have hm : m ∈ ms ∧ Wd m := tok.at_
    have hi := hm.2.hi
    refine vTx rfl hs (atI_nat (j := 0) rfl) ⟨_, rfl, rfl, _, rfl, sF (by decide +kernel) ⟨_, rfl, rfl, _, rfl, sF (by decide +kernel) ⟨_, rfl, rfl, _, rfl, sT rfl ?_⟩⟩⟩
    refine vTx rfl hs (atI_nat (j := 1) rfl) ⟨_, _, rfl, rfl, small (by show 1 + m.length ≤ _; omega), small (by show 1 ≤ _; decide), fun p hp => one (Ext.refl P0) hp hp (ts_name hm.2) (by rw [Tm.rm]; rfl) (fun w e => by cases e; exact hm.1)⟩
  | var m =>
    unfold Tm.d at hv
    obtain ⟨a, x, y, rfl, hs, h1, h2⟩ := Dt.t2 hv
    obtain rfl := h1.s
    obtain rfl := h2.s
    have hm : m ∈ ms ∧ Wd m := tok.at_
    have hi := hm.2.hi
    refine vTx rfl hs (atI_nat (j := 0) rfl) ⟨_, rfl, rfl, _, rfl, sF (by decide +kernel) ⟨_, rfl, rfl, _, rfl, sF (by decide +kernel) ⟨_, rfl, rfl, _, rfl, sF (by decide +kernel) ⟨_, rfl, rfl, _, rfl, sT rfl ?_⟩⟩⟩⟩
    refine vTx rfl hs (atI_nat (j := 1) rfl) ⟨_, _, rfl, rfl, small (by show 1 + m.length ≤ _; omega), small (by show 1 ≤ _; decide), fun p hp => one (Ext.refl P0) hp hp (ts_var hm.2) (by rw [Tm.rm]; rfl) (fun w e => nomatch e)⟩
  | node cn ts =>
    unfold Tm.d at hv
    obtain ⟨a, x, y, z, rfl, hs, h1, h2, h3⟩ := Dt.t3 hv
    obtain rfl := h1.s
    obtain rfl := h2.s
    obtain ⟨b, ys, rfl, hb, hys⟩ := Dt.tn h3
    rw [Tm.ds_map] at hys
    have ly : ys.length = ts.length := by rw [hys.lenD, List.length_map]
    have hm : Wd cn ∧ (cn, ts.length) ∈ sig ∧ ts.length ≤ 8 := tok.at_
    have hlk := sig_look sok hm.2.1
    have hi := hm.1.hi
    have hse := Tm.size_eq (.node cn ts)
    have hse : (Tm.node cn ts).size = 1 + (ts.map Tm.size).sum := hse
    refine vTx rfl hs (atI_nat (j := 0) rfl) ⟨_, rfl, rfl, _, rfl, sF (by decide +kernel) ⟨_, rfl, rfl, _, rfl, sF (by decide +kernel) ⟨_, rfl, rfl, _, rfl, sF (by decide +kernel) ⟨_, rfl, rfl, _, rfl, sF (by decide +kernel) ⟨_, rfl, rfl, _, rfl, sT rfl ?_⟩⟩⟩⟩⟩
    refine ⟨fun σ' H' => σ' = [some (.ref l), some (.ref a), some (.str "node"), none, none, none, none] ∧ Ext l c H H', ?_, ?_⟩
    · refine vTx rfl hs (atI_nat (j := 2) rfl) ⟨!ys.isEmpty, .inr (.inl ⟨ys, hb, rfl⟩), ?_⟩
      cases ts with
      | cons t0 tr =>
        cases ys with
        | nil => simp at ly
        | cons y0 yr => exact iteF (iteF ⟨rfl, Ext.refl P0⟩)
      | nil =>
        obtain rfl : ys = [] := List.length_eq_zero_iff.mp ly
        refine iteT (vTake rfl P0 (by decide) (by decide) fun d H1 d0 d1 x1 => ⟨rfl, _, rfl, ite2 (fun _ => ?_) (fun _ => ⟨rfl, x1⟩)⟩)
        refine vTx rfl (x1.seqT P0 hs) (atI_nat (j := 1) rfl) ⟨small (by show 1 ≤ _; decide), fun p hp => one x1 hp (x1.free P0 hp) (ts_word hm.1) (by rw [rm_node]; exact ⟨rfl, hlk⟩) (fun w e => nomatch e)⟩
    rintro σ' H1 ⟨rfl, x1⟩
    have hs1 := x1.seqT P0 hs
    have hb1 := x1.seqT P0 hb
    have hys1 : DtAll K H1 ys (ts.map Tm.d) := DtAll.mono (fun _ _ z => x1.seqT P0 z) _ _ hys
    refine vTx rfl hs1 (atI_nat (j := 1) rfl) ⟨small (by show 2 ≤ _; decide), fun L hL => ?_⟩
    have y1 := x1.new (o := .lst [.str "(", .str cn]) P0 hL
    have eb : (ts.map Tm.size).sum < 1000 := by omega
    refine vTx rfl (Same.seqT (same_new hL) hs1) (atI_nat (j := 2) rfl) ⟨b, rfl, ⟨_, Same.seqT (same_new hL) hb1⟩, for_it (walk_tup (K := K) (xs := ys)) (fun i σ H' => ∃ (L : Addr) (body : List Tk) (xs : List Str) (o : Option V), σ = [some (.ref l), some (.ref a), some (.str "node"), some (.ref L), o, none, none] ∧ Ext l c H H' ∧ H L = none ∧ H' L = some (.lst (xs.map V.str)) ∧ TSL (.sg "(" :: .word cn :: body) xs ∧ (∀ n, (∀ k ∈ ts, k.ht ≤ n) → FlL (Fl sig n) ((ts.take i).map Tm.rm) body) ∧ xs.length + i ≤ 2 + 4 * ((ts.take i).map Tm.size).sum ∧ ∀ w, Tk.name w ∈ body → w ∈ ms) ?_ (fun i σ H' _ h => ?_) ?_ ?_⟩
    · exact ⟨L, [], ["(", cn], none, rfl, y1, x1.free P0 hL, upd_same, .cons (ts_sign (s := 40) (by decide) (by decide +kernel)) (.cons (ts_word hm.1) .nil), fun n _ => rfl, by show 2 + 0 ≤ _; omega, fun w h => absurd h List.not_mem_nil⟩
    · obtain ⟨_, _, _, _, _, x2, _⟩ := h
      exact x2.seqT P0 hb
    · rintro i z σ H3 H3 hi ⟨L2, body, xs, o, rfl, x3, hL0, hL3, tsl, fl, ln, nm⟩ ⟨rfl, gz⟩
      have hys3 : DtAll K H3 ys (ts.map Tm.d) := DtAll.mono (fun _ _ z => x3.seqT P0 z) _ _ hys
      obtain ⟨d, gd, dz⟩ := DtAll.getX hys3 gz
      rw [List.getElem?_map] at gd
      cases e0 : ts[i]? with
      | none => rw [e0] at gd; cases gd
      | some k =>
      rw [e0] at gd
      cases gd
      have hk : k ∈ (Tm.node cn ts).kids := List.mem_of_getElem? e0
      have hkh := Tm.ht_kid hk
      have hks := kid_size hk
      have et : ts.take (i + 1) = ts.take i ++ [k] := by rw [List.take_add_one, e0]; rfl
      have sumt : ((ts.take (i + 1)).map Tm.size).sum = ((ts.take i).map Tm.size).sum + k.size := by rw [et, List.map_append, List.sum_append, List.map_singleton, List.sum_singleton]
      have sle : ((ts.take (i + 1)).map Tm.size).sum ≤ (ts.map Tm.size).sum := take_sum Tm.size ts (i + 1)
      refine ⟨_, rfl, _, rfl, _, rfl, l, c, z, k, sig, ms, sh, rfl, x3.pool, dz, tok.kid hk, sok, by omega, by omega, fun H4 L4 ks4 xs4 x4 hL4 hx4 ts4 fl4 ln4 nm4 => ?_⟩
      have nL2 := (P0.ne hL0).1
      refine ⟨L2, L4, _, _, rfl, rfl, x4.keep _ _ nL2 hL3, hx4, small (by rw [List.length_map, List.length_map]; omega), fun p hp => ?_⟩
      have x34 := x3.trans x4
      refine ⟨p, body ++ ks4, xs ++ xs4, _, rfl, x34.new P0 hp, x34.free P0 hp, by rw [upd_same, List.map_append], tsl.app ts4, fun n hn => ?_, by rw [List.length_append, sumt]; omega, fun w hw => (List.mem_append.mp hw).elim (nm w) (nm4 w)⟩
      rw [et, List.map_append]
      exact fll_snoc (fl n hn) (fl4 n (hn k (List.mem_of_getElem? e0)))
    · rintro σ H3 ⟨L2, body, xs, o, rfl, x3, hL0, hL3, tsl, fl, ln, nm⟩
      rw [ly, List.take_length] at ln
      have nL2 := (P0.ne hL0).1
      refine ⟨_, rfl, small (by show 1 ≤ _; decide), fun pc hpc => ?_⟩
      refine ⟨L2, pc, _, _, rfl, rfl, (same_new hpc) _ _ hL3, upd_same, small (by rw [List.length_map]; show xs.length + 1 ≤ _; omega), fun p hp => ?_⟩
      have x4 := x3.new (o := .lst [.str ")"]) P0 hpc
      refine q _ p (Tk.sg "(" :: Tk.word cn :: (body ++ [Tk.sg ")"])) (xs ++ [(")" : Str)]) (x4.new P0 hp) (x4.free P0 hp) (by rw [upd_same, List.map_append]; rfl) (tsl.app (.cons (ts_sign (s := 41) (x := ")") (by decide) (by decide +kernel)) .nil)) (fl_node hlk fun n hn => ?_) ?_ fun w hw => ?_
      · have := fl n hn
        rw [ly, List.take_length] at this
        exact this
      · rw [List.length_append, hse]; show xs.length + 1 + 1 ≤ _; omega
      · rcases List.mem_cons.mp hw with e | hw
        · cases e
        rcases List.mem_cons.mp hw with e | hw
        · cases e
        rcases List.mem_append.mp hw with e | hw
        · exact nm w e
        · cases List.mem_singleton.mp hw
  | map es =>
    unfold Tm.d at hv
    obtain ⟨a, x, y, rfl, hs, h1, h2⟩ := Dt.t2 hv
    obtain rfl := h1.s
    obtain ⟨b, ys, rfl, hb, hys⟩ := Dt.tn h2
    rw [Tm.es_map] at hys
    have ly : ys.length = es.length := by rw [hys.lenD, List.length_map]
    have hm : es.length ≤ 8 ∧ (∀ e ∈ es, e.1 ∈ ms ∧ Wd e.1) ∧ (es.map Prod.fst).Nodup ∧ PyProof.Rows.sortedS (es.map Prod.fst) = true := tok.at_
    have hse : (Tm.map es).size = 1 + (es.map fun e => e.2.size).sum := by
      rw [Tm.size_eq]
      show 1 + ((es.map Prod.snd).map Tm.size).sum = _
      rw [List.map_map]; rfl
    refine vTx rfl hs (atI_nat (j := 0) rfl) ⟨_, rfl, rfl, _, rfl, sF (by decide +kernel) ⟨_, rfl, rfl, _, rfl, sF (by decide +kernel) ⟨_, rfl, rfl, _, rfl, sF (by decide +kernel) ⟨_, rfl, rfl, _, rfl, sF (by decide +kernel) ⟨_, rfl, rfl, _, rfl, sF (by decide +kernel) ?_⟩⟩⟩⟩⟩
    refine ⟨Nat.zero_le _, fun E hE => ?_⟩
    have y1 := (Ext.refl P0).new (o := .lst []) P0 hE
    have nE := (P0.ne hE).1
    have hs1 := Same.seqT (same_new (o := .lst []) hE) hs
    have hb1 := Same.seqT (same_new (o := .lst []) hE) hb
    refine vTx rfl hs1 (atI_nat (j := 1) rfl) ⟨b, rfl, ⟨_, hb1⟩, for_it (walk_tup (K := K) (xs := ys)) (fun i σ H' => ∃ (vs : List V) (es' : List (Str × Tm)) (o : Option V), σ = [some (.ref l), some (.ref a), some (.str "map"), none, none, some (.ref E), o] ∧ Ext l c H H' ∧ H' E = some (.lst vs) ∧ DtAll K H' vs (es'.map Tm.ent) ∧ es'.Perm (es.take i)) ?_ (fun i σ H' _ h => ?_) ?_ ?_⟩
    · exact ⟨[], [], none, rfl, y1, upd_same, .nil, .nil⟩
    · obtain ⟨_, _, _, _, x2, _⟩ := h
      exact x2.seqT P0 hb
    · rintro i z σ H3 H3 hi ⟨vs, es', o, rfl, x3, hE3, da3, pm⟩ ⟨rfl, gz⟩
      have hys3 : DtAll K H3 ys (es.map Tm.ent) := DtAll.mono (fun _ _ z => x3.seqT P0 z) _ _ hys
      obtain ⟨d, gd, dz⟩ := DtAll.getX hys3 gz
      rw [List.getElem?_map] at gd
      cases e0 : es[i]? with
      | none => rw [e0] at gd; cases gd
      | some en =>
      rw [e0] at gd
      cases gd
      have lv : vs.length = es'.length := by rw [da3.lenD, List.length_map]
      have le' : es'.length ≤ 8 := by rw [pm.length_eq, List.length_take]; omega
      refine ⟨_, rfl, .inl ⟨rfl, _, SqL.of hE3⟩, ?_⟩
      refine ⟨_, rfl, _, rfl, E, _, rfl, .inl (SqL.of hE3), _, _, rfl, rfl, l, c, (vs.length : Nat) + 1, False, rfl, x3.pool, by omega, by omega, .inl (Nat.le_refl 2), fun j H4 j0 j1 x4 => ?_⟩
      have hE4 := x4.keep _ _ nE hE3
      have x34 := x3.trans x4
      have da4 : DtAll K H4 vs (es'.map Tm.ent) := DtAll.mono (fun _ _ z => x4.seqT x3.pool z) _ _ da3
      have dz4 : Dt K H4 z (Tm.ent en) := Dt.mono (fun _ _ z => x4.seqT x3.pool z) _ _ dz
      refine ⟨_, rfl, E, vs, j, z, rfl, rfl, hE4, smallL (by omega), j0, by omega, ?_⟩
      refine ⟨_, es'.take j.toNat ++ [en] ++ es'.drop j.toNat, _, rfl, x34.upd P0 hE, upd_same, ?_, ?_⟩
      · rw [List.map_append, List.map_append, List.map_take, List.map_drop]
        exact (((DtAll.takeD j.toNat da4).append (.cons dz4 .nil)).append (DtAll.dropD j.toNat da4)).upd hE4
      · rw [List.take_add_one, e0]
        refine List.Perm.trans ?_ (pm.append_right [en])
        rw [List.append_assoc]
        refine (List.perm_append_comm_assoc ..).trans ?_
        rw [List.take_append_drop]
        exact (List.perm_append_comm (l₁ := [en]) (l₂ := es'))
    rintro σ H2 ⟨vs, es', o, rfl, x2, hE2, da2, pm⟩
    rw [ly, List.take_length] at pm
    have P2 := x2.pool
    have le' : es'.length = es.length := pm.length_eq
    have lv : vs.length = es'.length := by rw [da2.lenD, List.length_map]
    have spm : (es'.map fun e => e.2.size).sum = (es.map fun e => e.2.size).sum := (pm.map fun e => e.2.size).sum_nat
    refine ⟨small (by show 1 ≤ _; decide), fun L hL => ?_⟩
    have y2 := (Ext.refl P2).new (o := .lst [.str "{"]) P2 hL
    have hE2' := (same_new (o := .lst [.str "{"]) hL) _ _ hE2
    refine ⟨_, rfl, E, rfl, ⟨_, SqL.of hE2'⟩, for_it (walk_list (K := K) (xs := vs)) (fun i σ H' => ∃ (L : Addr) (body : List Tk) (xs : List Str) (o : Option V), σ = [some (.ref l), some (.ref a), some (.str "map"), some (.ref L), none, some (.ref E), o] ∧ Ext l c H2 H' ∧ H2 L = none ∧ H' L = some (.lst (xs.map V.str)) ∧ TSL (.sg "{" :: body) xs ∧ (∀ n, (∀ e ∈ es', e.2.ht ≤ n) → FlE (Fl sig n) ((es'.take i).map fun e => (e.1, e.2.rm)) body) ∧ xs.length ≤ 1 + 4 * ((es'.take i).map fun e => e.2.size).sum ∧ ∀ w, Tk.name w ∈ body → w ∈ ms) ?_ (fun i σ H' _ h => ?_) ?_ ?_⟩
    · exact ⟨L, [], ["{"], o, rfl, y2, hL, upd_same, .cons (ts_sign (s := 123) (by decide) (by decide +kernel)) .nil, fun n _ => rfl, by show 1 ≤ _; omega, fun w h => absurd h List.not_mem_nil⟩
    · obtain ⟨_, _, _, _, _, x3, _⟩ := h
      exact SqL.of (x3.keep _ _ nE hE2)
    · rintro i z σ H3 H3 hi ⟨L2, body, xs, o, rfl, x3, hL0, hL3, tsl, fl, ln, nm⟩ ⟨rfl, gz⟩
      have da3 : DtAll K H3 vs (es'.map Tm.ent) := DtAll.mono (fun _ _ z => x3.seqT P2 z) _ _ da2
      obtain ⟨d, gd, dz⟩ := DtAll.getX da3 gz
      rw [List.getElem?_map] at gd
      cases e0 : es'[i]? with
      | none => rw [e0] at gd; cases gd
      | some en =>
      rw [e0] at gd
      cases gd
      have hen : en ∈ es' := List.mem_of_getElem? e0
      have hen2 : en ∈ es := pm.mem_iff.mp hen
      have hk : en.2 ∈ (Tm.map es).kids := List.mem_map.mpr ⟨en, hen2, rfl⟩
      have hkh := Tm.ht_kid hk
      have hks := kid_size hk
      obtain ⟨hw1, hw2⟩ := hm.2.1 en hen2
      have hi12 := hw2.hi
      obtain ⟨e1, x1, y1', rfl, hse1, k1, k2⟩ := Dt.t2 dz
      obtain rfl := k1.s
      have et : es'.take (i + 1) = es'.take i ++ [en] := by rw [List.take_add_one, e0]; rfl
      have sumt : ((es'.take (i + 1)).map fun e => e.2.size).sum = ((es'.take i).map fun e => e.2.size).sum + en.2.size := by rw [et, List.map_append, List.sum_append, List.map_singleton, List.sum_singleton]
      have sle := take_sum (fun e : Str × Tm => e.2.size) es' (i + 1)
      refine ⟨_, rfl, ?_⟩
      refine vTx rfl hse1 (atI_nat (j := 0) rfl) ⟨_, _, rfl, rfl, small (by show 1 + en.1.length ≤ _; omega), small (by show 1 ≤ _; decide), fun pa hpa => ?_⟩
      have nL2 := (P2.ne hL0).1
      refine ⟨L2, pa, _, _, rfl, rfl, (same_new hpa) _ _ hL3, upd_same, small (by rw [List.length_map]; show xs.length + 1 ≤ _; omega), fun pb hpb => ?_⟩
      have s4 : Same H3 (upd (upd H3 pa (.lst [.str ("'" ++ en.1)])) pb (.lst (xs.map V.str ++ [.str ("'" ++ en.1)]))) := (same_new hpa).trans (same_new hpb)
      have x4 : Ext l c H2 (upd (upd H3 pa (.lst [.str ("'" ++ en.1)])) pb (.lst (xs.map V.str ++ [.str ("'" ++ en.1)]))) := (x3.new P2 hpa).new P2 hpb
      refine ⟨_, rfl, vTx rfl (Same.seqT s4 hse1) (atI_nat (j := 1) rfl) ?_⟩
      refine ⟨l, c, y1', en.2, sig, ms, sh, rfl, x4.pool, k2.same s4, tok.kid hk, sok, by omega, by omega, fun H5 L5 ks5 xs5 x5 hL5 hx5 ts5 fl5 ln5 nm5 => ?_⟩
      have hpb5 := x5.keep _ _ (x3.new (o := .lst [.str ("'" ++ en.1)]) P2 hpa |>.pool.ne hpb).1 (upd_same (H := upd H3 pa (.lst [.str ("'" ++ en.1)])) (a := pb) (o := .lst (xs.map V.str ++ [.str ("'" ++ en.1)])))
      refine ⟨pb, L5, _, _, rfl, rfl, hpb5, hx5, small (by rw [List.length_append, List.length_map, List.length_map]; show xs.length + 1 + _ ≤ _; omega), fun p hp => ?_⟩
      have x45 := x4.trans x5
      refine ⟨p, body ++ .name en.1 :: ks5, xs ++ ("'" ++ en.1) :: xs5, _, rfl, x45.new P2 hp, x45.free P2 hp, by rw [upd_same, List.map_append, List.map_cons, List.append_assoc]; rfl, tsl.app (.cons (ts_name hw2) ts5), fun n hn => ?_, by rw [List.length_append, List.length_cons, sumt]; omega, fun w hw => ?_⟩
      · rw [et, List.map_append]
        exact fle_snoc (fl n hn) (fl5 n (hn en hen))
      · rcases List.mem_append.mp hw with h | h
        · exact nm w h
        rcases List.mem_cons.mp h with h | h
        · cases h; exact hw1
        · exact nm5 w h
    · rintro σ H3 ⟨L2, body, xs, o, rfl, x3, hL0, hL3, tsl, fl, ln, nm⟩
      rw [lv, List.take_length, spm] at ln
      have nL2 := (P2.ne hL0).1
      refine ⟨_, rfl, small (by show 1 ≤ _; decide), fun pc hpc => ?_⟩
      refine ⟨L2, pc, _, _, rfl, rfl, (same_new hpc) _ _ hL3, upd_same, small (by rw [List.length_map]; show xs.length + 1 ≤ _; omega), fun p hp => ?_⟩
      have x4 := (x2.trans x3).new (o := .lst [.str "}"]) P0 hpc
      refine q _ p (Tk.sg "{" :: (body ++ [Tk.sg "}"])) (xs ++ [("}" : Str)]) (x4.new P0 hp) (x4.free P0 hp) (by rw [upd_same, List.map_append]; rfl) (tsl.app (.cons (ts_sign (s := 125) (x := "}") (by decide) (by decide +kernel)) .nil)) (fl_map hm.2.2.1 hm.2.2.2 pm fun n hn => ?_) ?_ fun w hw => ?_
      · have := fl n hn
        rw [lv, List.take_length] at this
        exact this
      · rw [List.length_append, hse]; show xs.length + 1 + 1 ≤ _; omega
      · rcases List.mem_cons.mp hw with e | hw
        · cases e
        rcases List.mem_append.mp hw with e | hw
        · exact nm w e
        · cases List.mem_singleton.mp hw
end
end PK
namespace PK
open PySem L2 _root_.TL
/-! where reading stops, by what is planted -/
/-- behind the tokens pre, the token j stops the reader, with the position of token at -/
def Stops (sig : List (Str × Nat)) (pre : List Tk) (j : Tk) (b : Bool) (at_ : Nat) : Prop :=
  ∀ l p, MG l = pre → ∃ q, mRun sig (.exp []) (l ++ [(j, p)]) = .error (b, q) ∧ ((l ++ [(j, p)])[at_]?).map (·.2) = some q
variable {sig : List (Str × Nat)}
theorem stop_last {l : List (Tk × Nat)} {pre : List Tk} {j : Tk} {p : Nat} (h : MG l = pre) : ((l ++ [(j, p)])[pre.length]?).map (·.2) = some p := by
  have : pre.length = l.length := by rw [← h]; exact List.length_map ..
  rw [this]
  simp
theorem stops_of {pre : List Tk} {j : Tk} (h : ∀ l p, MG l = pre → ∃ s, mRun sig (.exp []) l = .ok s ∧ mStep sig s (j, p) = .error (false, p)) : Stops sig pre j false pre.length := fun l p e => by
  obtain ⟨s, h1, h2⟩ := h l p e
  exact ⟨p, by rw [run_ok h1]; exact run_one_err h2, stop_last e⟩
/-- the tokens of a term -/
def RowOk (sig : List (Str × Nat)) (ks : List Tk) : Prop := ∃ n t, n ≤ 60 ∧ Fl sig n t ks
theorem RowOk.run {ks : List Tk} (h : RowOk sig ks) {l : List (Tk × Nat)} (e : MG l = ks) : mRun sig (.exp []) l = .ok (.ret []) := by
  obtain ⟨n, t, hn, hf⟩ := h
  exact run_fl n t ks l [] hf e (by simpa using hn)
def zip0 (c : List Tk) : List (Tk × Nat) := c.map fun t => (t, 0)
theorem zip0_map (c : List Tk) : MG (zip0 c) = c := by
  show (List.map _ (List.map _ c)) = c
  rw [List.map_map]; exact List.map_id c
theorem RowOk.cut {a c : List Tk} (h : RowOk sig (a ++ c)) {l : List (Tk × Nat)} (e : MG l = a) : ∃ s, mRun sig (.exp []) l = .ok s ∧ mRun sig s (zip0 c) = .ok (.ret []) := by
  have r := h.run (l := l ++ zip0 c) (by show List.map _ _ = _; rw [List.map_append, show List.map (fun x => x.1) l = a from e, show List.map (fun x => x.1) (zip0 c) = c from zip0_map c])
  rw [run_app] at r
  cases g : mRun sig (.exp []) l with
  | error x => rw [g] at r; cases r
  | ok s => rw [g] at r; exact ⟨s, rfl, r⟩
theorem stop_runs : ∀ l, mRun sig .stop l = .ok .stop
  | [] => rfl
  | _ :: r => stop_runs r
theorem ne_stop {s : MS} {l : List (Tk × Nat)} (h : mRun sig s l = .ok (.ret [])) : s ≠ .stop := fun e => by
  rw [e, stop_runs] at h; cases h
theorem step_of {s s' : MS} {t : Tk × Nat} {l : List (Tk × Nat)} (h : mRun sig s (t :: l) = .ok s') : ∃ s2, mStep sig s t = .ok s2 ∧ mRun sig s2 l = .ok s' := by
  rw [mRun_cons] at h
  cases g : mStep sig s t with
  | error e => rw [g] at h; cases h
  | ok s2 => rw [g] at h; exact ⟨s2, rfl, h⟩
theorem mClose_no {s : Str} {k : List MF} {t : Tk} {p : Nat} (h : t.kind ≠ s) : mClose s k (t, p) = .error (false, p) := if_neg h
theorem mExp_no {k : List MF} {t : Tk} {p : Nat} (h : t = .bad ∨ t = .fin ∨ t = .sg ")" ∨ t = .sg "}") : mExp sig k (t, p) = .error (false, p) := by
  rcases h with rfl | rfl | rfl | rfl
  · rfl
  · rfl
  · unfold mExp; dsimp only; rw [if_neg (by decide +kernel), if_neg (by decide +kernel)]
  · unfold mExp; dsimp only; rw [if_neg (by decide +kernel), if_neg (by decide +kernel)]
theorem exp_no {k : List MF} {t : Tk} {p : Nat} (h : t = .bad ∨ t = .fin ∨ t = .sg ")" ∨ t = .sg "}") : mStep sig (.exp k) (t, p) = .error (false, p) := mExp_no h
theorem nodeS_no {n : Nat} {k : List MF} {t : Tk} {p : Nat} (h : t = .bad ∨ t = .fin ∨ t = .sg ")" ∨ t = .sg "}") : mStep sig (.ret (.node (n + 1) :: k)) (t, p) = .error (false, p) := mExp_no (k := .node n :: k) h
theorem node0_no {k : List MF} {t : Tk} {p : Nat} (h : t.kind ≠ ")") : mStep sig (.ret (.node 0 :: k)) (t, p) = .error (false, p) := mClose_no h
theorem ret0_no {t : Tk} {p : Nat} (h : t ≠ .fin) : mStep sig (.ret []) (t, p) = .error (false, p) := if_neg h
theorem map_no {seen : List Str} {k : List MF} {t : Tk} {p : Nat} (hn : ∀ w, t = .name w → w ∈ seen) (h : t.kind ≠ "}") : mStep sig (.ret (.map seen :: k)) (t, p) = .error (false, p) := (map_step hn).trans (mClose_no h)
theorem bad_no {s : MS} {p : Nat} (hs : s ≠ .stop) : mStep sig s (.bad, p) = .error (false, p) := by
  cases s with
  | stop => exact absurd rfl hs
  | exp k => exact exp_no (.inl rfl)
  | hd q k => rfl
  | ret k =>
    cases k with
    | nil => exact ret0_no (by intro z; cases z)
    | cons f k =>
      cases f with
      | node n =>
        cases n with
        | zero => exact node0_no (by decide +kernel)
        | succ n => exact nodeS_no (.inl rfl)
      | map seen => exact map_no (fun _ e => by cases e) (by decide +kernel)
theorem fin_no {s : MS} {p : Nat} (hs : s ≠ .stop) (h0 : s ≠ .ret []) : mStep sig s (.fin, p) = .error (false, p) := by
  cases s with
  | stop => exact absurd rfl hs
  | exp k => exact exp_no (.inr (.inl rfl))
  | hd q k => rfl
  | ret k =>
    cases k with
    | nil => exact absurd rfl h0
    | cons f k =>
      cases f with
      | node n =>
        cases n with
        | zero => exact node0_no (by decide +kernel)
        | succ n => exact nodeS_no (.inr (.inl rfl))
      | map seen => exact map_no (fun _ e => by cases e) (by decide +kernel)
theorem sg_kind (s : Str) : (Tk.sg s).kind = s := rfl
theorem exp_sg {k : List MF} {s : Str} {p : Nat} {s' : MS} (h : mExp sig k (.sg s, p) = .ok s') : (s = "(" ∧ s' = .hd p k) ∨ (s = "{" ∧ s' = .ret (.map [] :: k) ∧ k.length < 60) := by
  unfold mExp at h
  dsimp only at h
  by_cases c1 : s = "{"
  · rw [if_pos c1] at h
    by_cases d : 60 ≤ k.length
    · rw [if_pos d] at h; cases h
    · rw [if_neg d] at h
      cases h
      exact .inr ⟨c1, rfl, by omega⟩
  · rw [if_neg c1] at h
    by_cases c2 : s = "("
    · rw [if_pos c2] at h
      by_cases c3 : sig = []
      · rw [if_pos c3] at h; cases h
      · rw [if_neg c3] at h
        cases h
        exact .inl ⟨c2, rfl⟩
    · rw [if_neg c2] at h; cases h
theorem close_ok2 {s : Str} {k : List MF} {t : Tk} {p : Nat} {s' : MS} (h : mClose s k (t, p) = .ok s') : t.kind = s ∧ s' = .ret k := by
  unfold mClose at h
  dsimp only at h
  by_cases c : t.kind = s
  · rw [if_pos c] at h; cases h; exact ⟨c, rfl⟩
  · rw [if_neg c] at h; cases h
/-- what a sign that is taken leads to -/
theorem step_sg {s s' : MS} {x : Str} {p : Nat} (hs : s ≠ .stop) (h : mStep sig s (.sg x, p) = .ok s') :
    (x = "(" ∧ ∃ k, s' = .hd p k) ∨ (x = "{" ∧ ∃ k, s' = .ret (.map [] :: k)) ∨ (x = ")" ∧ ∃ k, s = .ret (.node 0 :: k)) ∨ x = "}" := by
  cases s with
  | stop => exact absurd rfl hs
  | exp k => rcases exp_sg h with ⟨a, b⟩ | ⟨a, b, _⟩
             · exact .inl ⟨a, _, b⟩
             · exact .inr (.inl ⟨a, _, b⟩)
  | hd q k => cases h
  | ret k =>
    cases k with
    | nil =>
      have : mStep sig (.ret []) (.sg x, p) = .error (false, p) := ret0_no (by intro z; cases z)
      rw [this] at h; cases h
    | cons f k =>
      cases f with
      | node n =>
        cases n with
        | zero =>
          have := close_ok2 h
          exact .inr (.inr (.inl ⟨this.1, k, rfl⟩))
        | succ n => rcases exp_sg (sig := sig) (k := .node n :: k) h with ⟨a, b⟩ | ⟨a, b, _⟩
                    · exact .inl ⟨a, _, b⟩
                    · exact .inr (.inl ⟨a, _, b⟩)
      | map seen =>
        have := close_ok2 (s := "}") (k := k) (t := .sg x) (p := p) h
        exact .inr (.inr (.inr this.1))
/-! the plantings -/
theorem st_after {ks : List Tk} (h : RowOk sig ks) {j : Tk} (hj : j ≠ .fin) : Stops sig ks j false ks.length := stops_of fun l p e => ⟨_, h.run e, ret0_no hj⟩
theorem st_bad {a c : List Tk} (h : RowOk sig (a ++ c)) : Stops sig a .bad false a.length := stops_of fun l p e => by
  obtain ⟨s, h1, h2⟩ := h.cut e
  exact ⟨s, h1, bad_no (ne_stop h2)⟩
theorem st_fin {a c : List Tk} {b : Tk} (h : RowOk sig (a ++ b :: c)) : Stops sig a .fin false a.length := stops_of fun l p e => by
  obtain ⟨s, h1, h2⟩ := h.cut e
  refine ⟨s, h1, fin_no (ne_stop h2) fun z => ?_⟩
  subst z
  obtain ⟨s2, h3, h4⟩ := step_of (t := (b, 0)) (l := zip0 c) h2
  have h3 : (if b = .fin then (.ok .stop : Except PErr MS) else .error (false, 0)) = .ok s2 := h3
  by_cases hb : b = .fin
  · rw [if_pos hb] at h3
    cases h3
    exact ne_stop h4 rfl
  · rw [if_neg hb] at h3; cases h3
theorem st_fin0 : Stops sig [] .fin false 0 := stops_of fun l p e => by
  obtain rfl := List.map_eq_nil_iff.mp e
  exact ⟨_, rfl, exp_no (.inr (.inl rfl))⟩
theorem row_open {a c : List Tk} {x : Str} (h : RowOk sig (a ++ .sg x :: c)) {l : List (Tk × Nat)} {p : Nat} (e : MG l = a) : ∃ s s', mRun sig (.exp []) l = .ok s ∧ s ≠ .stop ∧ mStep sig s (.sg x, p) = .ok s' := by
  have h' : RowOk sig ((a ++ [.sg x]) ++ c) := by rw [List.append_assoc]; exact h
  obtain ⟨s', h1, h2⟩ := h'.cut (l := l ++ [(.sg x, p)]) (by show List.map _ _ = _; rw [List.map_append, show List.map (fun x => x.1) l = a from e]; rfl)
  rw [run_app] at h1
  cases g : mRun sig (.exp []) l with
  | error z => rw [g] at h1; cases h1
  | ok s =>
    rw [g] at h1
    obtain ⟨s2, h3, h4⟩ := step_of h1
    cases h4
    refine ⟨s, s', rfl, fun z => ?_, h3⟩
    subst z
    cases h3
    exact ne_stop h2 rfl
theorem map_snoc2 {l : List (Tk × Nat)} {a : List Tk} {x : Tk} (h : MG l = a ++ [x]) : ∃ l' p, l = l' ++ [(x, p)] ∧ MG l' = a := by
  obtain ⟨u, v, rfl, h1, h2⟩ := split_map h
  obtain ⟨p, y, rfl, h3⟩ := cons_map h2
  obtain rfl := List.map_eq_nil_iff.mp h3
  exact ⟨u, p, rfl, h1⟩
theorem st_head {a c : List Tk} (h : RowOk sig (a ++ .sg "(" :: c)) {j : Tk} (hj : ∀ w, j = .word w → sig.lookup w = none) : Stops sig (a ++ [.sg "("]) j false (a ++ ([.sg "("] : List Tk)).length := stops_of fun l p e => by
  obtain ⟨l', q, rfl, e2⟩ := map_snoc2 e
  obtain ⟨s, s', h1, h2, h3⟩ := row_open h (p := q) e2
  rcases step_sg h2 h3 with ⟨_, k, rfl⟩ | ⟨z, _⟩ | ⟨z, _⟩ | z
  · refine ⟨_, by rw [run_ok h1]; exact run_one h3, ?_⟩
    cases j with
    | word w =>
      show mHd sig q k (.word w, p) = _
      unfold mHd
      dsimp only
      rw [hj w rfl]
    | _ => rfl
  · exact absurd z (by decide +kernel)
  · exact absurd z (by decide +kernel)
  · exact absurd z (by decide +kernel)
theorem st_close {a c : List Tk} (h : RowOk sig (a ++ .sg ")" :: c)) {j : Tk} (hj : j.kind ≠ ")") : Stops sig a j false a.length := stops_of fun l p e => by
  obtain ⟨s, s', h1, h2, h3⟩ := row_open h (p := 0) e
  rcases step_sg h2 h3 with ⟨z, _⟩ | ⟨z, _⟩ | ⟨_, k, rfl⟩ | z
  · exact absurd z (by decide +kernel)
  · exact absurd z (by decide +kernel)
  · exact ⟨_, h1, node0_no hj⟩
  · exact absurd z (by decide +kernel)
theorem map_open {a c : List Tk} (h : RowOk sig (a ++ .sg "{" :: c)) {l : List (Tk × Nat)} (e : MG l = a ++ [.sg "{"]) : ∃ k, mRun sig (.exp []) l = .ok (.ret (.map [] :: k)) := by
  obtain ⟨l', q, rfl, e2⟩ := map_snoc2 e
  obtain ⟨s, s', h1, h2, h3⟩ := row_open h (p := q) e2
  rcases step_sg h2 h3 with ⟨z, _⟩ | ⟨_, k, rfl⟩ | ⟨z, _⟩ | z
  · exact absurd z (by decide +kernel)
  · exact ⟨k, by rw [run_ok h1]; exact run_one h3⟩
  · exact absurd z (by decide +kernel)
  · exact absurd z (by decide +kernel)
theorem st_map {a c : List Tk} (h : RowOk sig (a ++ .sg "{" :: c)) {j : Tk} (hn : ∀ w, j ≠ .name w) (hj : j.kind ≠ "}") : Stops sig (a ++ [.sg "{"]) j false (a ++ ([.sg "{"] : List Tk)).length := stops_of fun l p e => by
  obtain ⟨k, h1⟩ := map_open h e
  exact ⟨_, h1, map_no (fun w e => absurd e (hn w)) hj⟩
theorem map_new {k : List MF} {w : Str} {p : Nat} : mStep sig (.ret (.map [] :: k)) (.name w, p) = .ok (.exp (.map ([] ++ [w]) :: k)) := by
  show (if w ∈ ([] : List Str) then mClose "}" k (.name w, p) else .ok (.exp (.map ([] ++ [w]) :: k))) = _
  exact if_neg List.not_mem_nil
theorem st_twice {a c : List Tk} (h : RowOk sig (a ++ .sg "{" :: c)) {w : Str} {n : Int} : Stops sig (a ++ [.sg "{", .name w, .int n]) (.name w) false (a ++ ([.sg "{", .name w, .int n] : List Tk)).length := stops_of fun l p e => by
  rw [show a ++ [Tk.sg "{", .name w, .int n] = (a ++ [.sg "{"]) ++ [.name w, .int n] by rw [List.append_assoc]; rfl] at e
  obtain ⟨x, y, rfl, e1, e2⟩ := split_map e
  obtain ⟨p1, y1, rfl, e3⟩ := cons_map e2
  obtain ⟨p2, y2, rfl, e4⟩ := cons_map e3
  obtain rfl := List.map_eq_nil_iff.mp e4
  obtain ⟨k, h1⟩ := map_open h e1
  refine ⟨.ret (.map ([] ++ [w]) :: k), by rw [run_ok h1, run_one (s' := .exp (.map ([] ++ [w]) :: k)) map_new]; rfl, map_no (fun v e => by cases e; simp) ?_⟩
  show ("name" : Str) ≠ "}"
  decide +kernel
theorem st_alone {a c : List Tk} (h : RowOk sig (a ++ .sg "{" :: c)) {w : Str} : Stops sig (a ++ [.sg "{", .name w]) (.sg "}") false (a ++ ([.sg "{", .name w] : List Tk)).length := stops_of fun l p e => by
  rw [show a ++ [Tk.sg "{", .name w] = (a ++ [.sg "{"]) ++ [.name w] by rw [List.append_assoc]; rfl] at e
  obtain ⟨x, y, rfl, e1, e2⟩ := split_map e
  obtain ⟨p1, y1, rfl, e3⟩ := cons_map e2
  obtain rfl := List.map_eq_nil_iff.mp e3
  obtain ⟨k, h1⟩ := map_open h e1
  exact ⟨.exp (.map ([] ++ [w]) :: k), by rw [run_ok h1, run_one (s' := .exp (.map ([] ++ [w]) :: k)) map_new]; rfl, exp_no (.inr (.inr (.inr rfl)))⟩
theorem st_word {w : Str} (h : sig.lookup w ≠ some 0) : Stops sig [] (.word w) false 0 := stops_of fun l p e => by
  obtain rfl := List.map_eq_nil_iff.mp e
  exact ⟨_, rfl, if_neg h⟩
theorem ones_run {k : List MF} : ∀ (m n : Nat) (l : List (Tk × Nat)), MG l = List.replicate m (.int 1) → mRun sig (.ret (.node (m + n) :: k)) l = .ok (.ret (.node n :: k))
  | 0, n, l, e => by
    obtain rfl := List.map_eq_nil_iff.mp e
    rw [Nat.zero_add]; rfl
  | m + 1, n, l, e => by
    obtain ⟨p, y, rfl, e2⟩ := cons_map e
    rw [run_one (s' := .ret (.node (m + n) :: k)) (by rw [show m + 1 + n = (m + n) + 1 by omega]; rfl)]
    exact ones_run m n y e2
theorem st_few {c : Str} {m n : Nat} (h : sig.lookup c = some m) (hn : n < m) : Stops sig (.sg "(" :: .word c :: List.replicate n (.int 1)) (.sg ")") false (2 + n) := by
  have e0 : (Tk.sg "(" :: Tk.word c :: List.replicate n (Tk.int 1)).length = 2 + n := by simp; omega
  rw [← e0]
  refine stops_of fun l p e => ?_
  obtain ⟨p1, y1, rfl, e1⟩ := cons_map e
  obtain ⟨p2, y2, rfl, e2⟩ := cons_map e1
  have s1 : mStep sig (.exp []) (.sg "(", p1) = .ok (.hd p1 []) := by
    show mExp sig [] (.sg "(", p1) = _
    unfold mExp
    dsimp only
    rw [if_neg (by decide +kernel), if_pos rfl, if_neg (fun z => by rw [z] at h; cases h)]
  have s2 : mStep sig (.hd p1 []) (.word c, p2) = .ok (.ret [.node (n + ((m - n - 1) + 1))]) := by
    show mHd sig p1 [] (.word c, p2) = _
    unfold mHd
    dsimp only
    rw [h]
    dsimp only
    rw [if_neg (by show ¬ 60 ≤ 0; decide), show n + ((m - n - 1) + 1) = m by omega]
  refine ⟨.ret [.node ((m - n - 1) + 1)], by rw [run_one s1, run_one s2]; exact ones_run n _ y2 e2, nodeS_no (.inr (.inr (.inl rfl)))⟩
/-! deep rows -/
/-- so many open signs, and what closes them -/
inductive Op (sig : List (Str × Nat)) : List Tk → List Tk → Nat → Prop
  | nil : Op sig [] [] 0
  | node {r b : List Tk} {n : Nat} {c : Str} : Op sig r b n → sig.lookup c = some 1 → Op sig (r ++ [.sg "(", .word c]) (.sg ")" :: b) (n + 1)
  | map {r b : List Tk} {n : Nat} (w : Str) : Op sig r b n → Op sig (r ++ [.sg "{", .name w]) (.sg "}" :: b) (n + 1)
theorem Op.len {r b : List Tk} {n : Nat} (h : Op sig r b n) : r.length = 2 * n ∧ b.length = n := by
  induction h with
  | nil => exact ⟨rfl, rfl⟩
  | node _ _ ih => simp; omega
  | map w _ ih => simp; omega
theorem Op.row {r b : List Tk} {n : Nat} (h : Op sig r b n) : ∀ (m : Nat) (t : Rm) (ts : List Tk), Fl sig m t ts → ∃ t', Fl sig (m + n) t' (r ++ ts ++ b) := by
  induction h with
  | nil => exact fun m t ts h => ⟨t, by rw [List.nil_append, List.append_nil]; exact h⟩
  | @node r b n c _ hc ih =>
    intro m t ts h
    obtain ⟨t', h'⟩ := ih (m + 1) (.node c [t]) (.sg "(" :: .word c :: (ts ++ [.sg ")"])) (.inr (.inl ⟨c, [t], ts, rfl, hc, ⟨ts, [], (List.append_nil _).symm, h, rfl⟩, rfl⟩))
    refine ⟨t', ?_⟩
    rw [show m + (n + 1) = m + 1 + n by omega]
    simpa using h'
  | @map r b n w _ ih =>
    intro m t ts h
    obtain ⟨t', h'⟩ := ih (m + 1) (.map (ents [(w, t)])) (.sg "{" :: (.name w :: ts ++ [.sg "}"])) (.inr (.inr ⟨[(w, t)], .name w :: ts, rfl, by simp, ⟨ts, [], by rw [List.append_nil], h, rfl⟩, rfl⟩))
    refine ⟨t', ?_⟩
    rw [show m + (n + 1) = m + 1 + n by omega]
    simpa using h'
theorem Op.good {r b : List Tk} {n : Nat} (h : Op sig r b n) (hn : n ≤ 60) : RowOk sig (r ++ .int 5 :: b) := by
  obtain ⟨t, ht⟩ := h.row 0 (.int 5) [.int 5] (show Leaf sig (.int 5) [.int 5] from rfl)
  refine ⟨0 + n, t, by omega, ?_⟩
  rw [show r ++ .int 5 :: b = r ++ [.int 5] ++ b by simp]
  exact ht
/-- the state behind open signs -/
theorem Op.run {r b : List Tk} {n : Nat} (h : Op sig r b n) (hn : n ≤ 60) : ∀ l, MG l = r → ∃ s k, mRun sig (.exp []) l = .ok s ∧ (∀ t, mStep sig s t = mExp sig k t) ∧ k.length = n ∧ (n = 0 ∨ ∃ f k', k = f :: k' ∧ (f = .node 0 ∨ ∃ w, f = .map [w])) := by
  induction h with
  | nil =>
    intro l e
    obtain rfl := List.map_eq_nil_iff.mp e
    exact ⟨_, [], rfl, fun _ => rfl, rfl, .inl rfl⟩
  | @node r b n c hr hc ih =>
    intro l e
    obtain ⟨x, y, rfl, e1, e2⟩ := split_map e
    obtain ⟨p1, y1, rfl, e3⟩ := cons_map e2
    obtain ⟨p2, y2, rfl, e4⟩ := cons_map e3
    obtain rfl := List.map_eq_nil_iff.mp e4
    obtain ⟨s, k, h1, h2, h3, _⟩ := ih (by omega) x e1
    have s1 : mStep sig s (.sg "(", p1) = .ok (.hd p1 k) := by
      rw [h2]
      unfold mExp
      dsimp only
      rw [if_neg (by decide +kernel), if_pos rfl, if_neg (fun z => by rw [z] at hc; cases hc)]
    have s2 : mStep sig (.hd p1 k) (.word c, p2) = .ok (.ret (.node 1 :: k)) := by
      show mHd sig p1 k (.word c, p2) = _
      unfold mHd
      dsimp only
      rw [hc]
      dsimp only
      rw [if_neg (by omega)]
    exact ⟨.ret (.node 1 :: k), .node 0 :: k, by rw [run_ok h1, run_one s1, run_one s2]; rfl, fun _ => rfl, by rw [List.length_cons, h3], .inr ⟨_, _, rfl, .inl rfl⟩⟩
  | @map r b n w hr ih =>
    intro l e
    obtain ⟨x, y, rfl, e1, e2⟩ := split_map e
    obtain ⟨p1, y1, rfl, e3⟩ := cons_map e2
    obtain ⟨p2, y2, rfl, e4⟩ := cons_map e3
    obtain rfl := List.map_eq_nil_iff.mp e4
    obtain ⟨s, k, h1, h2, h3, _⟩ := ih (by omega) x e1
    have s1 : mStep sig s (.sg "{", p1) = .ok (.ret (.map [] :: k)) := by
      rw [h2]
      unfold mExp
      dsimp only
      rw [if_pos rfl, if_neg (by omega)]
    refine ⟨.exp (.map ([] ++ [w]) :: k), .map ([] ++ [w]) :: k, by rw [run_ok h1, run_one s1, run_one (s' := .exp (.map ([] ++ [w]) :: k)) map_new]; rfl, fun _ => rfl, by rw [List.length_cons, h3], .inr ⟨_, _, rfl, .inr ⟨w, rfl⟩⟩⟩
/-- the 61st open sign -/
theorem st_deep {r b : List Tk} (h : Op sig r b 61) : ∃ pre j rest, r ++ .int 5 :: b = pre ++ j :: rest ∧ 120 ≤ pre.length ∧ Stops sig pre j true 120 := by
  cases h with
  | @node r b _ c hr hc =>
    refine ⟨r ++ [.sg "("], .word c, .int 5 :: .sg ")" :: b, by simp, by rw [List.length_append, hr.len.1]; decide, fun l p e => ?_⟩
    obtain ⟨x, q, rfl, e1⟩ := map_snoc2 e
    obtain ⟨s, k, h1, h2, h3, _⟩ := hr.run (Nat.le_refl _) x e1
    have s1 : mStep sig s (.sg "(", q) = .ok (.hd q k) := by
      rw [h2]
      unfold mExp
      dsimp only
      rw [if_neg (by decide +kernel), if_pos rfl, if_neg (fun z => by rw [z] at hc; cases hc)]
    have s2 : mStep sig (.hd q k) (.word c, p) = .error (true, q) := by
      show mHd sig q k (.word c, p) = _
      unfold mHd
      dsimp only
      rw [hc]
      dsimp only
      rw [if_pos (by omega)]
    refine ⟨q, by rw [List.append_assoc, run_ok h1]; exact (run_one s1).trans (run_one_err s2), ?_⟩
    have hl : x.length = 120 := by rw [← List.length_map (f := Prod.fst), show x.map Prod.fst = r from e1, hr.len.1]
    rw [List.append_assoc, ← hl]
    simp
  | @map r b _ w hr =>
    refine ⟨r, .sg "{", .name w :: .int 5 :: .sg "}" :: b, by simp, by rw [hr.len.1]; decide, fun l p e => ?_⟩
    obtain ⟨s, k, h1, h2, h3, _⟩ := hr.run (Nat.le_refl _) l e
    refine ⟨p, by rw [run_ok h1]; exact run_one_err (by rw [h2]; unfold mExp; dsimp only; rw [if_pos rfl, if_pos (by omega)]), ?_⟩
    have := stop_last (j := .sg "{") (p := p) e
    rw [hr.len.1] at this
    exact this
theorem st_head60 {r b : List Tk} (h : Op sig r b 60) (hs : sig ≠ []) : Stops sig (r ++ [.sg "("]) (.int 5) false 121 := by
  have e0 : (r ++ [Tk.sg "("]).length = 121 := by rw [List.length_append, h.len.1]; rfl
  rw [← e0]
  refine stops_of fun l p e => ?_
  obtain ⟨x, q, rfl, e1⟩ := map_snoc2 e
  obtain ⟨s, k, h1, h2, h3, _⟩ := h.run (Nat.le_refl _) x e1
  refine ⟨.hd q k, by rw [run_ok h1, run_one (s' := .hd q k) (by rw [h2]; unfold mExp; dsimp only; rw [if_neg (by decide +kernel), if_pos rfl, if_neg hs])]; rfl, rfl⟩
theorem st_more60 {r b : List Tk} (h : Op sig r b 60) {x : Str} (hx : x ∈ (["(", "{"] : List Str)) : Stops sig (r ++ [.int 5]) (.sg x) false 121 := by
  have e0 : (r ++ [Tk.int 5]).length = 121 := by rw [List.length_append, h.len.1]; rfl
  rw [← e0]
  refine stops_of fun l p e => ?_
  obtain ⟨y, q, rfl, e1⟩ := map_snoc2 e
  obtain ⟨s, k, h1, h2, h3, h4⟩ := h.run (Nat.le_refl _) y e1
  have hx2 : x ≠ ")" ∧ x ≠ "}" := by
    have key : ∀ x ∈ (["(", "{"] : List Str), x ≠ ")" ∧ x ≠ "}" := by decide +kernel
    exact key x hx
  refine ⟨.ret k, by rw [run_ok h1, run_one (s' := .ret k) (by rw [h2]; rfl)]; rfl, ?_⟩
  rcases h4 with h4 | ⟨f, k', rfl, rfl | ⟨w, rfl⟩⟩
  · cases h4
  · exact node0_no hx2.1
  · exact map_no (fun _ e => by cases e) hx2.2
end PK
namespace PK
open PySem L2 _root_.TL
/-! texts piece by piece: where tokens stand -/
/-- what may stand behind a piece that begins with b -/
def OKN (b : Nat) (u : List Nat) : Prop := ∀ c ∈ u.head?, c ∈ SEP.cps.toList ∨ meetB b c = false
theorem okn_nil (b : Nat) : OKN b [] := fun c h => by cases h
theorem okn_blk {b : Nat} {g u : List Nat} (hg : ∀ c ∈ g, c ∈ SEP.cps.toList) (hn : g = [] → OKN b u) : OKN b (g ++ u) := by
  cases g with
  | nil => exact hn rfl
  | cons a r =>
    intro c hc
    have : a = c := by simpa using hc
    exact .inl (hg c (by rw [← this]; exact .head _))
theorem okn_hd {b : Nat} {z u : List Nat} (hz : z ≠ []) (h : meetB b (z.headD 0) = false) : OKN b (z ++ u) := by
  cases z with
  | nil => exact absurd rfl hz
  | cons a r =>
    intro c hc
    have : a = c := by simpa using hc
    rw [← this]; exact .inr h
/-- the first token that comes of z, whatever follows that may stand there -/
structure Fst (j : Tk) (z : List Nat) : Prop where
  ne : z ≠ []
  hd : z.headD 0 ∉ SEP.cps.toList
  tk : ∀ u, OKN (z.headD 0) u → tokOf ((z ++ u).take (tokLen (z ++ u))) = j
theorem TS.okn {k : Tk} {x : Str} (h : TS k x) {u : List Nat} (hu : OKN (x.cps.toList.headD 0) u) : ∀ c ∈ u.head?, nxtS k c := fun c hc => (hu c hc).elim sep_nxt (h.mt c)
theorem TS.fst {k : Tk} {x : Str} (h : TS k x) : Fst k x.cps.toList := ⟨h.pc.1, h.pc.2.1, fun u hu => by rw [h.pc.2.2 u (h.okn hu), List.take_left, h.tk]⟩
theorem scan_seps : ∀ (g r : List Nat) (p : Nat), (∀ c ∈ g, c ∈ SEP.cps.toList) → scan (g ++ r).length p (g ++ r) = scan r.length (p + g.length) r
  | [], r, p, _ => rfl
  | c :: g, r, p, h => by
    show scan ((g ++ r).length + 1) p (c :: (g ++ r)) = _
    rw [scan_sep (h c (.head _)), scan_seps g r (p + 1) fun x hx => h x (.tail _ hx), List.length_cons, Nat.add_assoc, Nat.add_comm 1]
theorem scan_fst {j : Tk} {z u : List Nat} {p : Nat} (h : Fst j z) (hu : OKN (z.headD 0) u) : ∃ rest, scan (z ++ u).length p (z ++ u) = (j, p) :: rest := by
  obtain ⟨hn, hs, ht⟩ := h
  cases z with
  | nil => exact absurd rfl hn
  | cons c r =>
    show ∃ rest, scan ((r ++ u).length + 1) p (c :: (r ++ u)) = _
    rw [scan_tok (show c ∉ SEP.cps.toList from hs)]
    have := ht u hu
    rw [show (c :: r) ++ u = c :: (r ++ u) from rfl] at this
    rw [this]
    exact ⟨_, rfl⟩
theorem scan_ts {k : Tk} {x : Str} {u : List Nat} {p : Nat} (h : TS k x) (hu : OKN (x.cps.toList.headD 0) u) : scan (x.cps.toList ++ u).length p (x.cps.toList ++ u) = (k, p) :: scan u.length (p + x.cps.toList.length) u := by
  obtain ⟨hn, hs, ht⟩ := h.pc
  have htk := h.tk
  have e := ht u (h.okn hu)
  generalize x.cps.toList = z at *
  cases z with
  | nil => exact absurd rfl hn
  | cons c r =>
    show scan ((r ++ u).length + 1) p (c :: (r ++ u)) = _
    rw [scan_tok (show c ∉ SEP.cps.toList from hs)]
    rw [show c :: (r ++ u) = (c :: r) ++ u from rfl, e, List.take_left, List.drop_left, htk]
    rw [scan_fuel u.length _ u.length _ u (Nat.le_refl _) (by rw [List.length_append]; omega) (Nat.le_refl _)]
/-- what is laid so far: the tokens d, all of them known; the last piece begins with b -/
def PreP (x : List Nat) (b : Nat) (d : List (Tk × Nat)) : Prop := ∀ u, OKN b u → scan (x ++ u).length 0 (x ++ u) = d ++ scan u.length x.length u
/-- .. the tokens d and others behind them -/
def AftP (x : List Nat) (b : Nat) (d : List (Tk × Nat)) : Prop := ∀ u, OKN b u → ∃ rest, scan (x ++ u).length 0 (x ++ u) = d ++ rest
theorem preP_nil (b : Nat) : PreP [] b [] := fun u _ => rfl
theorem PreP.ts {x g : List Nat} {b : Nat} {d : List (Tk × Nat)} {z : Str} {k : Tk} (h : PreP x b d) (hg : ∀ c ∈ g, c ∈ SEP.cps.toList) (hz : TS k z) (hn : g = [] → meetB b (z.cps.toList.headD 0) = false) : PreP (x ++ g ++ z.cps.toList) (z.cps.toList.headD 0) (d ++ [(k, x.length + g.length)]) := fun u hu => by
  have e : x ++ g ++ z.cps.toList ++ u = x ++ (g ++ (z.cps.toList ++ u)) := by simp
  rw [e, h _ (okn_blk hg fun e => okn_hd hz.ne (hn e)), scan_seps g _ _ hg, scan_ts hz hu, List.append_assoc]
  congr 3
  simp [Nat.add_assoc]
theorem PreP.fst {x g z : List Nat} {b : Nat} {d : List (Tk × Nat)} {j : Tk} (h : PreP x b d) (hg : ∀ c ∈ g, c ∈ SEP.cps.toList) (hz : Fst j z) (hn : g = [] → meetB b (z.headD 0) = false) : AftP (x ++ g ++ z) (z.headD 0) (d ++ [(j, x.length + g.length)]) := fun u hu => by
  have e : x ++ g ++ z ++ u = x ++ (g ++ (z ++ u)) := by simp
  obtain ⟨rest, hr⟩ := scan_fst (p := x.length + g.length) hz hu
  refine ⟨rest, ?_⟩
  rw [e, h _ (okn_blk hg fun e => okn_hd hz.ne (hn e)), scan_seps g _ _ hg, hr]
  simp
theorem AftP.more {x g z : List Nat} {b : Nat} {d : List (Tk × Nat)} (h : AftP x b d) (hg : ∀ c ∈ g, c ∈ SEP.cps.toList) (hz : z ≠ []) (hn : g = [] → meetB b (z.headD 0) = false) : AftP (x ++ g ++ z) (z.headD 0) d := fun u _ => by
  have e : x ++ g ++ z ++ u = x ++ (g ++ (z ++ u)) := by simp
  rw [e]
  exact h _ (okn_blk hg fun e => okn_hd hz (hn e))
/-- the tokens of a text: those before, the one that counts, and where the one at stands -/
def Laid (cs : List Nat) (ks : List Tk) (j : Tk) (at_ due : Nat) : Prop := ∃ d rest, toks cs = d ++ rest ∧ MG d = ks ++ [j] ∧ (d[at_]?).map (·.2) = some due
theorem PreP.fin {x g : List Nat} {b : Nat} {d : List (Tk × Nat)} (h : PreP x b d) (hg : ∀ c ∈ g, c ∈ SEP.cps.toList) : toks (x ++ g) = d ++ [(.fin, (x ++ g).length)] := by
  unfold toks
  have e : okn_blk (b := b) (u := []) hg (fun _ => okn_nil b) = okn_blk (b := b) (u := []) hg (fun _ => okn_nil b) := rfl
  have h1 := h g (by have := okn_blk (b := b) (u := []) hg (fun _ => okn_nil b); rwa [List.append_nil] at this)
  have h2 := scan_seps g [] x.length hg
  rw [List.append_nil] at h2
  rw [h1, h2, scan_nil, List.append_nil]
theorem AftP.fin {x g : List Nat} {b : Nat} {d : List (Tk × Nat)} (h : AftP x b d) (hg : ∀ c ∈ g, c ∈ SEP.cps.toList) : ∃ rest, toks (x ++ g) = d ++ rest := by
  unfold toks
  obtain ⟨rest, h1⟩ := h g (by have := okn_blk (b := b) (u := []) hg (fun _ => okn_nil b); rwa [List.append_nil] at this)
  rw [h1]
  exact ⟨rest ++ [(.fin, (x ++ g).length)], by rw [List.append_assoc]⟩
/-! which names a text can have -/
def QN (N : List Str) (cs : List Nat) : Prop := ∀ pre suf, cs = pre ++ 39 :: suf → isWd (mkS (suf.take (runN OTH.cps.toList suf))) = true → mkS (suf.take (runN OTH.cps.toList suf)) ∈ N
theorem qn_nil (N : List Str) : QN N [] := fun pre suf e => by
  have := congrArg List.length e
  simp at this
theorem qn_cons {N : List Str} {c : Nat} {cs : List Nat} (hc : c ≠ 39) (h : QN N cs) : QN N (c :: cs) := fun pre suf e => by
  cases pre with
  | nil => exact absurd (List.cons.inj e).1 hc
  | cons a r => exact h r suf (List.cons.inj e).2
theorem qn_quote {N : List Str} {cs : List Nat} (hq : isWd (mkS (cs.take (runN OTH.cps.toList cs))) = true → mkS (cs.take (runN OTH.cps.toList cs)) ∈ N) (h : QN N cs) : QN N (39 :: cs) := fun pre suf e => by
  cases pre with
  | nil =>
    obtain ⟨_, e2⟩ := List.cons.inj e
    subst e2
    exact hq
  | cons a r => exact h r suf (List.cons.inj e).2
theorem qn_noq {N : List Str} : ∀ {z u : List Nat}, 39 ∉ z → QN N u → QN N (z ++ u)
  | [], u, _, h => h
  | c :: z, u, hz, h => qn_cons (fun e => hz (by rw [e]; exact .head _)) (qn_noq (fun m => hz (.tail _ m)) h)
theorem name_at : ∀ (f p : Nat) (cs : List Nat) (w : Str) (q : Nat), (Tk.name w, q) ∈ scan f p cs → ∃ pre suf, cs = pre ++ 39 :: suf ∧ w = mkS (suf.take (runN OTH.cps.toList suf)) ∧ isWd w = true := by
  intro f
  induction f with
  | zero => intro p cs w q h; cases h
  | succ f ih =>
    intro p cs w q h
    cases cs with
    | nil => rw [scan_nil] at h; cases h
    | cons c r =>
      by_cases hc : c ∈ SEP.cps.toList
      · rw [scan_sep hc] at h
        obtain ⟨a, b, e, h2⟩ := ih _ _ _ _ h
        exact ⟨c :: a, b, by rw [e]; rfl, h2⟩
      · rw [scan_tok hc] at h
        rcases List.mem_cons.mp h with e | e
        · have e := (Prod.mk.inj e).1.symm
          have h0 := tokLen_pos (cs := c :: r) (by simp)
          obtain ⟨m, hm⟩ : ∃ m, tokLen (c :: r) = m + 1 := ⟨tokLen (c :: r) - 1, by omega⟩
          rw [hm, List.take_succ_cons] at e
          unfold tokOf at e
          rw [List.headD_cons, List.tail_cons] at e
          by_cases c1 : mkS (c :: r.take m) ∈ SIGNS
          · rw [if_pos c1] at e; cases e
          rw [if_neg c1] at e
          by_cases c2 : c = 39 ∧ isWd (mkS (r.take m)) = true
          · rw [if_pos c2] at e
            cases e
            obtain ⟨rfl, c3⟩ := c2
            have hl : tokLen (39 :: r) = 1 + runN OTH.cps.toList r := by
              unfold tokLen
              dsimp only
              rw [if_neg (by decide +kernel), if_pos (by decide +kernel)]
            have : m = runN OTH.cps.toList r := by omega
            exact ⟨[], r, rfl, by rw [this], c3⟩
          · rw [if_neg c2] at e
            repeat' split at e
            all_goals cases e
        · obtain ⟨a, b, e2, h2⟩ := ih _ _ _ _ e
          exact ⟨(c :: r).take (tokLen (c :: r)) ++ a, b, by rw [List.append_assoc, ← e2, List.take_append_drop], h2⟩
theorem qn_few {N : List Str} {cs : List Nat} (h : QN N cs) : ∀ w p, (Tk.name w, p) ∈ toks cs → w ∈ N := fun w p hm => by
  unfold toks at hm
  rcases List.mem_append.mp hm with e | e
  · obtain ⟨a, b, e2, rfl, e4⟩ := name_at _ _ _ _ _ e
    exact h a b e2 e4
  · cases List.mem_singleton.mp e
/-- a piece of which no name comes but those of N -/
structure Pc (N : List Str) (x : Str) : Prop where
  ne : x.cps.toList ≠ []
  hi : x.length ≤ 17
  qn : ∀ u, OKN (x.cps.toList.headD 0) u → QN N u → QN N (x.cps.toList ++ u)
theorem Pc.noq {N : List Str} {x : Str} (h1 : x.cps.toList ≠ []) (h2 : x.length ≤ 17) (h : 39 ∉ x.cps.toList) : Pc N x := ⟨h1, h2, fun u _ hu => qn_noq h hu⟩
theorem q39 : ¬ 39 ∈ MDG ∧ ¬ 39 ∈ SGN := by decide +kernel
theorem okn39 {u : List Nat} (h : OKN 39 u) : ∀ c ∈ u.head?, c ∉ OTH.cps.toList := fun c hc => (h c hc).elim (sep_oth c) fun m => meet_word q39.1 q39.2 m
theorem oth_noq {z : List Nat} (h : ∀ c ∈ z, c ∈ OTH.cps.toList) : 39 ∉ z := fun m => absurd (h 39 m) (by decide +kernel)
/-- a quote and word signs behind it -/
theorem Pc.quote {N : List Str} {x : Str} {r : List Nat} (e : x.cps.toList = 39 :: r) (h2 : x.length ≤ 17) (hr : ∀ c ∈ r, c ∈ OTH.cps.toList) (hq : isWd (mkS r) = true → mkS r ∈ N) : Pc N x := by
  refine ⟨by rw [e]; simp, h2, fun u ou hu => ?_⟩
  rw [e] at ou ⊢
  show QN N (39 :: (r ++ u))
  refine qn_quote ?_ (qn_noq (oth_noq hr) hu)
  rw [run_all _ r u hr (okn39 ou), List.take_left]
  exact hq
theorem run_full {S : List Nat} : ∀ {l : List Nat}, runN S l = l.length → ∀ c ∈ l, c ∈ S
  | [], _, c, hc => by cases hc
  | a :: r, e, c, hc => by
    rw [run_cons] at e
    by_cases ha : a ∈ S
    · rw [if_pos ha, List.length_cons] at e
      rcases List.mem_cons.mp hc with z | z
      · rw [z]; exact ha
      · exact run_full (by omega) c z
    · rw [if_neg ha, List.length_cons] at e; omega
theorem wd_all {r : List Nat} (h : isWd (mkS r) = true) : (∀ c ∈ r, c ∈ OTH.cps.toList) ∧ (1 ≤ r.length ∧ r.length ≤ 12) ∧ r.headD 0 ∈ LET.cps.toList := by
  unfold isWd at h
  simp only [Bool.and_eq_true, decide_eq_true_eq, mk'_list, mk'_len] at h
  obtain ⟨h1, h2, h3⟩ := h
  exact ⟨fun c hc => of_decide_eq_true (List.all_eq_true.mp h3 c hc), h1, h2⟩
/-- a piece that gives one token -/
theorem TS.pcs {N : List Str} {k : Tk} {x : Str} (h : TS k x) (hb : k ≠ .bad) (hn : ∀ w, k = .name w → w ∈ N) : Pc N x := by
  have e0 := h.pc.2.2 [] fun c hc => by cases hc
  rw [List.append_nil] at e0
  have ht := h.tk
  cases ex : x.cps.toList with
  | nil => exact absurd ex h.ne
  | cons c r =>
    rw [ex] at e0 ht
    have hr : ∀ a ∈ r, a ∈ OTH.cps.toList := by
      unfold tokLen at e0
      dsimp only at e0
      rw [List.length_cons] at e0
      split at e0
      · exact fun a ha => dig_oth a (run_full (by omega) a ha)
      · split at e0
        · exact fun a ha => run_full (by omega) a ha
        · have : r = [] := List.length_eq_zero_iff.mp (by omega)
          rw [this]; exact fun a ha => by cases ha
    by_cases hc : c = 39
    · subst hc
      refine Pc.quote ex h.hi hr fun hw => hn _ ?_
      rw [← ht]
      unfold tokOf
      rw [if_neg (sign_no (by show 39 ∉ _; decide)), List.headD_cons, List.tail_cons, if_pos ⟨rfl, hw⟩]
    · refine Pc.noq h.ne h.hi ?_
      rw [ex]
      exact fun m => (List.mem_cons.mp m).elim (fun e => hc e.symm) (oth_noq hr)
end PK
namespace PK
open PySem L2 _root_.TL
/-! pieces that give an invalid token -/
theorem num_no {p : List Nat} {k : Nat} (h : ∀ c ∈ p.head?, c ∉ DIGS.cps.toList) (hp : p ≠ []) : isNum p k = false := by
  cases e : isNum p k with
  | false => rfl
  | true =>
    have := (num_dig e).1
    cases p with
    | nil => exact absurd rfl hp
    | cons a r => exact absurd (all_dig this a (.head _)) (h a rfl)
theorem wd_no {p : List Nat} (h : p.headD 0 ∉ LET.cps.toList) : isWd (mkS p) = false := by
  cases e : isWd (mkS p) with
  | false => rfl
  | true => exact absurd (wd_all e).2.2 h
theorem wd_long {p : List Nat} (h : p.length = 0 ∨ 12 < p.length) : isWd (mkS p) = false := by
  cases e : isWd (mkS p) with
  | false => rfl
  | true => have := (wd_all e).2.1; omega
/-- a quote or a dollar, and no word behind it -/
theorem tb_pre {c : Nat} {r : List Nat} (hc : c ∈ ([39, 36] : List Nat)) (h : isWd (mkS r) = false) : tokOf (c :: r) = .bad := by
  have key : ∀ c ∈ ([39, 36] : List Nat), c ∉ ([40, 41, 123, 125] : List Nat) ∧ c ≠ 64 ∧ c ≠ 45 ∧ c ∉ DIGS.cps.toList ∧ c ∉ LET.cps.toList := by decide +kernel
  obtain ⟨k1, k2, k3, k4, k5⟩ := key c hc
  unfold tokOf
  rw [List.headD_cons, List.tail_cons, if_neg (sign_no (p := c :: r) k1), if_neg (fun z => by rw [h] at z; exact absurd z.2 (by decide)), if_neg (fun z => by rw [h] at z; exact absurd z.2 (by decide)), if_neg (fun z => k2 z.1), if_neg (fun z => k3 z.1), num_no (fun a ha => by cases ha; exact k4) (by simp), if_neg (by decide), wd_no (p := c :: r) k5, if_neg (by decide)]
theorem tb_at {r : List Nat} (h : isNum r 9 = false) : tokOf (64 :: r) = .bad := by
  unfold tokOf
  rw [List.headD_cons, List.tail_cons, if_neg (sign_no (by show 64 ∉ _; decide)), if_neg (fun z => absurd z.1 (by decide)), if_neg (fun z => absurd z.1 (by decide)), if_neg (fun z => by rw [h] at z; exact absurd z.2 (by decide)), if_neg (fun z => absurd z.1 (by decide)), num_no (fun a ha => by cases ha; decide +kernel) (by simp), if_neg (by decide), wd_no (p := 64 :: r) (by show 64 ∉ _; decide +kernel), if_neg (by decide)]
theorem tb_dig {p : List Nat} (hd : ∀ c ∈ p, c ∈ DIGS.cps.toList) (hp : p ≠ []) (h : isNum p 15 = false) : tokOf p = .bad := by
  have hh := dig_head hd hp
  unfold tokOf
  rw [if_neg (sign_no (hh _ (by decide +kernel)))]
  have k : ∀ m, m ∈ ([39, 36, 64, 45] : List Nat) → p.headD 0 ≠ m := fun m hm e => hh [39, 36, 64, 45] (by decide +kernel) (by rw [e]; exact hm)
  rw [if_neg (fun z => k 39 (by decide) z.1), if_neg (fun z => k 36 (by decide) z.1), if_neg (fun z => k 64 (by decide) z.1), if_neg (fun z => k 45 (by decide) z.1), h, if_neg (by decide), wd_no (hh _ (by decide +kernel)), if_neg (by decide)]
theorem tb_let {c : Nat} {r : List Nat} (hc : c ∈ LET.cps.toList) (h : isWd (mkS (c :: r)) = false) : tokOf (c :: r) = .bad := by
  have key : ∀ c ∈ LET.cps.toList, c ∉ ([40, 41, 123, 125] : List Nat) ∧ c ∉ ([39, 36, 64, 45] : List Nat) ∧ c ∉ DIGS.cps.toList := by decide +kernel
  obtain ⟨k1, k2, k3⟩ := key c hc
  have k : ∀ m, m ∈ ([39, 36, 64, 45] : List Nat) → c ≠ m := fun m hm e => k2 (by rw [e]; exact hm)
  unfold tokOf
  rw [List.headD_cons, List.tail_cons, if_neg (sign_no (p := c :: r) k1), if_neg (fun z => k 39 (by decide) z.1), if_neg (fun z => k 36 (by decide) z.1), if_neg (fun z => k 64 (by decide) z.1), if_neg (fun z => k 45 (by decide) z.1), num_no (fun a ha => by cases ha; exact k3) (by simp), if_neg (by decide), h, if_neg (by decide)]
/-! which token comes first -/
theorem hd_app {S : Nat → Prop} {q u : List Nat} (h1 : ∀ c ∈ q.head?, S c) (h2 : q = [] → ∀ c ∈ u.head?, S c) : ∀ c ∈ (q ++ u).head?, S c := by
  cases q with
  | nil => exact h2 rfl
  | cons a r => exact h1
theorem sep_dig {c : Nat} (h : c ∈ SEP.cps.toList) : c ∉ DIGS.cps.toList := fun z => sep_oth c h (dig_oth c z)
theorem fst_num {c : Nat} {r q : List Nat} (h : c ∈ ("-@" : Str).cps.toList ∨ c ∈ DIGS.cps.toList) (hr : ∀ x ∈ r, x ∈ DIGS.cps.toList) (hb : tokOf (c :: r) = .bad) (hq : ∀ x ∈ q.head?, x ∉ DIGS.cps.toList) : Fst .bad (c :: r ++ q) := by
  have hm : c ∈ MDG := by
    have key : ∀ c ∈ ("-@" : Str).cps.toList ++ DIGS.cps.toList, c ∈ MDG := by decide +kernel
    exact key c (List.mem_append.mpr h)
  have pc := piece_num h hr
  refine ⟨by simp, pc.2.1, fun u hu => ?_⟩
  rw [List.append_assoc, pc.2.2 (q ++ u) (hd_app (S := fun x => x ∉ DIGS.cps.toList) hq fun _ x hx => (hu x hx).elim sep_dig fun m => meet_num hm m), List.take_left, hb]
theorem fst_word {c : Nat} {r q : List Nat} (h : c ∈ ("'$" : Str).cps.toList ∨ c ∈ LET.cps.toList) (hr : ∀ x ∈ r, x ∈ OTH.cps.toList) (hb : tokOf (c :: r) = .bad) (hq : ∀ x ∈ q.head?, x ∉ OTH.cps.toList) : Fst .bad (c :: r ++ q) := by
  obtain ⟨n1, n2⟩ := let_not c (List.mem_append.mpr h)
  have pc := piece_word h hr
  refine ⟨by simp, pc.2.1, fun u hu => ?_⟩
  rw [List.append_assoc, pc.2.2 (q ++ u) (hd_app (S := fun x => x ∉ OTH.cps.toList) hq fun _ x hx => (hu x hx).elim (sep_oth x) fun m => meet_word n1 n2 m), List.take_left, hb]
abbrev SGS : Str := "!\"#&*+,./:;<=>?[\\]^`|~ABCXYZ"
theorem fst_one {c : Nat} {q : List Nat} (h : c ∈ 95 :: SGS.cps.toList) : Fst .bad (c :: q) := by
  have key : ∀ c ∈ 95 :: SGS.cps.toList, c ∉ SEP.cps.toList ∧ ¬ (c ∈ ("-@" : Str).cps.toList ∨ c ∈ DIGS.cps.toList) ∧ ¬ (c ∈ ("'$" : Str).cps.toList ∨ c ∈ LET.cps.toList) ∧ tokOf [c] = .bad := by decide +kernel
  obtain ⟨k1, k2, k3, k4⟩ := key c h
  refine ⟨by simp, k1, fun u hu => ?_⟩
  have : tokLen (c :: q ++ u) = 1 := by
    show tokLen (c :: (q ++ u)) = 1
    unfold tokLen
    dsimp only
    rw [if_neg k2, if_neg k3]
  rw [this]
  exact k4
/-- an invalid piece -/
structure Bp (N : List Str) (x : Str) : Prop extends Pc N x where
  fst : Fst .bad x.cps.toList
theorem bp_noq {N : List Str} {x : Str} {z : List Nat} (e : x.cps.toList = z) (h : Fst .bad z) (hi : z.length ≤ 17) (hq : 39 ∉ z) : Bp N x := by
  refine ⟨Pc.noq (by rw [e]; exact h.ne) (by rw [len_list, e]; exact hi) (by rw [e]; exact hq), by rw [e]; exact h⟩
theorem dig_noq {z : List Nat} (h : ∀ c ∈ z, c ∈ DIGS.cps.toList) : 39 ∉ z := oth_noq fun c hc => dig_oth c (h c hc)
theorem numL_lo {n k : Nat} (h : 10 ^ k ≤ n) : k < (numL n).length := by
  have key : ∀ (m k : Nat), m ≤ k → ∀ n, 10 ^ k ≤ n → m < (numL n).length := by
    intro m
    induction m with
    | zero => exact fun k _ n _ => List.length_pos_iff.mpr (numL_ne n)
    | succ m ih =>
      intro k hk n hn
      obtain ⟨k, rfl⟩ : ∃ j, k = j + 1 := ⟨k - 1, by omega⟩
      have h10 : 10 * 10 ^ k ≤ n := by rw [Nat.pow_succ] at hn; omega
      have hp : 0 < 10 ^ k := Nat.pow_pos (by decide)
      rw [numL_step (by omega), List.length_append]
      have := ih k (by omega) (n / 10) ((Nat.le_div_iff_mul_le (by decide)).mpr (by omega))
      show m + 1 < _ + 1
      omega
  exact key k k (Nat.le_refl _) n h
variable {N : List Str} {w : Str}
theorem Wd.cons {w : Str} (h : Wd w) : ∃ s r, w.cps.toList = s :: r ∧ s ∈ LET.cps.toList ∧ (∀ c ∈ s :: r, c ∈ OTH.cps.toList) ∧ (s :: r).length ≤ 12 := by
  obtain ⟨s, r, e, hs⟩ := h.hd
  exact ⟨s, r, e, hs, by rw [← e]; exact h.al, by rw [← e, ← len_list]; exact h.hi⟩
theorem let_nd : ∀ c ∈ LET.cps.toList, c ∉ DIGS.cps.toList := by decide +kernel
theorem mem_noq {z : List Nat} {w : Str} (h : Wd w) (hz : 39 ∉ z) : 39 ∉ z ++ w.cps.toList := fun m => (List.mem_append.mp m).elim hz (oth_noq h.al)
theorem len_wd {z : List Nat} {w : Str} (h : Wd w) (hz : z.length ≤ 5) : (z ++ w.cps.toList).length ≤ 17 := by
  rw [List.length_append, ← len_list]; have := h.hi; omega
/-- the 13 signs that begin with a word -/
def LNG (w : Str) : List Nat := (w.cps.toList ++ ("nopqrstuvwxyz" : Str).cps.toList).take 13
theorem lng_len (h : Wd w) : (LNG w).length = 13 := by
  have e : ("nopqrstuvwxyz" : Str).cps.toList.length = 13 := by decide +kernel
  unfold LNG
  rw [List.length_take, List.length_append, e]; omega
theorem lng_oth (h : Wd w) : ∀ c ∈ LNG w, c ∈ OTH.cps.toList := fun c hc => by
  have key : ∀ c ∈ ("nopqrstuvwxyz" : Str).cps.toList, c ∈ OTH.cps.toList := by decide +kernel
  exact (List.mem_append.mp (List.mem_of_mem_take hc)).elim (h.al c) (key c)
theorem lng_hd (h : Wd w) : ∃ s r, LNG w = s :: r ∧ s ∈ LET.cps.toList := by
  obtain ⟨s, r, e, hs⟩ := h.hd
  unfold LNG
  rw [e]
  exact ⟨s, _, rfl, hs⟩
theorem bp0_zero {n : Nat} (hn : n < 1000) : Bp N ("0" ++ txt (n : Nat)) := by
  have e : ("0" ++ txt (n : Nat)).cps.toList = 48 :: numL n := by rw [pre_list (by decide +kernel : ("0" : Str).cps.toList = [48]), txt_nat]
  have hd := all_dig (numL_digits n)
  have hl := numL_len (n := n) (k := 3) (by decide) (by omega)
  have h48 : 48 ∈ DIGS.cps.toList := by decide +kernel
  have nn : ∀ k, isNum (48 :: numL n) k = false := fun k => by
    unfold isNum
    rw [decide_eq_false (show ¬ (48 :: numL n = [48]) from fun z => numL_ne n (List.cons.inj z).2), decide_eq_false (show ¬ ((48 :: numL n).getD 0 0 ≠ 48) from fun z => z rfl)]
    simp
  refine bp_noq e ?_ (by rw [List.length_cons]; omega) (dig_noq fun c hc => (List.mem_cons.mp hc).elim (fun z => by rw [z]; exact h48) (hd c))
  have := fst_num (q := []) (.inr h48) hd (tb_dig (p := 48 :: numL n) (fun c hc => (List.mem_cons.mp hc).elim (fun z => by rw [z]; exact h48) (hd c)) (by simp) (nn 15)) (fun x hx => by cases hx)
  rwa [List.append_nil] at this
theorem bp0_minus0 : Bp N "-0" := by
  have e : ("-0" : Str).cps.toList = [45, 48] := by decide +kernel
  refine bp_noq e ?_ (by decide) (by decide)
  have := fst_num (c := 45) (r := [48]) (q := []) (.inl (by decide +kernel)) (by decide +kernel) (by decide +kernel) (fun x hx => by cases hx)
  rwa [List.append_nil] at this
theorem bp0_minus : Bp N "-" := by
  have e : ("-" : Str).cps.toList = [45] := by decide +kernel
  refine bp_noq e ?_ (by decide) (by decide)
  have := fst_num (c := 45) (r := []) (q := []) (.inl (by decide +kernel)) (by decide +kernel) (by decide +kernel) (fun x hx => by cases hx)
  rwa [List.append_nil] at this
theorem bp0_big {n : Nat} (h0 : 10 ^ 15 ≤ n) (h1 : n < 10 ^ 16) : Bp N (txt (n : Nat)) := by
  have e := txt_nat n
  have hd := all_dig (numL_digits n)
  have hl := numL_len (n := n) (k := 16) (by decide) h1
  have lo := numL_lo h0
  have nn : isNum (numL n) 15 = false := by
    unfold isNum
    rw [decide_eq_false (show ¬ (1 ≤ (numL n).length ∧ (numL n).length ≤ 15) by omega)]
    rfl
  have tb := tb_dig hd (numL_ne n) nn
  refine bp_noq e ?_ (by omega) (dig_noq hd)
  cases ed : numL n with
  | nil => exact absurd ed (numL_ne n)
  | cons a r =>
    rw [ed] at hd tb
    have := fst_num (q := []) (.inr (hd a (.head _))) (fun x hx => hd x (.tail _ hx)) tb (fun x hx => by cases hx)
    rwa [List.append_nil] at this
theorem hd_let (h : Wd w) {S : Nat → Prop} (hS : ∀ c ∈ LET.cps.toList, S c) : ∀ x ∈ w.cps.toList.head?, S x := fun x hx => by
  obtain ⟨s, r, e, hs⟩ := h.hd
  rw [e] at hx
  cases hx
  exact hS _ hs
theorem bp0_minusw (h : Wd w) : Bp N ("-0" ++ w) := by
  have e : ("-0" ++ w).cps.toList = [45, 48] ++ w.cps.toList := by rw [app_list, (by decide +kernel : ("-0" : Str).cps.toList = [45, 48])]
  exact bp_noq e (fst_num (c := 45) (r := [48]) (.inl (by decide +kernel)) (by decide +kernel) (by decide +kernel) (hd_let h let_nd)) (len_wd h (by decide)) (mem_noq h (by decide))
theorem bp1_at : Bp N "@" := by
  have e : ("@" : Str).cps.toList = [64] := by decide +kernel
  refine bp_noq e ?_ (by decide) (by decide)
  have := fst_num (c := 64) (r := []) (q := []) (.inl (by decide +kernel)) (by decide +kernel) (by decide +kernel) (fun x hx => by cases hx)
  rwa [List.append_nil] at this
theorem bp1_zero {n : Nat} (hn : n < 100) : Bp N ("@0" ++ txt (n : Nat)) := by
  have e : ("@0" ++ txt (n : Nat)).cps.toList = 64 :: 48 :: numL n := by rw [app_list, (by decide +kernel : ("@0" : Str).cps.toList = [64, 48]), txt_nat]; rfl
  have hd := all_dig (numL_digits n)
  have hl := numL_len (n := n) (k := 3) (by decide) (by omega)
  have h48 : 48 ∈ DIGS.cps.toList := by decide +kernel
  have hd2 : ∀ c ∈ 48 :: numL n, c ∈ DIGS.cps.toList := fun c hc => (List.mem_cons.mp hc).elim (fun z => by rw [z]; exact h48) (hd c)
  have nn : ∀ k, isNum (48 :: numL n) k = false := fun k => by
    unfold isNum
    rw [decide_eq_false (show ¬ (48 :: numL n = [48]) from fun z => numL_ne n (List.cons.inj z).2), decide_eq_false (show ¬ ((48 :: numL n).getD 0 0 ≠ 48) from fun z => z rfl)]
    simp
  refine bp_noq e ?_ (by rw [List.length_cons, List.length_cons]; omega) (fun m => (List.mem_cons.mp m).elim (by decide) (dig_noq hd2))
  have := fst_num (q := []) (.inl (by decide +kernel : 64 ∈ ("-@" : Str).cps.toList)) hd2 (tb_at (nn 9)) (fun x hx => by cases hx)
  rwa [List.append_nil] at this
theorem bp1_big {n : Nat} (h0 : 10 ^ 9 ≤ n) (h1 : n < 10 ^ 10) : Bp N ("@" ++ txt (n : Nat)) := by
  have e : ("@" ++ txt (n : Nat)).cps.toList = 64 :: numL n := by rw [pre_list (by decide +kernel : ("@" : Str).cps.toList = [64]), txt_nat]
  have hd := all_dig (numL_digits n)
  have hl := numL_len (n := n) (k := 10) (by decide) h1
  have lo := numL_lo h0
  have nn : isNum (numL n) 9 = false := by
    unfold isNum
    rw [decide_eq_false (show ¬ (1 ≤ (numL n).length ∧ (numL n).length ≤ 9) by omega)]
    rfl
  refine bp_noq e ?_ (by rw [List.length_cons]; omega) (fun m => (List.mem_cons.mp m).elim (by decide) (dig_noq hd))
  have := fst_num (q := []) (.inl (by decide +kernel : 64 ∈ ("-@" : Str).cps.toList)) hd (tb_at nn) (fun x hx => by cases hx)
  rwa [List.append_nil] at this
theorem bp1_minus : Bp N "@-1" := by
  have e : ("@-1" : Str).cps.toList = [64] ++ [45, 49] := by decide +kernel
  exact bp_noq e (fst_num (c := 64) (r := []) (.inl (by decide +kernel)) (by decide +kernel) (by decide +kernel) (by decide +kernel)) (by decide) (by decide)
theorem bp1_word (h : Wd w) : Bp N ("@" ++ w) := by
  have e : ("@" ++ w).cps.toList = [64] ++ w.cps.toList := by rw [app_list, (by decide +kernel : ("@" : Str).cps.toList = [64])]
  exact bp_noq e (fst_num (c := 64) (r := []) (.inl (by decide +kernel)) (by decide +kernel) (by decide +kernel) (hd_let h let_nd)) (len_wd h (by decide)) (mem_noq h (by decide))
/-- a quote or a dollar p, and what stands behind it: word signs that are no word -/
theorem bp_pre {p : Str} {c : Nat} {r : List Nat} {x : Str} (hc : c ∈ ([39, 36] : List Nat)) (e : x.cps.toList = c :: r) (hr : ∀ a ∈ r, a ∈ OTH.cps.toList) (hw : isWd (mkS r) = false) (hl : r.length ≤ 16) : Bp N x := by
  have hq : c ∈ ("'$" : Str).cps.toList := by
    have key : ∀ c ∈ ([39, 36] : List Nat), c ∈ ("'$" : Str).cps.toList := by decide +kernel
    exact key c hc
  have f := fst_word (q := []) (.inl hq) hr (tb_pre hc hw) (fun x hx => by cases hx)
  rw [List.append_nil] at f
  have lx : x.length ≤ 17 := by rw [len_list, e, List.length_cons]; omega
  by_cases h : c = 39
  · subst h
    exact ⟨Pc.quote e lx hr (fun z => by rw [hw] at z; cases z), by rw [e]; exact f⟩
  · exact bp_noq e f (by rw [← e, ← len_list]; exact lx) (fun m => (List.mem_cons.mp m).elim (fun z => h z.symm) (oth_noq hr))
theorem bp_two {p : Str} {c : Nat} {x : Str} (hc : c ∈ ([39, 36] : List Nat)) (h : Wd w) (hw : w ∈ N) (e : x.cps.toList = c :: c :: w.cps.toList) : Bp N x := by
  have key : ∀ c ∈ ([39, 36] : List Nat), c ∈ ("'$" : Str).cps.toList ∧ c ∉ OTH.cps.toList := by decide +kernel
  obtain ⟨k1, k2⟩ := key c hc
  have f : Fst .bad (c :: c :: w.cps.toList) := fst_word (r := []) (q := c :: w.cps.toList) (.inl k1) (fun _ h => absurd h List.not_mem_nil) (tb_pre hc (wd_long (.inl rfl))) (fun x hx => by cases hx; exact k2)
  have lx : x.length ≤ 17 := by rw [len_list, e, List.length_cons, List.length_cons, ← len_list]; have := h.hi; omega
  by_cases h39 : c = 39
  · subst h39
    refine ⟨⟨by rw [e]; simp, lx, fun u ou hu => ?_⟩, by rw [e]; exact f⟩
    rw [e] at ou ⊢
    show QN N (39 :: 39 :: (w.cps.toList ++ u))
    refine qn_quote ?_ (qn_quote ?_ (qn_noq (oth_noq h.al) hu))
    · rw [run_cons, if_neg (by decide +kernel), List.take_zero, wd_long (.inl rfl)]
      exact fun z => by cases z
    · rw [run_all _ _ u h.al (okn39 ou), List.take_left, mk'_of]
      exact fun _ => hw
  · exact bp_noq e f (by rw [← e, ← len_list]; exact lx) (fun m => (List.mem_cons.mp m).elim (fun z => h39 z.symm) fun m => (List.mem_cons.mp m).elim (fun z => h39 z.symm) (oth_noq h.al))
theorem bp_long (h : Wd w) {x : Str} (e : x.cps.toList = LNG w) : Bp N x := by
  obtain ⟨s, r, el, hs⟩ := lng_hd h
  have ho := lng_oth h
  have ll := lng_len h
  have hw : isWd (mkS (LNG w)) = false := wd_long (.inr (by omega))
  rw [el] at e ho ll hw
  refine bp_noq e ?_ (by omega) (oth_noq ho)
  have := fst_word (q := []) (.inr hs) (fun a ha => ho a (.tail _ ha)) (tb_let hs hw) (fun x hx => by cases hx)
  rwa [List.append_nil] at this
theorem bp_under (h : Wd w) : Bp N ("_" ++ w) := by
  have e : ("_" ++ w).cps.toList = 95 :: w.cps.toList := pre_list (by decide +kernel) w
  exact bp_noq e (fst_one (.head _)) (len_wd (z := [95]) h (by decide)) (mem_noq (z := [95]) h (by decide))
theorem bp_under1 : Bp N "_" := bp_noq (by decide +kernel : ("_" : Str).cps.toList = [95]) (fst_one (.head _)) (by decide) (by decide)
theorem bp_sign {c : Nat} (h : c ∈ SGS.cps.toList) {x : Str} (e : x.cps.toList = [c]) : Bp N x := by
  have key : ∀ c ∈ SGS.cps.toList, c ≠ 39 := by decide +kernel
  exact bp_noq e (fst_one (.tail _ h)) (by show 1 ≤ 17; decide) (fun m => key c h (List.mem_singleton.mp m).symm)
end PK
namespace PK
open PySem L2 _root_.TL
/-! _law_laid: where the tokens stand in the text -/
/-- pieces: those of the tokens ks, one that begins with j (or the end), and others -/
structure Rw (N : List Str) (ks : List Tk) (j : Tk) (xs : List Str) (at_ : Nat) : Prop where
  ts : TSL ks (xs.take ks.length)
  le : ks.length ≤ xs.length
  at_le : at_ ≤ ks.length
  fst : ∀ z, xs[ks.length]? = some z → Fst j z.cps.toList
  fin : xs[ks.length]? = none → j = .fin
  pc : ∀ z ∈ xs, Pc N z
theorem due_step {d : List (Tk × Nat)} {t : Tk} {pos at_ i : Nat} {due due' : Int} (hl : d.length = i) (h : at_ < i → ∃ n : Nat, due = n ∧ (d[at_]?).map (·.2) = some n) (h1 : i = at_ → due' = (pos : Nat)) (h2 : i ≠ at_ → due' = due) (lt : at_ < i + 1) : ∃ n : Nat, due' = n ∧ ((d ++ [(t, pos)])[at_]?).map (·.2) = some n := by
  by_cases e : i = at_
  · exact ⟨pos, h1 e, by rw [← e, ← hl]; simp⟩
  · obtain ⟨n, e1, e2⟩ := h (by omega)
    exact ⟨n, by rw [h2 e, e1], by rw [List.getElem?_append_left (by omega)]; exact e2⟩
theorem map_len {d : List (Tk × Nat)} {ks : List Tk} (h : MG d = ks) : d.length = ks.length := by rw [← h]; exact (List.length_map ..).symm
def LaidQ (N : List Str) (x : List Nat) (ks : List Tk) (j : Tk) (at_ : Nat) (due : Int) : Prop := ∃ n : Nat, due = n ∧ Laid x ks j at_ n ∧ QN N x
def LaidA (x : List Nat) (ks : List Tk) (b at_ i : Nat) (due : Int) : Prop := ∃ d, MG d = ks.take i ∧ PreP x b d ∧ (at_ < i → ∃ n : Nat, due = n ∧ (d[at_]?).map (·.2) = some n)
def LaidB (x : List Nat) (ks : List Tk) (j : Tk) (b at_ : Nat) (due : Int) : Prop := ∃ d, MG d = ks ++ [j] ∧ AftP x b d ∧ ∃ n : Nat, due = n ∧ (d[at_]?).map (·.2) = some n
def spLaid (K : PySem.W.Frag) : Sp := fun vs H Q _ => ∃ (l c pw : Addr) (at_ : Nat) (N : List Str) (ks : List Tk) (j : Tk) (xs : List Str), vs = [.ref l, .ref pw, .int (at_ : Nat)] ∧ Pool H l c ∧ pw ≠ l ∧ H pw = some (.lst (xs.map V.str)) ∧ Rw N ks j xs at_ ∧ xs.length ≤ 1000 ∧
  ∀ (H' : Hp) (p : Addr) (x : Str) (due : Nat), Ext l c H H' → SqT K H' p [.str x, .int (due : Nat)] → Laid x.cps.toList ks j at_ due → QN N x.cps.toList → x.length ≤ 20 * xs.length + 20 → Q (.ref p) H'
section
variable {P : Program} {w : World} {K : PySem.W.Frag} {mg : Str → Option Value} {base : Heap} {aS CL CP : Addr}
abbrev s_law_laid : Stmt := topS 39
theorem sc_law_laid : FnScope ["pool", "words", "at", "text", "due", "before", "plain", "k", "word", "gap"] ["pool", "words", "at"] (defScope s_law_laid) := ⟨rfl, rfl, rfl, by decide +kernel, rfl, by decide +kernel, by decide +kernel⟩
-- slots: 0:pool 1:words 2:at 3:text 4:due 5:before 6:plain 7:k 8:word 9:gap
theorem ok_laid {f : Addr} {fd : FuncData} (F : Fun K "_law_laid" "_law_laid" s_law_laid f fd) (T : TxtR K mg aS CL CP) (C_law_take : C8.Cal P w K mg base 2 "_law_take" (spTake 2) []) (C_law_gap : C8.Cal P w K mg base 3 "_law_gap" spGap []) (C_law_meet : C8.Cal P w K mg base 1 "_law_meet" spMeet []) : FnOk P w K mg base CX0 4 f fd ["pool", "words", "at"] (spLaid K) := by
  refine F.ok sc_law_laid (fun vs H Q E h => ?_) (fun cdv A outer s H vs Q E hr h => ?_)
  · obtain ⟨_, _, _, _, _, _, _, _, rfl, _⟩ := h
    rfl
  obtain ⟨l, c, pw, at_, N, ks, j, xs, rfl, P0, nw, hw, rw_, hl, q⟩ := h
  refine ⟨_, (pss_cons (ps_set (i := 3) sc_law_laid.nd rfl (Or.inl rfl) pe_str)
    (pss_cons (ps_set (i := 4) sc_law_laid.nd rfl (Or.inl rfl) pe_int)
    (pss_cons (ps_set (i := 5) sc_law_laid.nd rfl (Or.inl rfl) pe_str)
    (pss_cons (ps_set (i := 6) sc_law_laid.nd rfl (Or.inl rfl) (pe_cmpR op_eq (C8.pe_c C_law_take hr (by decide) rfl (pa_cons (pv 0) (pa_cons pe_int pa_nil))) pe_int (nomark _)))
    (pss_cons (ps_for PassesOwn.never rfl (pi_range1 (by rfl) T.z_range (pa_cons (pe_op op_add (pe_callB call_len_seq (by rfl) T.z_len (by decide +kernel) (pa_cons (pv 1) pa_nil)) pe_int) pa_nil)) (pg_name (i := 7) sc_law_laid.nd rfl (Or.inl rfl)) (pss_cons (ps_set (i := 8) sc_law_laid.nd rfl (Or.inl rfl) (pe_ix ix_list (pe_op op_cat (pv 1) (pe_lst (pa_cons pe_str pa_nil))) (pv 7) (fun _ _ => rfl)))
    (pss_cons (ps_set (i := 9) sc_law_laid.nd rfl (Or.inl rfl) pe_str)
    (C8.pss_cut (ps_if (pt_not (pt_val (pv 6))) (pss_one (ps_set (i := 9) sc_law_laid.nd rfl (Or.inl rfl) (C8.pe_c C_law_gap hr (by decide) rfl (pa_cons (pv 0) pa_nil)))) pss_nil)
    (C8.pss_cut (ps_if (PW.pt (pw_and (pt_cmpR op_eq (pv 9) pe_str (nomark _)) (pw_and (pt_cmpR op_ne (pv 8) pe_str (nomark _)) (pw_and1 (pt_val (C8.pe_c C_law_meet hr (by decide) rfl (pa_cons (pv 5) (pa_cons (pv 8) pa_nil)))))))) (pss_one (ps_set (i := 9) sc_law_laid.nd rfl (Or.inl rfl) pe_str)) pss_nil)
    (C8.pss_cut (ps_if (pt_cmpR op_eq (pv 7) (pv 2) (nomark _)) (pss_one (ps_set (i := 4) sc_law_laid.nd rfl (Or.inl rfl) (pe_callB call_len_str (by rfl) T.z_len (by decide +kernel) (pa_cons (pe_op op_add_str (pv 3) (pv 9)) pa_nil)))) pss_nil)
    (pss_cons (ps_set (i := 3) sc_law_laid.nd rfl (Or.inl rfl) (pe_op op_add_str (pe_op op_add_str (pv 3) (pv 9)) (pv 8)))
    (pss_one (ps_set (i := 5) sc_law_laid.nd rfl (Or.inl rfl) (pv 8))))))))))
    (pss_one (ps_ret (pe_tup (pa_cons (pv 3) (pa_cons (pv 4) pa_nil)))))))))), ?_⟩
  refine vTake rfl P0 (by decide) (by decide) fun d H1 d0 d1 x1 => ?_
  refine ⟨rfl, ?_⟩
  generalize decide (V.int d = V.int 1) = pl
  have lm : (xs.map V.str).length = xs.length := List.length_map ..
  have hw1 := x1.keep _ _ nw hw
  refine ⟨_, rfl, pw, _, rfl, .inl (SqL.of hw1), _, _, rfl, rfl, ((xs.map V.str).length : Nat) + 1, rfl, by omega, by omega, for_range (lo := 0) (n := (((xs.map V.str).length : Nat) + 1 : Int).toNat) (fun i σ H' => ∃ (x : Str) (due : Int) (b : Str) (o7 o8 o9 : Option V), σ = [some (.ref l), some (.ref pw), some (.int (at_ : Nat)), some (.str x), some (.int due), some (.str b), some (.bl pl), o7, o8, o9] ∧ Ext l c H H' ∧ x.length ≤ 20 * i ∧
    (i ≤ xs.length → (b.cps.toList ≠ [] ∧ b.length ≤ 17) ∧ ∀ u, OKN (b.cps.toList.headD 0) u → QN N u → QN N (x.cps.toList ++ u)) ∧
    (i ≤ ks.length → LaidA x.cps.toList ks (b.cps.toList.headD 0) at_ i due) ∧
    (ks.length < i → i ≤ xs.length → LaidB x.cps.toList ks j (b.cps.toList.headD 0) at_ due) ∧
    (i = xs.length + 1 → LaidQ N x.cps.toList ks j at_ due)) ?_ ?_ ?_⟩
  · refine ⟨"", 0, "(", none, none, none, rfl, x1, Nat.zero_le _, fun _ => ⟨⟨by decide, by decide⟩, fun u _ hu => hu⟩, fun _ => ⟨[], rfl, preP_nil _, fun z => absurd z (Nat.not_lt_zero _)⟩, fun z => absurd z (Nat.not_lt_zero _), fun z => by omega⟩
  · rintro i σ H2 hi ⟨x, due, b, o7, o8, o9, rfl, x2, lx, hb, hA, hB, _⟩
    rw [lm] at hi
    have hi : i < xs.length + 1 := by omega
    obtain ⟨⟨bne, blen⟩, hq⟩ := hb (by omega)
    have hw2 := x2.keep _ _ nw hw
    refine ⟨_, rfl, small (by show 1 ≤ _; decide), fun pa hpa => ?_⟩
    have y1 := x2.new (o := .lst [.str ""]) P0 hpa
    have hw3 := (same_new (o := .lst [.str ""]) hpa) _ _ hw2
    refine ⟨pw, pa, _, _, rfl, rfl, hw3, upd_same, small (by rw [lm]; show xs.length + 1 ≤ _; omega), fun pb hpb => ?_⟩
    have y2 := y1.new (o := .lst (xs.map V.str ++ [.str ""])) P0 hpb
    obtain ⟨z, gz, hz⟩ : ∃ z : Str, (xs ++ [("" : Str)])[i]? = some z ∧ ((i < xs.length ∧ xs[i]? = some z) ∨ (i = xs.length ∧ z = "")) := by
      by_cases h : i < xs.length
      · exact ⟨xs[i], by rw [List.getElem?_append_left h, List.getElem?_eq_getElem h], .inl ⟨h, List.getElem?_eq_getElem h⟩⟩
      · have : i = xs.length := by omega
        subst this
        exact ⟨"", by simp, .inr ⟨rfl, rfl⟩⟩
    have gzv : (xs.map V.str ++ [V.str ""])[i]? = some (.str z) := by
      rw [show xs.map V.str ++ [V.str ""] = (xs ++ [("" : Str)]).map V.str by rw [List.map_append]; rfl, List.getElem?_map, gz]; rfl
    refine ⟨_, rfl, pb, _, (0 : Int) + (i : Int), .str z, rfl, rfl, SqL.of upd_same, by rw [Int.zero_add]; exact atI_nat gzv, ?_⟩
    generalize upd (upd H2 pa (.lst [.str ""])) pb (.lst (xs.map V.str ++ [.str ""])) = H3 at y2 ⊢
    have lz : z.length ≤ 17 := by
      rcases hz with ⟨_, g⟩ | ⟨_, rfl⟩
      · exact (rw_.pc z (List.mem_of_getElem? g)).hi
      · decide
    -- the gap
    refine ⟨fun σ' H' => ∃ g : Str, σ' = [some (.ref l), some (.ref pw), some (.int (at_ : Nat)), some (.str x), some (.int due), some (.str b), some (.bl pl), some (.int (0 + (i : Int))), some (.str z), some (.str g)] ∧ Ext l c H H' ∧ Blk g ∧ g.length ≤ 3, ?_, ?_⟩
    · cases pl with
      | true => exact ⟨_, rfl, _, rfl, iteF ⟨" ", rfl, y2, by show ∀ c ∈ (" " : Str).cps.toList, c ∈ SEP.cps.toList; decide +kernel, by decide⟩⟩
      | false => exact ⟨_, rfl, _, rfl, iteT ⟨_, rfl, l, c, rfl, y2.pool, fun g H4 x4 bg lg => ⟨g, rfl, y2.trans x4, bg, lg⟩⟩⟩
    rintro σ' H4 ⟨g, rfl, x4, bg, lg⟩
    refine ⟨fun σ' H' => ∃ g : Str, σ' = [some (.ref l), some (.ref pw), some (.int (at_ : Nat)), some (.str x), some (.int due), some (.str b), some (.bl pl), some (.int (0 + (i : Int))), some (.str z), some (.str g)] ∧ Ext l c H H' ∧ Blk g ∧ g.length ≤ 3 ∧ (z.cps.toList ≠ [] → g.cps.toList = [] → meetB (b.cps.toList.headD 0) (z.cps.toList.headD 0) = false), ?_, ?_⟩
    · have em : ∀ {y : Str}, y.cps.toList = [] → y = "" := fun h => Str.ext' (Array.toList_inj.mp (by rw [h]; rfl))
      have bs : Blk " " := by show ∀ c ∈ (" " : Str).cps.toList, c ∈ SEP.cps.toList; decide +kernel
      refine ⟨_, rfl, rfl, _, rfl, ?_⟩
      by_cases hg : g = ""
      · refine sT hg ⟨_, rfl, rfl, _, rfl, ?_⟩
        by_cases hz0 : z = ""
        · exact nF hz0 (iteF ⟨g, rfl, x4, bg, lg, fun h => absurd (by rw [hz0]; rfl) h⟩)
        · refine nT hz0 ⟨_, rfl, _, rfl, b, z, rfl, bne, fun e => hz0 (em e), by omega, by omega, _, rfl, ?_⟩
          cases em2 : meetB (b.cps.toList.headD 0) (z.cps.toList.headD 0) with
          | true => exact iteT ⟨" ", rfl, x4, bs, by decide, fun _ h => absurd h (by decide +kernel)⟩
          | false => exact iteF ⟨g, rfl, x4, bg, lg, fun _ _ => rfl⟩
      · exact sF hg (iteF ⟨g, rfl, x4, bg, lg, fun _ e => absurd (em e) hg⟩)
    rintro σ' H5 ⟨g, rfl, x5, bg, lg, hg⟩
    refine ⟨fun σ' H' => ∃ due' : Int, σ' = [some (.ref l), some (.ref pw), some (.int (at_ : Nat)), some (.str x), some (.int due'), some (.str b), some (.bl pl), some (.int (0 + (i : Int))), some (.str z), some (.str g)] ∧ Ext l c H H' ∧ (i = at_ → due' = ((x.cps.toList.length + g.cps.toList.length : Nat) : Int)) ∧ (i ≠ at_ → due' = due), ?_, ?_⟩
    · refine ⟨_, rfl, _, rfl, rfl, _, rfl, ite2 (fun e => ?_) (fun e => ?_)⟩
      · have e2 : V.int (0 + (i : Int)) = V.int (at_ : Nat) := of_decide_eq_true e
        have e3 := V.int.inj e2
        refine ⟨_, rfl, _, rfl, x, g, rfl, rfl, small (by omega), _, rfl, small (by rw [Str.length_append]; omega), ⟨_, rfl, x5, fun _ => ?_, fun h => absurd (by omega) h⟩⟩
        rw [Str.length_append, len_list, len_list]
      · have e2 : ¬ V.int (0 + (i : Int)) = V.int (at_ : Nat) := by
          exact fun z => e (decide_eq_true z)
        exact ⟨due, rfl, x5, fun h => absurd (by rw [h, Int.zero_add]) e2, fun _ => rfl⟩
    rintro σ' H6 ⟨due', rfl, x6, hd1, hd2⟩
    refine ⟨_, rfl, _, rfl, x, g, rfl, rfl, small (by omega), _, rfl, x ++ g, z, rfl, rfl, small (by rw [Str.length_append]; omega), ?_⟩
    refine ⟨_, rfl, ⟨x ++ g ++ z, due', z, _, _, _, rfl, x6, by rw [Str.length_append, Str.length_append]; omega, ?_⟩⟩
    have exl : (x ++ g ++ z).cps.toList = x.cps.toList ++ g.cps.toList ++ z.cps.toList := by rw [app_list, app_list]
    rcases hz with ⟨h1, h2⟩ | ⟨h1, rfl⟩
    · have pz := rw_.pc z (List.mem_of_getElem? h2)
      refine ⟨fun _ => ⟨⟨pz.ne, pz.hi⟩, fun u ou hu => ?_⟩, fun hk => ?_, fun hk _ => ?_, fun e => by omega⟩
      · rw [exl, List.append_assoc, List.append_assoc]
        refine hq _ (okn_blk bg fun e => okn_hd pz.ne (hg pz.ne e)) (qn_noq (fun m => absurd (bg 39 m) (by decide +kernel)) (pz.qn u ou hu))
      · obtain ⟨d, m1, pr, dd⟩ := hA (by omega)
        obtain ⟨k, gk, tk⟩ := rw_.ts.get (i := i) (z := z) (by rw [List.getElem?_take_of_lt (by omega)]; exact h2)
        refine ⟨d ++ [(k, x.cps.toList.length + g.cps.toList.length)], ?_, by rw [exl]; exact pr.ts bg tk (hg pz.ne), due_step (by rw [map_len m1, List.length_take]; omega) dd hd1 hd2⟩
        show List.map _ _ = _
        rw [List.map_append, List.take_add_one, gk, show List.map (fun x => x.1) d = ks.take i from m1]; rfl
      · by_cases hk2 : i = ks.length
        · obtain ⟨d, m1, pr, dd⟩ := hA (by omega)
          have fz := rw_.fst z (by rw [← hk2]; exact h2)
          have al := rw_.at_le
          refine ⟨d ++ [(j, x.cps.toList.length + g.cps.toList.length)], ?_, by rw [exl]; exact pr.fst bg fz (hg pz.ne), due_step (by rw [map_len m1, List.length_take]; omega) dd hd1 hd2 (by omega)⟩
          show List.map _ _ = _
          rw [List.map_append, show List.map (fun x => x.1) d = ks.take i from m1, List.take_of_length_le (by omega)]; rfl
        · obtain ⟨d, m1, af, n, e1, e2⟩ := hB (by omega) (by omega)
          have al := rw_.at_le
          exact ⟨d, m1, by rw [exl]; exact af.more bg pz.ne (hg pz.ne), n, by rw [hd2 (by omega), e1], e2⟩
    · have e : (x ++ g ++ "").cps.toList = x.cps.toList ++ g.cps.toList := by rw [exl]; exact List.append_nil _
      have le := rw_.le
      have al := rw_.at_le
      have qx : QN N (x.cps.toList ++ g.cps.toList) := by
        refine hq _ (by have := okn_blk (b := b.cps.toList.headD 0) (u := []) bg (fun _ => okn_nil _); rwa [List.append_nil] at this) ?_
        have := qn_noq (N := N) (z := g.cps.toList) (u := []) (fun m => absurd (bg 39 m) (by decide +kernel)) (qn_nil N)
        rwa [List.append_nil] at this
      refine ⟨fun z => by omega, fun z => by omega, fun _ z => by omega, fun _ => ?_⟩
      rw [e]
      by_cases hk : ks.length = xs.length
      · obtain ⟨d, m1, pr, dd⟩ := hA (by omega)
        have ef := pr.fin bg
        have lg2 : (x.cps.toList ++ g.cps.toList).length = x.cps.toList.length + g.cps.toList.length := List.length_append
        rw [lg2] at ef
        obtain ⟨n, e1, e2⟩ := due_step (t := .fin) (by rw [map_len m1, List.length_take]; omega) dd hd1 hd2 (by omega)
        refine ⟨n, e1, ⟨_, [], by rw [List.append_nil]; exact ef, ?_, e2⟩, qx⟩
        show List.map _ _ = _
        rw [List.map_append, show List.map (fun x => x.1) d = ks.take i from m1, List.take_of_length_le (by omega), rw_.fin (List.getElem?_eq_none (by omega))]; rfl
      · obtain ⟨d, m1, af, n, e1, e2⟩ := hB (by omega) (by omega)
        obtain ⟨rest, er⟩ := af.fin bg
        exact ⟨n, by rw [hd2 (by omega), e1], ⟨d, rest, er, m1, e2⟩, qx⟩
  · rintro σ H2 ⟨x, due, b, o7, o8, o9, rfl, x2, lx, _, _, _, hC⟩
    rw [lm] at lx hC
    obtain ⟨n, rfl, hl2, hq⟩ := hC (by omega)
    refine ⟨_, rfl, _, rfl, small (by show 2 ≤ _; decide), fun p hp => ?_⟩
    exact q _ p x n (x2.new P0 hp) (SqT.of upd_same) hl2 hq (by omega)
end
end PK
namespace PK
open PySem PySem.Spec PyProof.Rows L2 _root_.TL
/-! isinstance of a caught error without fields -/
def rIsN0 (K : PySem.W.Frag) (a : Addr) (cls : Value) (d : Option Addr) : List V → Hp → VK → Prop := fun xs H Q =>
  ∃ (c : V) (cv : Value) (yes : Bool) (D : Addr), xs = [.ref a, c] ∧ (∀ u, RelV c u → u = cv) ∧ cls = .ref D ∧ d = none ∧ ExcC K D ∧ PySem.W.kitOne K (.ref D) cv = some yes ∧ Q (.bl yes) H
theorem call_isN0 {X : Cx} {a : Addr} {oe : Obj} {cls : Value} {d : Option Addr} {pn : List (Addr × Obj)} (hz : Zc cls d oe) (hf : ∃ vs, oe.data = .fields vs) : CallR (X.suite a ((a, oe) :: pn)) (.builtin "isinstance") (rIsN0 X.K a cls d) := by
  intro pins s σ H xs us Q I r h
  obtain ⟨c, cv, yes, D, rfl, hcv, rfl, rfl, C, hk, q⟩ := h
  exact call_isE C hz hf pins s σ H _ us Q I r ⟨c, cv, yes, rfl, hcv, hk, q⟩
/-- what isinstance says of the errors with a position; b: too deep -/
structure ErK (K : PySem.W.Frag) (C CB CD CL CT CP : Addr) (b : Bool) : Prop where
  c : ExcC K C
  x : XfC K C
  po : PySem.W.findIn K (.ref C) "position" = some none
  kB : PySem.W.kitOne K (.ref C) (.ref CB) = some (!b)
  kD : PySem.W.kitOne K (.ref C) (.ref CD) = some b
  kL : PySem.W.kitOne K (.ref C) (.ref CL) = some false
  kT : PySem.W.kitOne K (.ref C) (.ref CT) = some true
  kP : PySem.W.kitOne K (.ref C) (.ref CP) = some true
  kV : PySem.W.kitOne K (.ref C) (.type "ValueError") = some true
structure TxtB (K : PySem.W.Frag) (mg : Str → Option Value) (aS CL CP CB CD CT : Addr) : Prop extends TxtR K mg aS CL CP where
  gB : mg "BadTerm" = some (.ref CB)
  gD : mg "TooDeep" = some (.ref CD)
  gT : mg "TextError" = some (.ref CT)
  erB : ErK K CB CB CD CL CT CP false
  erD : ErK K CD CB CD CL CT CP true
  eBB : PySem.W.exmOne K (.ref CB) (.ref CB) = some true
  eDB : PySem.W.exmOne K (.ref CD) (.ref CB) = some false
  eDD : PySem.W.exmOne K (.ref CD) (.ref CD) = some true
  eLB : PySem.W.exmOne K (.ref CL) (.ref CB) = some false
  eLD : PySem.W.exmOne K (.ref CL) (.ref CD) = some false
  kLT : PySem.W.kitOne K (.ref CL) (.ref CT) = some false
  z_sum : mg "sum" = none
  z_max : mg "max" = none
theorem kit_ty {K : PySem.W.Frag} {C : Addr} {c : Value} {u : Value} (h : RelV (.ref C) u) : u = .ref C := h
def spErr (K : PySem.W.Frag) (CB CD CL CT CP : Addr) : Addr × Obj → Sp := fun p vs H Q _ => ∃ (name : Str) (b : Bool) (C dd : Addr) (n : Nat), vs = [.ref p.1, .str name] ∧ ErK K C CB CD CL CT CP b ∧ Zc (.ref C) (some dd) p.2 ∧ (∃ vs, p.2.data = .fields vs) ∧ H dd = some (.xd [("position", .int (n : Nat))]) ∧
  ∀ H' q, Same H H' → SqT K H' q [.str name, .int (n : Nat)] → Q (.ref q) H'
/-- what _law_told says of a reading -/
def toldOf : Except PErr Rm → Str × Nat
  | .ok _ => ("let", 0)
  | .error (b, q) => (if b then "deep" else "bad", q)
def spTold (K : PySem.W.Frag) : Sp := fun vs H Q _ => ∃ (dS : Addr) (x : Str) (sig : List (Str × Nat)), vs = [.ref dS, .str x] ∧ H dS = some (.dK (sigK sig)) ∧ x.length ≤ 100000 ∧
  (x.length ≤ 4000 → TkOk sig (toks x.cps.toList) ∧ ∀ H' p, Same H H' → SqT K H' p [.str (toldOf (pRead sig x.cps.toList)).1, .int ((toldOf (pRead sig x.cps.toList)).2 : Nat)] → Q (.ref p) H') ∧
  (4000 < x.length → ∀ H' p, Same H H' → SqT K H' p [.str "long", .int 0] → Q (.ref p) H')
section
variable {P : Program} {w : World} {K : PySem.W.Frag} {mg : Str → Option Value} {base : Heap} {aS CB CD CL CP CT : Addr}
abbrev s_law_error : Stmt := topS 40
theorem sc_law_error : FnScope ["e", "name", "kinds", "kind"] ["e", "name"] (defScope s_law_error) := ⟨rfl, rfl, rfl, by decide +kernel, rfl, by decide +kernel, by decide +kernel⟩
-- slots: 0:e 1:name 2:kinds 3:kind(comp)
abbrev s_law_told : Stmt := topS 41
theorem sc_law_told : FnScope ["signature", "text", "e"] ["signature", "text"] (defScope s_law_told) := ⟨rfl, rfl, rfl, by decide +kernel, rfl, by decide +kernel, by decide +kernel⟩
-- slots: 0:signature 1:text 2:e
theorem ok_error {f : Addr} {fd : FuncData} (F : Fun K "_law_error" "_law_error" s_law_error f fd) (T : TxtB K mg aS CL CP CB CD CT) : PKX.FnE P w K mg base 1 f fd ["e", "name"] (spErr K CB CD CL CT CP) := by
  refine PKX.of_body F sc_law_error (fun p vs H Q E h => ?_) (fun cdv A outer s H vs Q E p hot hr h => ?_)
  · obtain ⟨_, _, _, _, _, rfl, _⟩ := h
    rfl
  obtain ⟨name, b, C, dd, n, rfl, er, hz, hf, hd, q⟩ := h
  refine ⟨_, (pss_cons (ps_set (i := 2) sc_law_error.nd rfl (Or.inl rfl) (pe_lst (pa_cons (pe_callB (id := "isinstance") (PKX.call_isP (p := p) (List.mem_singleton.mpr rfl)) (by rfl) T.z_isinstance (by decide +kernel) (pa_cons (pv 0) (pa_cons (pe_glob (v := .ref CB) rfl T.gB rfl) pa_nil))) (pa_cons (pe_callB (id := "isinstance") (PKX.call_isP (p := p) (List.mem_singleton.mpr rfl)) (by rfl) T.z_isinstance (by decide +kernel) (pa_cons (pv 0) (pa_cons (pe_glob (v := .ref CD) rfl T.gD rfl) pa_nil))) (pa_cons (pe_callB (id := "isinstance") (PKX.call_isP (p := p) (List.mem_singleton.mpr rfl)) (by rfl) T.z_isinstance (by decide +kernel) (pa_cons (pv 0) (pa_cons (pe_glob (v := .ref CL) rfl T.gL rfl) pa_nil))) pa_nil)))))
    (pss_cons (ps_if (PW.pt (pw_or (pt_cmpR op_ne (pe_callB (PKH.sum_hot hot) (by rfl) T.z_sum (by decide +kernel) (pa_cons (PKH.lc_hot (own := [("kind", 3)]) (g := (gName 3)) hot sc_law_error.nd (pv 2) (blkOk_by (N := ["e", "name", "kinds", "kind"]) (sc := defScope s_law_error) (by decide +kernel)) (fun _ _ _ _ _ => (pg_name (i := 3) sc_law_error.nd rfl (Or.inl rfl))) (fun _ _ _ _ _ => pts_one (pt_val (pv 3))) (fun _ _ _ _ _ => pe_int)) pa_nil)) pe_int (nomark _)) (pw_or1 (pt_not (pt_val (pe_callB (id := "isinstance") (PKX.call_isP (p := p) (List.mem_singleton.mpr rfl)) (by rfl) T.z_isinstance (by decide +kernel) (pa_cons (pv 0) (pa_cons (pe_glob (v := .ref CT) rfl T.gT rfl) pa_nil)))))))) (pss_one (ps_ret (pe_tup (pa_cons pe_str (pa_cons pe_int pa_nil))))) pss_nil)
    (pss_cons (ps_if (PW.pt (pw_or (pt_not (pt_val (pe_callB (id := "isinstance") (PKX.call_isP (p := p) (List.mem_singleton.mpr rfl)) (by rfl) T.z_isinstance (by decide +kernel) (pa_cons (pv 0) (pa_cons (pe_glob (v := .ref CP) rfl T.gP rfl) pa_nil))))) (pw_or1 (pt_not (pt_val (pe_callB (id := "isinstance") (PKX.call_isP (p := p) (List.mem_singleton.mpr rfl)) (by rfl) T.z_isinstance (by decide +kernel) (pa_cons (pv 0) (pa_cons (pe_bltn (v := .ty "ValueError") (by rfl) T.z_ValueError (by decide +kernel) rfl) pa_nil)))))))) (pss_one (ps_ret (pe_tup (pa_cons pe_str (pa_cons pe_int pa_nil))))) pss_nil)
    (pss_one (ps_ret (pe_tup (pa_cons (pv 1) (pa_cons (PKX.pe_xfP (p := p) (List.mem_singleton.mpr rfl) (pv 0)) pa_nil)))))))), ?_⟩
  refine ⟨_, rfl, .ref CB, .ref CB, _, C, dd, _, rfl, hz, hf, fun u r => r, hd, er.c, er.kB, ?_⟩
  refine ⟨_, rfl, .ref CD, .ref CD, _, C, dd, _, rfl, hz, hf, fun u r => r, hd, er.c, er.kD, ?_⟩
  refine ⟨_, rfl, .ref CL, .ref CL, _, C, dd, _, rfl, hz, hf, fun u r => r, hd, er.c, er.kL, ?_⟩
  refine ⟨small (by show 3 ≤ _; decide), fun kp hkp => ?_⟩
  have hd1 := (same_new (o := .lst [.bl (!b), .bl b, .bl false]) hkp) _ _ hd
  have hk1 : (upd H kp (.lst [.bl (!b), .bl b, .bl false])) kp = some (.lst [.bl (!b), .bl b, .bl false]) := upd_same
  have sH1 : Same H (upd H kp (.lst [.bl (!b), .bl b, .bl false])) := same_new hkp
  generalize upd H kp (.lst [.bl (!b), .bl b, .bl false]) = H1 at hd1 hk1 sH1
  refine ⟨_, rfl, kp, rfl, ⟨_, SqL.of hk1⟩, fun D hD => ?_⟩
  have nD : kp ≠ D := ne_of_none hk1 hD
  refine ⟨fun i m H' => i ≤ 3 ∧ m = 3 - i ∧ H' = upd H1 D (.lst (((([!b, b, false] : List Bool).take i).filter id).map fun _ => V.int 1)), ⟨3, by decide, rfl, rfl⟩, ?_⟩
  rintro i m H' ⟨hi, rfl, rfl⟩
  have sq : ∀ l, SqL K (upd H1 D (.lst l)) kp [.bl (!b), .bl b, .bl false] := fun l => SqL.of (by rw [upd_ne nD]; exact hk1)
  match i, hi with
  | 3, _ =>
    left
    refine ⟨⟨_, sq _, Nat.le_refl _⟩, ?_⟩
    refine ⟨D, [1], rfl, SqL.of (by rw [upd_same]; cases b <;> rfl), rfl, _, rfl, ?_⟩
    have hdD : ∀ l, (upd H1 D (.lst l)) dd = some (.xd [("position", .int (n : Nat))]) := fun l => by rw [upd_ne (ne_of_none hd1 hD)]; exact hd1
    refine iteF ⟨_, rfl, .ref CT, .ref CT, _, C, dd, _, rfl, hz, hf, fun u r => r, hdD _, er.c, er.kT, _, rfl, iteF ?_⟩
    refine ⟨_, rfl, .ref CP, .ref CP, _, C, dd, _, rfl, hz, hf, fun u r => r, hdD _, er.c, er.kP, _, rfl, iteF ?_⟩
    refine ⟨_, rfl, .ty "ValueError", .type "ValueError", _, C, dd, _, rfl, hz, hf, fun u r => r, hdD _, er.c, er.kV, _, rfl, iteF ?_⟩
    refine ⟨_, rfl, _, rfl, C, dd, _, .int (n : Nat), rfl, hz, hf, er.x, er.po, hdD _, rfl, small (by show 2 ≤ _; decide), fun q0 hq0 => ?_⟩
    exact q _ q0 ((sH1.trans (same_new hD)).trans (same_new hq0)) (SqT.of upd_same)
  | 0, _ =>
    right
    refine ⟨⟨_, _, sq _, rfl⟩, fun H' => H' = upd H1 D (.lst (((([!b, b, false] : List Bool).take 1).filter id).map fun _ => V.int 1)), fun H' e => ⟨2, by decide, by decide, rfl, e⟩, ?_⟩
    rintro x H' ⟨rfl, y⟩
    have e := y _ (sq _)
    cases e
    refine ⟨rfl, _, rfl, _, rfl, ?_⟩
    cases b with
    | false => exact ⟨_, upd_same, by show 0 < 16777216; decide, by rw [upd_upd]; rfl⟩
    | true => exact rfl
  | 1, _ =>
    right
    refine ⟨⟨_, _, sq _, rfl⟩, fun H' => H' = upd H1 D (.lst (((([!b, b, false] : List Bool).take 2).filter id).map fun _ => V.int 1)), fun H' e => ⟨1, by decide, by decide, rfl, e⟩, ?_⟩
    rintro x H' ⟨rfl, y⟩
    have e := y _ (sq _)
    cases e
    refine ⟨rfl, _, rfl, _, rfl, ?_⟩
    cases b with
    | true => exact ⟨_, upd_same, by show 0 < 16777216; decide, by rw [upd_upd]; rfl⟩
    | false => exact rfl
  | 2, _ =>
    right
    refine ⟨⟨_, _, sq _, rfl⟩, fun H' => H' = upd H1 D (.lst (((([!b, b, false] : List Bool).take 3).filter id).map fun _ => V.int 1)), fun H' e => ⟨0, by decide, by decide, rfl, e⟩, ?_⟩
    rintro x H' ⟨rfl, y⟩
    have e := y _ (sq _)
    cases e
    refine ⟨rfl, _, rfl, _, rfl, ?_⟩
    cases b <;> exact rfl
theorem ok_told {f : Addr} {fd : FuncData} (F : Fun K "_law_told" "_law_told" s_law_told f fd) (T : TxtB K mg aS CL CP CB CD CT) (C_read_term : CalR P w K mg base 128 "read_term" (spRead K CB CD CL)) (C_law_error : PKX.CalE P w K mg base 1 "_law_error" (spErr K CB CD CL CT CP)) : FnOk P w K mg base CX0 129 f fd ["signature", "text"] (spTold K) := by
  refine F.ok sc_law_told (fun vs H Q E h => ?_) (fun cdv A outer s H vs Q E hr h => ?_)
  · obtain ⟨_, _, _, rfl, _⟩ := h
    rfl
  obtain ⟨dS, x, sig, rfl, hS, hx, q1, q2⟩ := h
  refine ⟨_, (pss_cons (PKN.ps_try_row rfl rfl sc_law_told.nd takes0 (fun W pn xe tk _ => pss_one (ps_expr (pe_crS C_read_term tk hr (by decide) rfl (pa_cons (pv 0) (pa_cons (pv 1) pa_nil))))) (.cons (i := 2) (c := .ref CB) rfl rfl ⟨rfl, by decide, .inl T.gB⟩ (fun a oe cls d pn hz hf => pss_one (ps_ret (PKX.pe_cE C_law_error hz hf hr (by decide) rfl (pa_cons (pv 2) (pa_cons pe_str pa_nil))))) (.cons (i := 2) (c := .ref CD) rfl rfl ⟨rfl, by decide, .inl T.gD⟩ (fun a oe cls d pn hz hf => pss_one (ps_ret (PKX.pe_cE C_law_error hz hf hr (by decide) rfl (pa_cons (pv 2) (pa_cons pe_str pa_nil))))) (.cons (i := 2) (c := .ref CL) rfl rfl ⟨rfl, by decide, .inl T.gL⟩ (fun a oe cls d pn hz hf => pss_one (ps_ret (pe_ifExp (PW.pt (pw_and (pt_val (pe_callB (id := "isinstance") (call_isN0 hz.zc hf) (by rfl) T.z_isinstance (by decide +kernel) (pa_cons (pv 2) (pa_cons (pe_glob (v := .ref CP) rfl T.gP rfl) pa_nil)))) (pw_and1 (pt_not (pt_val (pe_callB (id := "isinstance") (call_isN0 hz.zc hf) (by rfl) T.z_isinstance (by decide +kernel) (pa_cons (pv 2) (pa_cons (pe_glob (v := .ref CT) rfl T.gT rfl) pa_nil)))))))) (pe_tup (pa_cons pe_str (pa_cons pe_int pa_nil))) (pe_tup (pa_cons pe_str (pa_cons pe_int pa_nil)))))) .nil))))
    (pss_one (ps_ret (pe_tup (pa_cons pe_str (pa_cons pe_int pa_nil)))))), ?_⟩
  refine ⟨_, rfl, _, rfl, dS, x, sig, rfl, hS, hx, fun hx4 => ?_, fun hx4 => ?_⟩
  · obtain ⟨ok, q⟩ := q1 hx4
    refine ⟨ok, ?_⟩
    cases hp : pRead sig x.cps.toList with
    | ok t =>
      rw [hp] at q
      intro v H' s1 dv
      exact ⟨small (by show 2 ≤ _; decide), fun p hp => q _ p (s1.trans (same_new hp)) (SqT.of upd_same)⟩
    | error z =>
      obtain ⟨b, n⟩ := z
      rw [hp] at q
      intro d H' s1 hd
      cases b with
      | false => exact ⟨true, T.eBB, fun _ a ha => ⟨_, rfl, fun oe hz hf => ⟨"bad", false, CB, d, n, rfl, T.erB, hz, hf, hd, fun H2 q0 s2 hq => q _ q0 (s1.trans s2) hq⟩⟩, fun z => nomatch z⟩
      | true => exact ⟨false, T.eDB, (fun z => Bool.noConfusion z), fun _ => ⟨true, T.eDD, fun _ a ha => ⟨_, rfl, fun oe hz hf => ⟨"deep", true, CD, d, n, rfl, T.erD, hz, hf, hd, fun H2 q0 s2 hq => q _ q0 (s1.trans s2) hq⟩⟩, fun z => nomatch z⟩⟩
  · refine ⟨false, T.eLB, (fun z => Bool.noConfusion z), fun _ => ⟨false, T.eLD, (fun z => Bool.noConfusion z), fun _ => ⟨true, T.eL, fun _ a ha => ?_, fun z => nomatch z⟩⟩⟩
    refine ⟨_, rfl, .ref CP, .ref CP, true, CL, rfl, fun u ru => ru, rfl, rfl, T.cE, T.kP, _, rfl, iteT ⟨_, rfl, .ref CT, .ref CT, false, CL, rfl, fun u ru => ru, rfl, rfl, T.cE, T.kLT, _, rfl, iteT ?_⟩⟩
    exact ⟨small (by show 2 ≤ _; decide), fun p hp => q2 hx4 _ p (same_new hp) (SqT.of upd_same)⟩
end
end PK
namespace PK
open PySem L2 _root_.TL
/-! invalid pieces, the places of signs, what stands behind a term -/
def spInv : Sp := fun vs H Q _ => ∃ (l c pw : Addr) (ws N : List Str), vs = [.ref l, .ref pw] ∧ Pool H l c ∧ Wl H l pw ws ∧ ws ≠ [] ∧ (∀ w ∈ ws, w ∈ N) ∧ ∀ H' z, Ext l c H H' → Bp N z → Q (.str z) H'
def spSpots (K : PySem.W.Frag) : Sp := fun vs H Q _ => ∃ (pr ps : Addr) (xs : List Str) (y : Str), vs = [.ref pr, .ref ps] ∧ H pr = some (.lst (xs.map V.str)) ∧ H ps = some (.lst [.str y]) ∧ xs.length ≤ 1000 ∧
  ∀ H' D (is : List Nat), Same H H' → H' D = some (.lst (is.map fun i => V.int (i : Nat))) → H D = none → is.length ≤ xs.length → (∀ i ∈ is, xs[i]? = some y) → Q (.ref D) H'
def spAfter : Sp := fun vs H Q _ => ∃ (l c : Addr), vs = [.ref l] ∧ Pool H l c ∧ ∀ H' z, Ext l c H H' → z ∈ ([")", "}", "5", "'w", "(", "{", "$w", "@3"] : List Str) → Q (.str z) H'
theorem pick {K : PySem.W.Frag} {H : Hp} {D : Addr} {xs : List Str} {d : Int} {Q : VK} (hD : H D = some (.lst (xs.map V.str))) (h0 : 0 ≤ d) (h1 : d < (xs.length : Nat)) (q : ∀ z ∈ xs, Q (.str z) H) : rIxL K (.ref D) (.int d) H Q := by
  obtain ⟨j, rfl⟩ : ∃ j : Nat, d = j := ⟨d.toNat, by omega⟩
  have hj : j < xs.length := by omega
  exact ⟨D, _, j, _, rfl, rfl, SqL.of hD, atI_nat (by rw [List.getElem?_map, List.getElem?_eq_getElem hj]; rfl), q _ (List.getElem_mem hj)⟩
theorem cut_to (z : Str) (n : Nat) : (cutS z none (some (n : Nat))).cps.toList = z.cps.toList.take n := by
  have e : z.length = z.cps.size := rfl
  unfold cutS HT.sIx
  simp [show ¬ ((n : Int) < 0) by omega, e]
section
variable {P : Program} {w : World} {K : PySem.W.Frag} {mg : Str → Option Value} {base : Heap} {aS CB CD CL CP CT : Addr}
abbrev s_law_invalid : Stmt := topS 42
theorem sc_law_invalid : FnScope ["pool", "words", "kind", "word", "rows", "long", "signs"] ["pool", "words"] (defScope s_law_invalid) := ⟨rfl, rfl, rfl, by decide +kernel, rfl, by decide +kernel, by decide +kernel⟩
-- slots: 0:pool 1:words 2:kind 3:word 4:rows 5:long 6:signs
abbrev s_law_spots : Stmt := topS 43
theorem sc_law_spots : FnScope ["words", "signs", "k"] ["words", "signs"] (defScope s_law_spots) := ⟨rfl, rfl, rfl, by decide +kernel, rfl, by decide +kernel, by decide +kernel⟩
-- slots: 0:words(cell) 1:signs(cell) 2:k(comp)
abbrev s_law_after : Stmt := topS 45
theorem sc_law_after : FnScope ["pool"] ["pool"] (defScope s_law_after) := ⟨rfl, rfl, rfl, by decide +kernel, rfl, by decide +kernel, by decide +kernel⟩
-- slots: 0:pool
theorem ok_inv {f : Addr} {fd : FuncData} (F : Fun K "_law_invalid" "_law_invalid" s_law_invalid f fd) (T : TxtB K mg aS CL CP CB CD CT) (C_law_take : C8.Cal P w K mg base 2 "_law_take" (spTake 2) []) : FnOk P w K mg base CX0 3 f fd ["pool", "words"] spInv := by
  refine F.ok sc_law_invalid (fun vs H Q E h => ?_) (fun cdv A outer s H vs Q E hr h => ?_)
  · obtain ⟨_, _, _, _, _, rfl, _⟩ := h
    rfl
  obtain ⟨l, c, pw, ws, N, rfl, P0, W, nw, hN, q⟩ := h
  refine ⟨_, (pss_cons (ps_set (i := 2) sc_law_invalid.nd rfl (Or.inl rfl) (C8.pe_c C_law_take hr (by decide) rfl (pa_cons (pv 0) (pa_cons pe_int pa_nil))))
    (pss_cons (ps_set (i := 3) sc_law_invalid.nd rfl (Or.inl rfl) (pe_ix ix_list (pv 1) (C8.pe_c C_law_take hr (by decide) rfl (pa_cons (pv 0) (pa_cons (pe_callB call_len_seq (by rfl) T.z_len (by decide +kernel) (pa_cons (pv 1) pa_nil)) pa_nil))) (fun _ _ => rfl)))
    (pss_cons (ps_if (pt_cmpR op_eq (pv 2) pe_int (nomark _)) (pss_cons (ps_set (i := 4) sc_law_invalid.nd rfl (Or.inl rfl) (pe_lst (pa_cons (pe_op op_add_str pe_str (pe_callTy call_str_int (by rfl) T.z_str (by decide +kernel) (pa_cons (C8.pe_c C_law_take hr (by decide) rfl (pa_cons (pv 0) (pa_cons pe_int pa_nil))) pa_nil))) (pa_cons pe_str (pa_cons pe_str (pa_cons (pe_callTy call_str_int (by rfl) T.z_str (by decide +kernel) (pa_cons (pe_op op_add (pe_op op_pow pe_int pe_int) (C8.pe_c C_law_take hr (by decide) rfl (pa_cons (pv 0) (pa_cons pe_int pa_nil)))) pa_nil)) (pa_cons (pe_op op_add_str pe_str (pv 3)) pa_nil)))))))
    (pss_one (ps_ret (pe_ix ix_list (pv 4) (C8.pe_c C_law_take hr (by decide) rfl (pa_cons (pv 0) (pa_cons pe_int pa_nil))) (fun _ _ => rfl))))) pss_nil)
    (pss_cons (ps_if (pt_cmpR op_eq (pv 2) pe_int (nomark _)) (pss_cons (ps_set (i := 4) sc_law_invalid.nd rfl (Or.inl rfl) (pe_lst (pa_cons pe_str (pa_cons (pe_op op_add_str pe_str (pe_callTy call_str_int (by rfl) T.z_str (by decide +kernel) (pa_cons (C8.pe_c C_law_take hr (by decide) rfl (pa_cons (pv 0) (pa_cons pe_int pa_nil))) pa_nil))) (pa_cons (pe_op op_add_str pe_str (pe_callTy call_str_int (by rfl) T.z_str (by decide +kernel) (pa_cons (pe_op op_add (pe_op op_pow pe_int pe_int) (C8.pe_c C_law_take hr (by decide) rfl (pa_cons (pv 0) (pa_cons pe_int pa_nil)))) pa_nil))) (pa_cons pe_str (pa_cons (pe_op op_add_str pe_str (pv 3)) pa_nil)))))))
    (pss_one (ps_ret (pe_ix ix_list (pv 4) (C8.pe_c C_law_take hr (by decide) rfl (pa_cons (pv 0) (pa_cons pe_int pa_nil))) (fun _ _ => rfl))))) pss_nil)
    (pss_cons (ps_set (i := 5) sc_law_invalid.nd rfl (Or.inl rfl) (pe_slice sl_str (pe_op op_add_str (pv 3) pe_str) po_none (po_some pe_int)))
    (pss_cons (ps_if (pt_cmpR op_eq (pv 2) pe_int (nomark _)) (pss_one (ps_ret (pe_op op_add_str pe_str (pe_ix ix_list (pe_lst (pa_cons pe_str (pa_cons (pe_op op_add_str pe_str (pv 3)) (pa_cons (pe_op op_add_str pe_str (pv 3)) (pa_cons (pv 5) (pa_cons (pe_op op_add_str pe_str (pv 3)) pa_nil)))))) (C8.pe_c C_law_take hr (by decide) rfl (pa_cons (pv 0) (pa_cons pe_int pa_nil))) (fun _ _ => rfl))))) pss_nil)
    (pss_cons (ps_if (pt_cmpR op_eq (pv 2) pe_int (nomark _)) (pss_one (ps_ret (pe_op op_add_str pe_str (pe_ix ix_list (pe_lst (pa_cons pe_str (pa_cons (pe_op op_add_str pe_str (pv 3)) (pa_cons (pe_op op_add_str pe_str (pv 3)) (pa_cons (pv 5) (pa_cons (pe_op op_add_str pe_str (pv 3)) pa_nil)))))) (C8.pe_c C_law_take hr (by decide) rfl (pa_cons (pv 0) (pa_cons pe_int pa_nil))) (fun _ _ => rfl))))) pss_nil)
    (pss_cons (ps_if (pt_cmpR op_eq (pv 2) pe_int (nomark _)) (pss_one (ps_ret (pe_ix ix_list (pe_lst (pa_cons (pe_op op_add_str pe_str (pv 3)) (pa_cons (pv 5) (pa_cons pe_str pa_nil)))) (C8.pe_c C_law_take hr (by decide) rfl (pa_cons (pv 0) (pa_cons pe_int pa_nil))) (fun _ _ => rfl)))) pss_nil)
    (pss_cons (ps_set (i := 6) sc_law_invalid.nd rfl (Or.inl rfl) pe_str)
    (pss_one (ps_ret (pe_ix ix_str (pv 6) (C8.pe_c C_law_take hr (by decide) rfl (pa_cons (pv 0) (pa_cons (pe_callB call_len_str (by rfl) T.z_len (by decide +kernel) (pa_cons (pv 6) pa_nil)) pa_nil))) (fun _ _ => rfl))))))))))))), ?_⟩
  refine vTake rfl P0 (by decide) (by decide) fun d H1 d0 d6 x1 => ?_
  have W1 := W.ext x1
  have llen := W1.le
  have lw : 0 < ws.length := List.length_pos_iff.mpr nw
  refine ⟨_, rfl, _, rfl, ⟨_, rfl, pw, ws.map V.str, rfl, .inl (SqL.of W1.at_), ⟨l, c, _, False, rfl, x1.pool, by rw [List.length_map]; omega, by rw [List.length_map]; omega, .inl (Nat.le_refl 2), fun a H2 a0 a1 x2 => ?_⟩⟩⟩
  rw [List.length_map] at a1
  refine (W1.ext x2).ix a0 a1 fun y hy => ?_
  have wy := W.wd y hy
  have ny := hN y hy
  have x12 := x1.trans x2
  have hi := wy.hi
  have p9 : CPow 10 9 := ⟨by decide, by decide, by decide⟩
  have p15 : CPow 10 15 := ⟨by decide, by decide, by decide⟩
  have lt0 : ∀ m : Int, 0 ≤ m → ∃ k : Nat, m = k := fun m h => ⟨m.toNat, by omega⟩
  have sl : ∀ m : Int, 0 ≤ m → m < 2000000000000000 → m.natAbs.log2 < 1920 := fun m h0 h1 => by
    by_cases z : m.natAbs = 0
    · rw [z]; decide
    · exact (Nat.log2_lt z).mpr (Nat.lt_of_lt_of_le (m := 2 ^ 64) (by omega) (Nat.pow_le_pow_right (by decide) (by decide)))
  refine ⟨_, rfl, rfl, _, rfl, ite2 (fun e => ?_) (fun e => ⟨_, rfl, rfl, _, rfl, ite2 (fun e => ?_) (fun e => ?_)⟩)⟩
  · refine vTake rfl x12.pool (by decide) (by decide) fun i H3 i0 i1 x3 => ?_
    obtain ⟨i, rfl⟩ := lt0 i i0
    have li := txt_len (n := (i : Nat)) (by omega)
    refine ⟨_, rfl, sl _ i0 (by omega), "0", txt (i : Nat), rfl, rfl, small (by show 1 + _ ≤ _; omega), ?_⟩
    refine ⟨_, _, rfl, rfl, p15, vTake rfl x3.pool (by decide) (by decide) fun j H4 j0 j1 x4 => ?_⟩
    obtain ⟨j, rfl⟩ := lt0 j j0
    have ej : (10 : Int) ^ (15 : Int).toNat + (j : Nat) = ((10 ^ 15 + j : Nat) : Int) := by show (1000000000000000 : Int) + (j : Nat) = _; omega
    refine ⟨_, _, rfl, rfl, ⟨_, rfl, by rw [ej]; exact sl _ (by omega) (by omega), ?_⟩⟩
    rw [ej]
    refine ⟨_, rfl, "-0", y, rfl, rfl, small (by show 2 + y.length ≤ _; omega), small (by show 5 ≤ _; decide), fun D hD => ⟨_, rfl, ?_⟩⟩
    have x5 := (x12.trans (x3.trans x4)).new (o := .lst (([("0" ++ txt (i : Nat) : Str), "-0", "-", txt ((10 ^ 15 + j : Nat) : Int), "-0" ++ y] : List Str).map V.str)) P0 hD
    refine vTake rfl x5.pool (by decide) (by decide) fun k H6 k0 k1 x6 => ?_
    refine pick (xs := ([("0" ++ txt (i : Nat) : Str), "-0", "-", txt ((10 ^ 15 + j : Nat) : Int), "-0" ++ y] : List Str)) (x6.keep _ _ ((x12.trans (x3.trans x4)).pool.ne hD).1 upd_same) k0 (by show k < 5; omega) fun z hz => q _ z (x5.trans x6) ?_
    simp only [List.mem_cons, List.not_mem_nil, or_false] at hz
    rcases hz with rfl | rfl | rfl | rfl | rfl
    · exact bp0_zero (by omega)
    · exact bp0_minus0
    · exact bp0_minus
    · exact bp0_big (by omega) (by omega)
    · exact bp0_minusw wy
  · refine vTake rfl x12.pool (by decide) (by decide) fun i H3 i0 i1 x3 => ?_
    obtain ⟨i, rfl⟩ := lt0 i i0
    have li := txt_len (n := (i : Nat)) (by omega)
    refine ⟨_, rfl, sl _ i0 (by omega), "@0", txt (i : Nat), rfl, rfl, small (by show 2 + _ ≤ _; omega), ?_⟩
    refine ⟨_, _, rfl, rfl, p9, vTake rfl x3.pool (by decide) (by decide) fun j H4 j0 j1 x4 => ?_⟩
    obtain ⟨j, rfl⟩ := lt0 j j0
    have ej : (10 : Int) ^ (9 : Int).toNat + (j : Nat) = ((10 ^ 9 + j : Nat) : Int) := by show (1000000000 : Int) + (j : Nat) = _; omega
    have lj := txt_len (n := ((10 ^ 9 + j : Nat) : Int)) (by omega)
    refine ⟨_, _, rfl, rfl, ⟨_, rfl, by rw [ej]; exact sl _ (by omega) (by omega), ?_⟩⟩
    rw [ej]
    refine ⟨"@", txt ((10 ^ 9 + j : Nat) : Int), rfl, rfl, small (by show 1 + _ ≤ _; omega), ?_⟩
    refine ⟨_, rfl, "@", y, rfl, rfl, small (by show 1 + y.length ≤ _; omega), small (by show 5 ≤ _; decide), fun D hD => ⟨_, rfl, ?_⟩⟩
    have x5 := (x12.trans (x3.trans x4)).new (o := .lst ((["@", ("@0" ++ txt (i : Nat) : Str), "@" ++ txt ((10 ^ 9 + j : Nat) : Int), "@-1", "@" ++ y] : List Str).map V.str)) P0 hD
    refine vTake rfl x5.pool (by decide) (by decide) fun k H6 k0 k1 x6 => ?_
    refine pick (xs := (["@", ("@0" ++ txt (i : Nat) : Str), "@" ++ txt ((10 ^ 9 + j : Nat) : Int), "@-1", "@" ++ y] : List Str)) (x6.keep _ _ ((x12.trans (x3.trans x4)).pool.ne hD).1 upd_same) k0 (by show k < 5; omega) fun z hz => q _ z (x5.trans x6) ?_
    simp only [List.mem_cons, List.not_mem_nil, or_false] at hz
    rcases hz with rfl | rfl | rfl | rfl | rfl
    · exact bp1_at
    · exact bp1_zero (by omega)
    · exact bp1_big (by omega) (by omega)
    · exact bp1_minus
    · exact bp1_word wy
  · refine ⟨_, rfl, y, "nopqrstuvwxyz", rfl, rfl, small (by show y.length + 13 ≤ _; omega), ?_⟩
    refine ⟨_, rfl, _, rfl, small (by rw [Str.length_append]; show y.length + 13 ≤ _; omega), ?_⟩
    have eL : (cutS (y ++ "nopqrstuvwxyz") none (some (13 : Int))).cps.toList = LNG y := by
      rw [show (13 : Int) = ((13 : Nat) : Int) from rfl, cut_to, app_list]; rfl
    generalize cutS (y ++ "nopqrstuvwxyz") none (some (13 : Int)) = lg at eL
    have lL := lng_len wy
    have oL := lng_oth wy
    have ll : lg.length = 13 := by rw [len_list, eL, lL]
    refine ⟨_, rfl, rfl, _, rfl, ite2 (fun e => ?_) (fun e => ⟨_, rfl, rfl, _, rfl, ite2 (fun e => ?_) (fun e => ⟨_, rfl, rfl, _, rfl, ite2 (fun e => ?_) (fun e => ?_)⟩)⟩)⟩
    · refine ⟨_, rfl, "0", y, rfl, rfl, small (by show 1 + y.length ≤ _; omega), _, rfl, "_", y, rfl, rfl, small (by show 1 + y.length ≤ _; omega), _, rfl, _, rfl, "'", y, rfl, rfl, small (by show 1 + y.length ≤ _; omega), small (by show 5 ≤ _; decide), fun D hD => ?_⟩
      have x5 := x12.new (o := .lst (([("" : Str), "0" ++ y, "_" ++ y, lg, "'" ++ y] : List Str).map V.str)) P0 hD
      refine vTake rfl x5.pool (by decide) (by decide) fun k H6 k0 k1 x6 => ?_
      refine pick (xs := [("" : Str), "0" ++ y, "_" ++ y, lg, "'" ++ y]) (x6.keep _ _ (x12.pool.ne hD).1 upd_same) k0 (by show k < 5; omega) fun z hz => ?_
      have hc : (39 : Nat) ∈ ([39, 36] : List Nat) := by decide
      have pl : ∀ z : Str, ("'" ++ z).cps.toList = 39 :: z.cps.toList := fun z => pre_list (by decide +kernel) z
      have p0 : ("0" ++ y).cps.toList = 48 :: y.cps.toList := pre_list (by decide +kernel) y
      have p_ : ("_" ++ y).cps.toList = 95 :: y.cps.toList := pre_list (by decide +kernel) y
      have yl : y.cps.toList.length = y.length := (len_list y).symm
      have nl : z.length ≤ 13 := by
        simp only [List.mem_cons, List.not_mem_nil, or_false] at hz
        rcases hz with rfl | rfl | rfl | rfl | rfl
        · decide
        · rw [Str.length_append]; show 1 + _ ≤ _; omega
        · rw [Str.length_append]; show 1 + _ ≤ _; omega
        · omega
        · rw [Str.length_append]; show 1 + _ ≤ _; omega
      refine ⟨"'", z, rfl, rfl, small (by show 1 + z.length ≤ _; omega), q _ _ (x5.trans x6) ?_⟩
      simp only [List.mem_cons, List.not_mem_nil, or_false] at hz
      rcases hz with rfl | rfl | rfl | rfl | rfl
      · exact bp_pre (p := "") hc (pl "") (by decide) (wd_long (.inl (by decide))) (by decide)
      · exact bp_pre (p := "") hc ((pl _).trans (by rw [p0])) (fun a ha => (List.mem_cons.mp ha).elim (fun z => by rw [z]; decide +kernel) (wy.al a)) (wd_no (by show 48 ∉ _; decide +kernel)) (by rw [List.length_cons]; omega)
      · exact bp_pre (p := "") hc ((pl _).trans (by rw [p_])) (fun a ha => (List.mem_cons.mp ha).elim (fun z => by rw [z]; decide +kernel) (wy.al a)) (wd_no (by show 95 ∉ _; decide +kernel)) (by rw [List.length_cons]; omega)
      · exact bp_pre (p := "") hc ((pl _).trans (by rw [eL])) oL (wd_long (.inr (by omega))) (by omega)
      · exact bp_two (p := "") hc wy ny ((pl _).trans (by rw [pl]))
    · refine ⟨_, rfl, "0", y, rfl, rfl, small (by show 1 + y.length ≤ _; omega), _, rfl, "_", y, rfl, rfl, small (by show 1 + y.length ≤ _; omega), _, rfl, _, rfl, "$", y, rfl, rfl, small (by show 1 + y.length ≤ _; omega), small (by show 5 ≤ _; decide), fun D hD => ?_⟩
      have x5 := x12.new (o := .lst (([("" : Str), "0" ++ y, "_" ++ y, lg, "$" ++ y] : List Str).map V.str)) P0 hD
      refine vTake rfl x5.pool (by decide) (by decide) fun k H6 k0 k1 x6 => ?_
      refine pick (xs := [("" : Str), "0" ++ y, "_" ++ y, lg, "$" ++ y]) (x6.keep _ _ (x12.pool.ne hD).1 upd_same) k0 (by show k < 5; omega) fun z hz => ?_
      have hc : (36 : Nat) ∈ ([39, 36] : List Nat) := by decide
      have pl : ∀ z : Str, ("$" ++ z).cps.toList = 36 :: z.cps.toList := fun z => pre_list (by decide +kernel) z
      have p0 : ("0" ++ y).cps.toList = 48 :: y.cps.toList := pre_list (by decide +kernel) y
      have p_ : ("_" ++ y).cps.toList = 95 :: y.cps.toList := pre_list (by decide +kernel) y
      have yl : y.cps.toList.length = y.length := (len_list y).symm
      have nl : z.length ≤ 13 := by
        simp only [List.mem_cons, List.not_mem_nil, or_false] at hz
        rcases hz with rfl | rfl | rfl | rfl | rfl
        · decide
        · rw [Str.length_append]; show 1 + _ ≤ _; omega
        · rw [Str.length_append]; show 1 + _ ≤ _; omega
        · omega
        · rw [Str.length_append]; show 1 + _ ≤ _; omega
      refine ⟨"$", z, rfl, rfl, small (by show 1 + z.length ≤ _; omega), q _ _ (x5.trans x6) ?_⟩
      simp only [List.mem_cons, List.not_mem_nil, or_false] at hz
      rcases hz with rfl | rfl | rfl | rfl | rfl
      · exact bp_pre (p := "") hc (pl "") (by decide) (wd_long (.inl (by decide))) (by decide)
      · exact bp_pre (p := "") hc ((pl _).trans (by rw [p0])) (fun a ha => (List.mem_cons.mp ha).elim (fun z => by rw [z]; decide +kernel) (wy.al a)) (wd_no (by show 48 ∉ _; decide +kernel)) (by rw [List.length_cons]; omega)
      · exact bp_pre (p := "") hc ((pl _).trans (by rw [p_])) (fun a ha => (List.mem_cons.mp ha).elim (fun z => by rw [z]; decide +kernel) (wy.al a)) (wd_no (by show 95 ∉ _; decide +kernel)) (by rw [List.length_cons]; omega)
      · exact bp_pre (p := "") hc ((pl _).trans (by rw [eL])) oL (wd_long (.inr (by omega))) (by omega)
      · exact bp_two (p := "") hc wy ny ((pl _).trans (by rw [pl]))
    · refine ⟨_, rfl, "_", y, rfl, rfl, small (by show 1 + y.length ≤ _; omega), _, rfl, small (by show 3 ≤ _; decide), fun D hD => ?_⟩
      have x5 := x12.new (o := .lst (([("_" ++ y : Str), lg, "_"] : List Str).map V.str)) P0 hD
      refine vTake rfl x5.pool (by decide) (by decide) fun k H6 k0 k1 x6 => ?_
      refine pick (xs := [("_" ++ y : Str), lg, "_"]) (x6.keep _ _ (x12.pool.ne hD).1 upd_same) k0 (by show k < 3; omega) fun z hz => q _ z (x5.trans x6) ?_
      simp only [List.mem_cons, List.not_mem_nil, or_false] at hz
      rcases hz with rfl | rfl | rfl
      · exact bp_under wy
      · exact bp_long wy eL
      · exact bp_under1
    · refine ⟨_, rfl, ⟨_, rfl, _, rfl, SGS, rfl, small (by decide), ⟨l, c, _, False, rfl, x12.pool, by decide, by decide, .inl (Nat.le_refl 2), fun a H3 a0 a1 x3 => ?_⟩⟩⟩
      obtain ⟨a, rfl⟩ := lt0 a a0
      have ha : a < SGS.cps.toList.length := by rw [← len_list]; omega
      exact ⟨SGS, (a : Nat), SGS.cps.toList[a], rfl, rfl, small (by decide), atI_nat (List.getElem?_eq_getElem ha), q _ _ (x12.trans x3) (bp_sign (List.getElem_mem ha) rfl)⟩
end
end PK
namespace PK
open PySem L2 _root_.TL
section
variable {P : Program} {w : World} {K : PySem.W.Frag} {mg : Str → Option Value} {base : Heap} {aS CB CD CL CP CT : Addr}
theorem ok_after {f : Addr} {fd : FuncData} (F : Fun K "_law_after" "_law_after" s_law_after f fd) (C_law_take : C8.Cal P w K mg base 2 "_law_take" (spTake 2) []) : FnOk P w K mg base CX0 3 f fd ["pool"] spAfter := by
  refine F.ok sc_law_after (fun vs H Q E h => ?_) (fun cdv A outer s H vs Q E hr h => ?_)
  · obtain ⟨_, _, rfl, _⟩ := h
    rfl
  obtain ⟨l, c, rfl, P0, q⟩ := h
  refine ⟨_, (pss_one (ps_ret (pe_ix ix_list (pe_lst (pa_cons pe_str (pa_cons pe_str (pa_cons pe_str (pa_cons pe_str (pa_cons pe_str (pa_cons pe_str (pa_cons pe_str (pa_cons pe_str pa_nil))))))))) (C8.pe_c C_law_take hr (by decide) rfl (pa_cons (pv 0) (pa_cons pe_int pa_nil))) (fun _ _ => rfl)))), ?_⟩
  refine ⟨small (by show 8 ≤ _; decide), fun D hD => ?_⟩
  have x1 := (Ext.refl P0).new (o := .lst (([")", "}", "5", "'w", "(", "{", "$w", "@3"] : List Str).map V.str)) P0 hD
  refine vTake rfl x1.pool (by decide) (by decide) fun d H2 d0 d1 x2 => ?_
  exact pick (xs := [")", "}", "5", "'w", "(", "{", "$w", "@3"]) (x2.keep _ _ (P0.ne hD).1 upd_same) d0 (by show d < 8; omega) fun z hz => q _ z (x1.trans x2) hz
theorem ok_spots {f : Addr} {fd : FuncData} (F : Fun K "_law_spots" "_law_spots" s_law_spots f fd) (T : TxtB K mg aS CL CP CB CD CT) : FnOk P w K mg base CX0 1 f fd ["words", "signs"] (spSpots K) := by
  refine F.ok sc_law_spots (fun vs H Q E h => ?_) (fun cdv A outer s H vs Q E hr h => ?_)
  · obtain ⟨_, _, _, _, rfl, _⟩ := h
    rfl
  obtain ⟨pr, ps, xs, y, rfl, hp, hs, hl, q⟩ := h
  refine ⟨_, (pss_one (ps_ret (pe_lc (own := [("k", 2)]) (g := (gName 2)) (by rfl) sc_law_spots.nd (pi_range1 (by rfl) T.z_range (pa_cons (pe_callB call_len_seq (by rfl) T.z_len (by decide +kernel) (pa_cons (pv 0) pa_nil)) pa_nil)) (blkOk_by (N := ["words", "signs", "k"]) (sc := defScope s_law_spots) (by decide +kernel)) (fun _ _ _ _ _ => (pg_name (i := 2) sc_law_spots.nd rfl (Or.inl rfl))) (fun _ _ _ _ _ => pts_one (pt_cmpR (r := rIn K false) op_in_seq (pe_ix (r := rIxL K) ix_list (pv 0) (pv 2) (fun _ _ => rfl)) (pv 1) rfl)) (fun _ _ _ _ _ => (pv 2))))), ?_⟩
  refine ⟨_, rfl, pr, _, rfl, .inl (SqL.of hp), xs.length, by rw [List.length_map], by omega, by omega, fun D hD => ?_⟩
  have npr : pr ≠ D := ne_of_none hp hD
  have nps : ps ≠ D := ne_of_none hs hD
  refine ⟨fun i m H' => i ≤ xs.length ∧ m = xs.length - i ∧ ∃ is : List Nat, H' = upd H D (.lst (is.map fun i => V.int (i : Nat))) ∧ is.length ≤ i ∧ ∀ i ∈ is, xs[i]? = some y, ⟨_, Nat.zero_le _, rfl, [], rfl, Nat.zero_le _, fun _ h => absurd h List.not_mem_nil⟩, ?_⟩
  rintro i m H' ⟨hi, rfl, is, rfl, li, his⟩
  by_cases hlt : i < xs.length
  · right
    refine ⟨by show i < ((xs.length : Int) - 0).toNat; omega, fun H' => ∃ is : List Nat, H' = upd H D (.lst (is.map fun i => V.int (i : Nat))) ∧ is.length ≤ i + 1 ∧ ∀ i ∈ is, xs[i]? = some y, fun H' h => ⟨xs.length - (i + 1), by omega, by omega, rfl, h⟩, ?_⟩
    rintro x H' ⟨rfl, rfl⟩
    have hz : xs[i]? = some xs[i] := List.getElem?_eq_getElem hlt
    generalize xs[i] = z at hz
    refine ⟨rfl, _, rfl, _, rfl, pr, _, (i : Nat), .str z, rfl, by rw [Int.zero_add], SqL.of (by rw [upd_ne npr]; exact hp), atI_nat (by rw [List.getElem?_map, hz]; rfl), _, rfl, ps, [.str y], rfl, .inl (SqL.of (by rw [upd_ne nps]; exact hs)), rfl, rfl, _, rfl, ?_⟩
    by_cases e : z = y
    · subst e
      have e2 : inV (V.str z) [V.str z] = true := by simp [inV, eqV]
      simp only [Bool.false_eq_true, if_false, e2, if_true]
      refine ⟨_, rfl, _, upd_same, by rw [List.length_map]; exact smallL (by omega), is ++ [i], by rw [upd_upd, List.map_append, Int.zero_add]; rfl, by rw [List.length_append]; exact Nat.add_le_add_right li 1, fun j hj => ?_⟩
      rcases List.mem_append.mp hj with h | h
      · exact his j h
      · rw [List.mem_singleton.mp h]; exact hz
    · have e' : ¬ y = z := fun h => e h.symm
      have e2 : inV (V.str z) [V.str y] = false := by simp [inV, eqV, e']
      simp only [Bool.false_eq_true, if_false, e2]
      exact ⟨is, rfl, by omega, his⟩
  · left
    refine ⟨by show ((xs.length : Int) - 0).toNat ≤ i; omega, ?_⟩
    exact q _ D is (same_new hD) upd_same hD (by omega) his
end
end PK
namespace PK
open PySem L2 _root_.TL
/-! one error planted -/
theorem TSL.take : ∀ {ks : List Tk} {xs : List Str} (n : Nat), TSL ks xs → TSL (ks.take n) (xs.take n)
  | _, _, 0, _ => .nil
  | _, _, _ + 1, .nil => .nil
  | _, _, n + 1, .cons h t => .cons h (t.take n)
theorem rw_at {N : List Str} {ka : List Tk} {xa rest : List Str} {j : Tk} {y : Str} (h : TSL ka xa) (f : Fst j y.cps.toList) (pa : ∀ z ∈ xa, Pc N z) (py : Pc N y) (pr : ∀ z ∈ rest, Pc N z) : Rw N ka j (xa ++ y :: rest) ka.length := by
  have hl := h.len
  refine ⟨by rw [hl, List.take_left]; exact h, by rw [List.length_append]; omega, Nat.le_refl _, fun z hz => ?_, fun hz => ?_, fun z hz => ?_⟩
  · rw [hl] at hz
    simp at hz
    subst hz; exact f
  · rw [hl] at hz
    simp at hz
  · rcases List.mem_append.mp hz with h | h
    · exact pa z h
    rcases List.mem_cons.mp h with h | h
    · rw [h]; exact py
    · exact pr z h
theorem rw_end {N : List Str} {ka : List Tk} {xa : List Str} (h : TSL ka xa) (pa : ∀ z ∈ xa, Pc N z) : Rw N ka .fin xa ka.length := by
  have hl := h.len
  refine ⟨by rw [hl, List.take_length]; exact h, by omega, Nat.le_refl _, fun z hz => ?_, fun _ => rfl, pa⟩
  rw [hl] at hz
  simp at hz
theorem rw_good {N : List Str} {ka : List Tk} {xa : List Str} (h : TSL ka xa) (pa : ∀ z ∈ xa, Pc N z) : Rw N ka .fin xa 0 := { rw_end h pa with at_le := Nat.zero_le _ }
/-- no token of a term is invalid -/
theorem RowOk.clean {sig : List (Str × Nat)} {ks : List Tk} (h : RowOk sig ks) : Tk.bad ∉ ks := fun m => by
  obtain ⟨a, c, rfl⟩ := List.append_of_mem m
  obtain ⟨s, h1, h2⟩ := h.cut (a := a) (c := .bad :: c) (l := zip0 a) (zip0_map a)
  have := bad_no (sig := sig) (p := 0) (ne_stop h2)
  obtain ⟨s2, h3, _⟩ := step_of (t := (.bad, 0)) (l := zip0 c) h2
  rw [this] at h3; cases h3
theorem row_pcs {N : List Str} {ks : List Tk} {xs : List Str} (h : TSL ks xs) (hb : Tk.bad ∉ ks) (hn : ∀ w, Tk.name w ∈ ks → w ∈ N) : ∀ z ∈ xs, Pc N z := by
  induction h with
  | nil => exact fun z hz => absurd hz List.not_mem_nil
  | @cons k x ks xs hk t ih =>
    intro z hz
    rcases List.mem_cons.mp hz with h | h
    · rw [h]
      exact hk.pcs (fun e => hb (by rw [e]; exact .head _)) fun w e => hn w (by rw [e]; exact .head _)
    · exact ih (fun m => hb (.tail _ m)) (fun w m => hn w (.tail _ m)) z h
/-- a sign in the row is a sign among the tokens -/
theorem sign_at {ks : List Tk} {xs : List Str} {i : Nat} {y : Str} {s : Nat} (h : TSL ks xs) (e : xs[i]? = some y) (hs : s ∈ ([40, 41, 123, 125] : List Nat)) (hy : y.cps.toList = [s]) : ks = ks.take i ++ .sg y :: ks.drop (i + 1) := by
  obtain ⟨k, g, t⟩ := h.get e
  have : k = .sg y := by rw [← t.tk, hy, tok_sign s hs, show mkS [s] = y by rw [← hy, mk'_of]]
  subst this
  obtain ⟨hi, e2⟩ := List.getElem?_eq_some_iff.mp g
  conv => lhs; rw [← List.take_append_drop i ks, List.drop_eq_getElem_cons hi, e2]
theorem take_len {ks : List Tk} {xs : List Str} {i : Nat} (h : TSL ks xs) (hi : i ≤ xs.length) : (ks.take i).length = i := by rw [List.length_take, h.len]; omega
theorem sub_pcs {N : List Str} {xs : List Str} (h : ∀ z ∈ xs, Pc N z) : (∀ i, ∀ z ∈ xs.take i, Pc N z) ∧ ∀ i, ∀ z ∈ xs.drop i, Pc N z := ⟨fun i z m => h z (List.mem_of_mem_take m), fun i z m => h z (List.mem_of_mem_drop m)⟩
/-- what stands behind a sign or ahead of it: pieces by their tokens -/
theorem ts_five : TS (.int 5) "5" := ts_int (n := 5) (by omega)
theorem ts_one1 : TS (.int 1) "1" := ts_int (n := 1) (by omega)
theorem ts_sg {y : Str} {s : Nat} (hs : s ∈ ([40, 41, 123, 125] : List Nat)) (hy : y.cps.toList = [s]) : TS (.sg y) y := ts_sign hs hy
theorem cutV_to (xs : List V) (n : Nat) : cutV xs none (some (n : Nat)) = xs.take n := by
  unfold cutV
  rw [HT.sIx_none, HT.sIx_nat, List.drop_zero, Nat.sub_zero]
  by_cases h : n ≤ xs.length
  · rw [Nat.min_eq_left h]
  · rw [Nat.min_eq_right (by omega), List.take_length, List.take_of_length_le (by omega)]
theorem cutV_from (xs : List V) (n : Nat) : cutV xs (some (n : Nat)) none = xs.drop n := by
  unfold cutV
  rw [HT.sIx_none, HT.sIx_nat]
  by_cases h : n ≤ xs.length
  · rw [Nat.min_eq_left h, List.take_of_length_le (by rw [List.length_drop]; omega)]
  · rw [Nat.min_eq_right (by omega), Nat.sub_self, List.take_zero, List.drop_eq_nil_of_le (by omega)]
theorem sl_to {K : PySem.W.Frag} {H : Hp} {pr : Addr} {xs : List Str} {v : Int} (n : Nat) (hv : v = (n : Nat)) {Q : VK} (h : H pr = some (.lst (xs.map V.str))) (q : ∀ H' p, Same H H' → H p = none → H' p = some (.lst ((xs.take n).map V.str)) → Q (.ref p) H') : rSlL K (.ref pr) none (some v) H Q := hv ▸
  ⟨pr, _, rfl, SqL.of h, fun p hp => q _ p (same_new hp) hp (by rw [upd_same, cutV_to, List.map_take])⟩
theorem sl_from {K : PySem.W.Frag} {H : Hp} {pr : Addr} {xs : List Str} {v : Int} (n : Nat) (hv : v = (n : Nat)) {Q : VK} (h : H pr = some (.lst (xs.map V.str))) (q : ∀ H' p, Same H H' → H p = none → H' p = some (.lst ((xs.drop n).map V.str)) → Q (.ref p) H') : rSlL K (.ref pr) (some v) none H Q := hv ▸
  ⟨pr, _, rfl, SqL.of h, fun p hp => q _ p (same_new hp) hp (by rw [upd_same, cutV_from, List.map_drop])⟩
theorem cat_s {H : Hp} {p1 p2 : Addr} {xs ys : List Str} {Q : VK} (h1 : H p1 = some (.lst (xs.map V.str))) (h2 : H p2 = some (.lst (ys.map V.str))) (hl : xs.length + ys.length ≤ 5000) (q : ∀ H' p, Same H H' → H p = none → H' p = some (.lst ((xs ++ ys).map V.str)) → Q (.ref p) H') : rCat (.ref p1) (.ref p2) H Q :=
  ⟨p1, p2, _, _, rfl, rfl, h1, h2, small (by rw [List.length_map, List.length_map]; omega), fun p hp => q _ p (same_new hp) hp (by rw [upd_same, List.map_append])⟩
/-! each planting -/
theorem sign_take {ks : List Tk} {xs : List Str} {i : Nat} {y : Str} {s : Nat} (h : TSL ks xs) (e : xs[i]? = some y) (hs : s ∈ ([40, 41, 123, 125] : List Nat)) (hy : y.cps.toList = [s]) : ks.take (i + 1) = ks.take i ++ [.sg y] := by
  obtain ⟨k, g, t⟩ := h.get e
  have : k = .sg y := by rw [← t.tk, hy, tok_sign s hs, show mkS [s] = y by rw [← hy, mk'_of]]
  subst this
  rw [List.take_add_one, g]; rfl
theorem stops_rw {sig : List (Str × Nat)} {a : List Tk} {j : Tk} {n m : Nat} (h : Stops sig a j false n) (e : n = m) : Stops sig a j false m := e ▸ h
theorem rw_rw {N : List Str} {ka : List Tk} {xa : List Str} {j : Tk} {n m : Nat} (h : Rw N ka j xa n) (e : n = m) : Rw N ka j xa m := e ▸ h
section
variable {sig : List (Str × Nat)} {N : List Str} {ks : List Tk} {xs : List Str}
theorem pk0 (row : RowOk sig ks) (tsl : TSL ks xs) (pcs : ∀ z ∈ xs, Pc N z) {z : Str} {j : Tk} (f : Fst j z.cps.toList) (pz : Pc N z) (hj : j ≠ .fin) : Rw N ks j (xs ++ [z]) xs.length ∧ Stops sig ks j false xs.length :=
  ⟨rw_rw (rw_at tsl f pcs pz fun _ h => absurd h List.not_mem_nil) tsl.len, stops_rw (st_after row hj) tsl.len⟩
theorem pk1 (row : RowOk sig ks) (tsl : TSL ks xs) (pcs : ∀ z ∈ xs, Pc N z) {i : Nat} (hi : i < xs.length) : Rw N (ks.take i) .fin (xs.take i) i ∧ Stops sig (ks.take i) .fin false i := by
  have l := take_len tsl (Nat.le_of_lt hi)
  have hk : i < ks.length := by rw [tsl.len]; exact hi
  have e : ks = ks.take i ++ ks[i] :: ks.drop (i + 1) := by rw [← List.drop_eq_getElem_cons hk, List.take_append_drop]
  exact ⟨rw_rw (rw_end (tsl.take i) ((sub_pcs pcs).1 i)) l, stops_rw (st_fin (a := ks.take i) (b := ks[i]) (c := ks.drop (i + 1)) (by rw [← e]; exact row)) l⟩
theorem pk2 (row : RowOk sig ks) (tsl : TSL ks xs) (pcs : ∀ z ∈ xs, Pc N z) {i : Nat} (e : xs[i]? = some "(") {z : Str} {j : Tk} (f : Fst j z.cps.toList) (pz : Pc N z) (hj : ∀ w, j = .word w → sig.lookup w = none) :
    Rw N (ks.take (i + 1)) j (xs.take (i + 1) ++ z :: xs.drop (i + 2)) (i + 1) ∧ Stops sig (ks.take (i + 1)) j false (i + 1) := by
  have hi := (List.getElem?_eq_some_iff.mp e).1
  have l := take_len tsl (i := i + 1) hi
  have e1 := sign_at tsl e (s := 40) (by decide) (by decide +kernel)
  have e2 := sign_take tsl e (s := 40) (by decide) (by decide +kernel)
  refine ⟨rw_rw (rw_at (tsl.take (i + 1)) f ((sub_pcs pcs).1 _) pz ((sub_pcs pcs).2 _)) l, ?_⟩
  have := st_head (a := ks.take i) (c := ks.drop (i + 1)) (by rw [← e1]; exact row) hj
  rw [← e2] at this
  exact stops_rw this l
theorem pk3 (row : RowOk sig ks) (tsl : TSL ks xs) (pcs : ∀ z ∈ xs, Pc N z) {i : Nat} (e : xs[i]? = some ")") {z : Str} {j : Tk} (f : Fst j z.cps.toList) (pz : Pc N z) (hj : j.kind ≠ ")") :
    Rw N (ks.take i) j (xs.take i ++ z :: xs.drop i) i ∧ Stops sig (ks.take i) j false i := by
  have hi := (List.getElem?_eq_some_iff.mp e).1
  have l := take_len tsl (i := i) (Nat.le_of_lt hi)
  have e1 := sign_at tsl e (s := 41) (by decide) (by decide +kernel)
  exact ⟨rw_rw (rw_at (tsl.take i) f ((sub_pcs pcs).1 _) pz ((sub_pcs pcs).2 _)) l, stops_rw (st_close (a := ks.take i) (c := ks.drop (i + 1)) (by rw [← e1]; exact row) hj) l⟩
theorem pk4 (row : RowOk sig ks) (tsl : TSL ks xs) (pcs : ∀ z ∈ xs, Pc N z) {i : Nat} (e : xs[i]? = some "{") {z : Str} {j : Tk} (f : Fst j z.cps.toList) (pz : Pc N z) (hn : ∀ w, j ≠ .name w) (hj : j.kind ≠ "}") :
    Rw N (ks.take (i + 1)) j (xs.take (i + 1) ++ z :: xs.drop (i + 1)) (i + 1) ∧ Stops sig (ks.take (i + 1)) j false (i + 1) := by
  have hi := (List.getElem?_eq_some_iff.mp e).1
  have l := take_len tsl (i := i + 1) hi
  have e1 := sign_at tsl e (s := 123) (by decide) (by decide +kernel)
  have e2 := sign_take tsl e (s := 123) (by decide) (by decide +kernel)
  refine ⟨rw_rw (rw_at (tsl.take (i + 1)) f ((sub_pcs pcs).1 _) pz ((sub_pcs pcs).2 _)) l, ?_⟩
  have := st_map (a := ks.take i) (c := ks.drop (i + 1)) (by rw [← e1]; exact row) hn hj
  rw [← e2] at this
  exact stops_rw this l
/-- what stands behind the sign of a map -/
theorem map_next (row : RowOk sig ks) (tsl : TSL ks xs) {i : Nat} (e : xs[i]? = some "{") : ∃ y k, xs[i + 1]? = some y ∧ ks[i + 1]? = some k ∧ TS k y ∧ ((∃ w, k = .name w) ∨ k = .sg "}") := by
  have e1 := sign_at tsl e (s := 123) (by decide) (by decide +kernel)
  have row' : RowOk sig (ks.take i ++ .sg "{" :: ks.drop (i + 1)) := by rw [← e1]; exact row
  have row2 : RowOk sig ((ks.take i ++ [.sg "{"]) ++ ks.drop (i + 1)) := by rw [List.append_assoc]; exact row'
  obtain ⟨k, hk⟩ := map_open row' (l := zip0 (ks.take i ++ [.sg "{"])) (zip0_map _)
  obtain ⟨s, h1, h2⟩ := row2.cut (zip0_map _)
  rw [hk] at h1
  cases h1
  have hi := (List.getElem?_eq_some_iff.mp e).1
  by_cases hlt : i + 1 < ks.length
  · have hx : i + 1 < xs.length := by rw [← tsl.len]; exact hlt
    obtain ⟨t, g, ts⟩ := tsl.get (List.getElem?_eq_getElem hx)
    refine ⟨_, t, List.getElem?_eq_getElem hx, g, ts, ?_⟩
    have ed : ks.drop (i + 1) = t :: ks.drop (i + 2) := by
      rw [List.drop_eq_getElem_cons hlt]
      rw [List.getElem?_eq_getElem hlt] at g
      cases g; rfl
    rw [ed] at h2
    obtain ⟨s2, h3, _⟩ := step_of (t := (t, 0)) (l := zip0 (ks.drop (i + 2))) h2
    by_cases hn : ∃ w, t = .name w
    · exact .inl hn
    · right
      rw [map_step fun w e => absurd ⟨w, e⟩ hn] at h3
      have hk2 := (close_ok2 h3).1
      cases t with
      | sg s => exact congrArg Tk.sg hk2
      | int _ => exact absurd hk2 (by show ("int" : Str) ≠ _; decide +kernel)
      | name w => exact absurd ⟨w, rfl⟩ hn
      | addr _ => exact absurd hk2 (by show ("addr" : Str) ≠ _; decide +kernel)
      | var _ => exact absurd hk2 (by show ("meta" : Str) ≠ _; decide +kernel)
      | word _ => exact absurd hk2 (by show ("word" : Str) ≠ _; decide +kernel)
      | bad => exact absurd hk2 (by show ("invalid" : Str) ≠ _; decide +kernel)
      | fin => exact absurd hk2 (by show ("end" : Str) ≠ _; decide +kernel)
  · rw [List.drop_eq_nil_of_le (by omega)] at h2
    cases h2
theorem pk5a (row : RowOk sig ks) (tsl : TSL ks xs) (pcs : ∀ z ∈ xs, Pc N z) {i : Nat} (e : xs[i]? = some "{") {y w : Str} (ey : xs[i + 1]? = some y) (ty : TS (.name w) y) :
    Rw N (ks.take (i + 1) ++ [.name w, .int 5]) (.name w) (xs.take (i + 1) ++ [y, "5"] ++ xs.drop (i + 1)) (i + 3) ∧ Stops sig (ks.take (i + 1) ++ [.name w, .int 5]) (.name w) false (i + 3) := by
  have hi := (List.getElem?_eq_some_iff.mp e).1
  have l := take_len tsl (i := i + 1) hi
  have e1 := sign_at tsl e (s := 123) (by decide) (by decide +kernel)
  have e2 := sign_take tsl e (s := 123) (by decide) (by decide +kernel)
  obtain ⟨hi2, gy⟩ := List.getElem?_eq_some_iff.mp ey
  have ed : xs.drop (i + 1) = y :: xs.drop (i + 2) := by rw [List.drop_eq_getElem_cons hi2, gy]
  have py := pcs y (List.mem_of_getElem? ey)
  have p5 : Pc N "5" := ts_five.pcs (by intro z; cases z) (by intro w z; cases z)
  have l2 : (ks.take (i + 1) ++ [Tk.name w, .int 5]).length = i + 3 := by rw [List.length_append, l]; rfl
  refine ⟨?_, ?_⟩
  · rw [ed]
    refine rw_rw (rw_at ((tsl.take (i + 1)).app (.cons ty (.cons ts_five .nil))) ty.fst (fun z hz => ?_) py ((sub_pcs pcs).2 _)) l2
    rcases List.mem_append.mp hz with h | h
    · exact (sub_pcs pcs).1 _ z h
    rcases List.mem_cons.mp h with h | h
    · rw [h]; exact py
    · rw [List.mem_singleton.mp h]; exact p5
  · have := st_twice (a := ks.take i) (c := ks.drop (i + 1)) (by rw [← e1]; exact row) (w := w) (n := 5)
    rw [show ks.take i ++ [Tk.sg "{", .name w, .int 5] = ks.take (i + 1) ++ [.name w, .int 5] by rw [e2, List.append_assoc]; rfl] at this
    exact stops_rw this l2
theorem pk5b (row : RowOk sig ks) (tsl : TSL ks xs) (pcs : ∀ z ∈ xs, Pc N z) {i : Nat} (e : xs[i]? = some "{") {y w z : Str} (ey : xs[i + 1]? = some y) (ty : TS (.sg "}") y) (tz : TS (.name w) z) (pz : Pc N z) :
    Rw N (ks.take (i + 1) ++ [.name w]) (.sg "}") (xs.take (i + 1) ++ [z] ++ xs.drop (i + 1)) (i + 2) ∧ Stops sig (ks.take (i + 1) ++ [.name w]) (.sg "}") false (i + 2) := by
  have hi := (List.getElem?_eq_some_iff.mp e).1
  have l := take_len tsl (i := i + 1) hi
  have e1 := sign_at tsl e (s := 123) (by decide) (by decide +kernel)
  have e2 := sign_take tsl e (s := 123) (by decide) (by decide +kernel)
  obtain ⟨hi2, gy⟩ := List.getElem?_eq_some_iff.mp ey
  have ed : xs.drop (i + 1) = y :: xs.drop (i + 2) := by rw [List.drop_eq_getElem_cons hi2, gy]
  have py := pcs y (List.mem_of_getElem? ey)
  have l2 : (ks.take (i + 1) ++ [Tk.name w]).length = i + 2 := by rw [List.length_append, l]; rfl
  refine ⟨?_, ?_⟩
  · rw [ed]
    refine rw_rw (rw_at ((tsl.take (i + 1)).app (.cons tz .nil)) ty.fst (fun x hx => ?_) py ((sub_pcs pcs).2 _)) l2
    rcases List.mem_append.mp hx with h | h
    · exact (sub_pcs pcs).1 _ x h
    · rw [List.mem_singleton.mp h]; exact pz
  · have := st_alone (a := ks.take i) (c := ks.drop (i + 1)) (by rw [← e1]; exact row) (w := w)
    rw [show ks.take i ++ [Tk.sg "{", .name w] = ks.take (i + 1) ++ [.name w] by rw [e2, List.append_assoc]; rfl] at this
    exact stops_rw this l2
theorem pk6 {y : Str} (wy : Wd y) (h : sig.lookup y ≠ some 0) : Rw N [] (.word y) [y] 0 ∧ Stops sig [] (.word y) false 0 :=
  ⟨rw_at (ka := []) (xa := []) (rest := []) .nil (ts_word wy).fst (fun _ h => absurd h List.not_mem_nil) ((ts_word wy).pcs (by intro z; cases z) (by intro w z; cases z)) (fun _ h => absurd h List.not_mem_nil), st_word h⟩
theorem ones_ts : ∀ n, TSL (List.replicate n (.int 1)) (List.replicate n "1")
  | 0 => .nil
  | n + 1 => .cons ts_one1 (ones_ts n)
theorem pk7 {y : Str} (wy : Wd y) {m n : Nat} (h : sig.lookup y = some m) (hn : n < m) : Rw N (.sg "(" :: .word y :: List.replicate n (.int 1)) (.sg ")") (([("(" : Str), y] ++ List.replicate n ("1" : Str)) ++ [(")" : Str)]) (2 + n) ∧ Stops sig (.sg "(" :: .word y :: List.replicate n (.int 1)) (.sg ")") false (2 + n) := by
  have ts : TSL (.sg "(" :: .word y :: List.replicate n (.int 1)) ([("(" : Str), y] ++ List.replicate n ("1" : Str)) := .cons (ts_sign (s := 40) (by decide) (by decide +kernel)) (.cons (ts_word wy) (ones_ts n))
  have tc : TS (.sg ")") ")" := ts_sign (s := 41) (by decide) (by decide +kernel)
  refine ⟨rw_rw (rw_at ts tc.fst (row_pcs ts (fun m => ?_) fun w m => ?_) (tc.pcs (by intro z; cases z) (by intro w z; cases z)) (fun _ h => absurd h List.not_mem_nil)) (by rw [List.length_cons, List.length_cons, List.length_replicate]; omega), st_few h hn⟩
  · rcases List.mem_cons.mp m with m | m
    · cases m
    rcases List.mem_cons.mp m with m | m
    · cases m
    · have := List.eq_of_mem_replicate m; cases this
  · rcases List.mem_cons.mp m with m | m
    · cases m
    rcases List.mem_cons.mp m with m | m
    · cases m
    · have := List.eq_of_mem_replicate m; cases this
theorem pkd (row : RowOk sig ks) (tsl : TSL ks xs) (pcs : ∀ z ∈ xs, Pc N z) {i : Nat} (hi : i ≤ xs.length) {z : Str} (b : Bp N z) : Rw N (ks.take i) .bad (xs.take i ++ z :: xs.drop i) i ∧ Stops sig (ks.take i) .bad false i := by
  have l := take_len tsl hi
  exact ⟨rw_rw (rw_at (tsl.take i) b.fst ((sub_pcs pcs).1 _) b.toPc ((sub_pcs pcs).2 _)) l, stops_rw (st_bad (a := ks.take i) (c := ks.drop i) (by rw [List.take_append_drop]; exact row)) l⟩
/-- a word with an x behind it -/
theorem wx_tok {y : Str} (wy : Wd y) : ∃ j, Fst j (y ++ "x").cps.toList ∧ Pc N (y ++ "x") ∧ (∀ w, j = .word w → w = y ++ "x") := by
  obtain ⟨s, r, e, hs, ho, hl⟩ := wy.cons
  have ex : (y ++ "x").cps.toList = s :: (r ++ [120]) := by rw [app_list, e, (by decide +kernel : ("x" : Str).cps.toList = [120])]; rfl
  have hox : ∀ c ∈ s :: (r ++ [120]), c ∈ OTH.cps.toList := fun c hc => by
    rcases List.mem_cons.mp hc with h | h
    · exact ho c (by rw [h]; exact .head _)
    rcases List.mem_append.mp h with h | h
    · exact ho c (.tail _ h)
    · rw [List.mem_singleton.mp h]; decide +kernel
  rw [List.length_cons] at hl
  by_cases h : r.length ≤ 10
  · have w : Wd (y ++ "x") := Wd.of ex hs (fun c hc => hox c (.tail _ hc)) (by rw [List.length_append]; show r.length + 1 ≤ 11; omega)
    exact ⟨_, (ts_word w).fst, (ts_word w).pcs (by intro z; cases z) (by intro w z; cases z), fun w e => by cases e; rfl⟩
  · have hw : isWd (mkS (s :: (r ++ [120]))) = false := wd_long (.inr (by rw [List.length_cons, List.length_append]; show 12 < r.length + 1 + 1; omega))
    have f := fst_word (q := []) (.inr hs) (fun a ha => hox a (.tail _ ha)) (tb_let hs hw) (fun x hx => by cases hx)
    rw [List.append_nil] at f
    have b := bp_noq (N := N) ex f (by rw [List.length_cons, List.length_append]; show r.length + 1 + 1 ≤ 17; omega) (oth_noq hox)
    exact ⟨.bad, b.fst, b.toPc, fun w e => by cases e⟩
end
end PK
namespace PK
open PySem L2 _root_.TL
/-! the names of a signature that pass a test on their number -/
theorem sig_at {sh : Int} {sig : List (Str × Nat)} (ok : SigOk sh sig) {y : Str} {n : Nat} (h : sig.lookup y = some n) : Wd y ∧ n ≤ 8 := by
  have m : (y, n) ∈ sig := by
    clear ok
    induction sig with
    | nil => cases h
    | cons e r ih =>
      obtain ⟨k, v⟩ := e
      rw [List.lookup_cons] at h
      by_cases hk : y = k
      · subst hk
        simp at h
        subst h; exact .head _
      · have : (y == k) = false := by simpa using hk
        rw [this] at h
        exact .tail _ (ih h)
  obtain ⟨i, hi, e2⟩ := List.mem_iff_getElem.mp m
  have := ok.2 i (y, n) (by rw [List.getElem?_eq_getElem hi, e2])
  exact ⟨this.1, this.2.2.2⟩
theorem names_lc {sh : Int} {sig : List (Str × Nat)} (sok : SigOk sh sig) {Hc : Hp} {dS D : Addr} {od : Obj} (hS : Hc dS = some (.frz od (.dK (sigK sig)))) (hD : Hc D = none) {σ : L2.St} {b : Nat} {vs : List Nat} {tt : TT} (φ : Nat → Bool) {Q : Hp → Prop}
    (hw : ∀ y : Str, wipe ((wipe σ vs).set b (some (.str y))) vs = wipe σ vs) (hv : ∀ y : Str, ((wipe σ vs).set b (some (V.str y)))[b]? = some (some (.str y)))
    (ht : ∀ (y : Str) (n : Nat) (H' : Hp) (R : Bool → Hp → Prop), H' dS = some (.frz od (.dK (sigK sig))) → valV (sigK sig) (Sum.inr y) = some (.int (n : Nat)) → R (φ n) H' → tt ((wipe σ vs).set b (some (.str y))) H' R)
    (q : ∀ ns : List Str, (∀ y ∈ ns, ∃ n, sig.lookup y = some n ∧ φ n = true) → ns.length ≤ sig.length → Q (upd Hc D (.lst (ns.map V.str)))) :
    ∃ W : Nat → Nat → Hp → Prop, (∃ m, W 0 m (upd Hc D (.lst []))) ∧ ∀ i m H, W i m H → ((Itk dS od (sigK sig)).stop i H ∧ Q H) ∨ ((Itk dS od (sigK sig)).go i H ∧ ∃ Nx : Hp → Prop, (∀ H', Nx H' → ∃ m', m' < m ∧ W (i + 1) m' H') ∧ ∀ x H', (Itk dS od (sigK sig)).yld i H x H' →
      gName b x (wipe σ vs) H' fun σ2 H2 => wipe σ2 vs = wipe σ vs ∧ tt σ2 H2 fun t H3 => if t = true then tVar b σ2 H3 fun y H4 => ∃ acc, H4 D = some (.lst acc) ∧ acc.length < sizeLine ∧ Nx (upd H4 D (.lst (acc ++ [y]))) else Nx H3) := by
  have nD : dS ≠ D := ne_of_none hS hD
  have ls : (sigK sig).length = sig.length := List.length_map ..
  have sl := sok.1
  refine ⟨fun i m H' => i ≤ sig.length ∧ m = sig.length - i ∧ ∃ ns : List Str, H' = upd Hc D (.lst (ns.map V.str)) ∧ ns.length ≤ i ∧ ∀ y ∈ ns, ∃ n, sig.lookup y = some n ∧ φ n = true, ⟨_, Nat.zero_le _, rfl, [], rfl, Nat.zero_le _, fun _ h => absurd h List.not_mem_nil⟩, ?_⟩
  rintro i m H' ⟨hi, rfl, ns, rfl, ln, hns⟩
  have hS' : (upd Hc D (.lst (ns.map V.str))) dS = some (.frz od (.dK (sigK sig))) := by rw [upd_ne nD]; exact hS
  by_cases hlt : i < sig.length
  · right
    refine ⟨⟨hS', by rw [ls]; exact hlt⟩, fun H' => ∃ ns : List Str, H' = upd Hc D (.lst (ns.map V.str)) ∧ ns.length ≤ i + 1 ∧ ∀ y ∈ ns, ∃ n, sig.lookup y = some n ∧ φ n = true, fun H' h => ⟨sig.length - (i + 1), by omega, by omega, rfl, h⟩, ?_⟩
    rintro x H' ⟨rfl, k, v, hk, rfl⟩
    have he : sig[i]? = some sig[i] := List.getElem?_eq_getElem hlt
    generalize sig[i] = e at he
    have hk2 : (sigK sig)[i]? = some (Sum.inr e.1, V.int (e.2 : Nat)) := by unfold sigK; rw [List.getElem?_map, he]; rfl
    rw [hk2] at hk
    cases hk
    have hl := sig_look sok (c := e.1) (m := e.2) (List.mem_of_getElem? he)
    refine ⟨hw e.1, ht e.1 e.2 _ _ hS' (sig_get sok he) ?_⟩
    cases hp : φ e.2 with
    | true =>
      simp only [if_true]
      refine ⟨_, hv e.1, _, upd_same, by rw [List.length_map]; exact smallL (by omega), ns ++ [e.1], by rw [upd_upd, List.map_append]; rfl, by rw [List.length_append]; exact Nat.add_le_add_right ln 1, fun y hy => ?_⟩
      rcases List.mem_append.mp hy with h | h
      · exact hns y h
      · rw [List.mem_singleton.mp h]; exact ⟨_, hl, hp⟩
    | false =>
      simp only [Bool.false_eq_true, if_false]
      exact ⟨ns, rfl, by omega, hns⟩
  · left
    exact ⟨⟨hS', by rw [ls]; omega⟩, q ns hns (by omega)⟩
/-- the dict free again -/
theorem unlockS {Hc : Hp} {l c dS D : Addr} {od : Obj} {u o : HO} (P : Pool Hc l c) (hS : Hc dS = some u) (hD : (L2.upd Hc dS (.frz od u)) D = none) (nl : dS ≠ l) (nc : dS ≠ c) : Ext l c Hc (L2.upd (L2.upd (L2.upd Hc dS (.frz od u)) D o) dS u) ∧ (L2.upd (L2.upd (L2.upd Hc dS (.frz od u)) D o) dS u) D = some o ∧ D ≠ l ∧ Hc D = none := by
  have nD : D ≠ dS := fun e => by rw [e, upd_same] at hD; cases hD
  have hD2 : Hc D = none := by rwa [upd_ne nD] at hD
  obtain ⟨n1, n2⟩ := P.ne hD2
  refine ⟨⟨fun b x hb h => ?_, ((P.upd nl nc).upd n1 n2).upd nl nc⟩, by rw [upd_ne nD]; exact upd_same, n1, hD2⟩
  by_cases e : b = dS
  · subst e; rw [upd_same, ← h, hS]
  · rw [upd_ne e, upd_ne (ne_of_none h hD2), upd_ne e]; exact h
theorem ne_pool {H : Hp} {l c p : Addr} {kvs : List (Key × V)} (P : Pool H l c) (h : H p = some (.dK kvs)) : p ≠ l ∧ p ≠ c := by
  obtain ⟨ns, i, r, s, hl, hc, z⟩ := P
  refine ⟨fun e => ?_, fun e => ?_⟩
  · subst e; rw [h] at hl; cases hl
  · subst e; rw [h] at hc; cases hc
theorem rep_flat (k : Nat) (x : Str) : (List.replicate k [V.str x]).flatten = (List.replicate k x).map V.str := by
  induction k with
  | zero => rfl
  | succ k ih => rw [List.replicate_succ, List.flatten_cons, ih]; rfl
theorem name_hd {p : List Nat} {w : Str} (h : tokOf p = .name w) : p.headD 0 = 39 := by
  unfold tokOf at h
  split at h
  · cases h
  · split at h
    · rename_i c; exact c.1
    · repeat' split at h
      all_goals cases h
theorem sg_is {p : List Nat} {s : Str} (h : tokOf p = .sg s) : mkS p = s := by
  unfold tokOf at h
  split at h
  · cases h; rfl
  · repeat' split at h
    all_goals cases h
/-- row[:a] + [ys] + row[b:] -/
theorem splice {K : PySem.W.Frag} {σ : L2.St} {H : Hp} {pr : Addr} {xs ys : List Str} {ta tb : TE} {tl : TA} {va vb : Int} {Q : VK} (a b : Nat) (h2 : σ[2]? = some (some (.ref pr))) (hpr : H pr = some (.lst (xs.map V.str))) (hl : xs.length ≤ 500) (hy : ys.length ≤ 20)
    (ea : ∀ H' Q', Q' (.int va) H' → ta σ H' Q') (eva : va = (a : Nat)) (eb : ∀ H' Q', Q' (.int vb) H' → tb σ H' Q') (evb : vb = (b : Nat)) (el : ∀ H' Q', Same H H' → Q' (ys.map V.str) H' → tl σ H' Q')
    (q : ∀ H' L, Same H H' → H L = none → H' L = some (.lst ((xs.take a ++ ys ++ xs.drop b).map V.str)) → Q (.ref L) H') : tOp rCat (tOp rCat (tSl (rSlL K) (tVar 2) tNoPart (tPart ta)) (tLst tl)) (tSl (rSlL K) (tVar 2) (tPart tb) tNoPart) σ H Q := by
  refine ⟨_, h2, ea _ _ ⟨_, rfl, sl_to a eva hpr fun H1 L1 s1 n1 h1 => el _ _ s1 ⟨small (by rw [List.length_map]; omega), fun L2 n2 => ?_⟩⟩⟩
  have lt : (xs.take a).length ≤ 500 := by rw [List.length_take]; omega
  refine cat_s (xs := xs.take a) (ys := ys) ((same_new n2) _ _ h1) upd_same (by omega) fun H3 L3 s3 n3 h3 => ?_
  have s13 : Same H H3 := (s1.trans (same_new n2)).trans s3
  refine ⟨_, h2, eb _ _ ⟨_, rfl, ?_⟩⟩
  dsimp only [tNoPart]
  refine sl_from b evb (s13 _ _ hpr) fun H4 L4 s4 n4 h4 => ?_
  refine cat_s (s4 _ _ h3) h4 (by rw [List.length_append, List.length_drop]; omega) fun H5 L5 s5 n5 h5 => ?_
  refine q H5 L5 ((s13.trans s4).trans s5) ?_ h5
  cases g : H L5 with
  | none => rfl
  | some o =>
    have := (s13.trans s4) _ _ g
    rw [n5] at this; cases this
end PK
namespace PK
open PySem L2 _root_.TL
/-! rows of many open signs -/
theorem wd_w : Wd "w" := ⟨by decide, by decide, ⟨119, [], by decide +kernel, by decide +kernel⟩, by decide +kernel⟩
structure DeepR (sig : List (Str × Nat)) (rk bk : List Tk) (xr xb : List Str) (n : Nat) : Prop where
  op : Op sig rk bk n
  tr : TSL rk xr
  tb : TSL bk xb
  cl : ∀ k ∈ rk ++ bk, k ≠ .bad ∧ k ≠ .int 5 ∧ ∀ w, k = .name w → w = "w"
theorem DeepR.nil (sig : List (Str × Nat)) : DeepR sig [] [] [] [] 0 := ⟨.nil, .nil, .nil, fun k h => absurd h List.not_mem_nil⟩
theorem DeepR.node {sig : List (Str × Nat)} {rk bk : List Tk} {xr xb : List Str} {n : Nat} (h : DeepR sig rk bk xr xb n) {y : Str} (wy : Wd y) (hy : sig.lookup y = some 1) : DeepR sig (rk ++ [.sg "(", .word y]) (.sg ")" :: bk) (xr ++ [("(" : Str), y]) ((")" : Str) :: xb) (n + 1) := by
  refine ⟨h.op.node hy, h.tr.app (.cons (ts_sign (s := 40) (by decide) (by decide +kernel)) (.cons (ts_word wy) .nil)), .cons (ts_sign (s := 41) (by decide) (by decide +kernel)) h.tb, fun k hk => ?_⟩
  rcases List.mem_append.mp hk with hk | hk
  · rcases List.mem_append.mp hk with hk | hk
    · exact h.cl k (List.mem_append_left _ hk)
    · rcases List.mem_cons.mp hk with rfl | hk
      · exact ⟨(by intro z; cases z), (by intro z; cases z), (by intro w z; cases z)⟩
      · rw [List.mem_singleton.mp hk]; exact ⟨(by intro z; cases z), (by intro z; cases z), (by intro w z; cases z)⟩
  · rcases List.mem_cons.mp hk with rfl | hk
    · exact ⟨(by intro z; cases z), (by intro z; cases z), (by intro w z; cases z)⟩
    · exact h.cl k (List.mem_append_right _ hk)
theorem DeepR.map {sig : List (Str × Nat)} {rk bk : List Tk} {xr xb : List Str} {n : Nat} (h : DeepR sig rk bk xr xb n) : DeepR sig (rk ++ [.sg "{", .name "w"]) (.sg "}" :: bk) (xr ++ [("{" : Str), "'w"]) (("}" : Str) :: xb) (n + 1) := by
  refine ⟨h.op.map "w", h.tr.app (.cons (ts_sign (s := 123) (by decide) (by decide +kernel)) (.cons (ts_name wd_w) .nil)), .cons (ts_sign (s := 125) (by decide) (by decide +kernel)) h.tb, fun k hk => ?_⟩
  rcases List.mem_append.mp hk with hk | hk
  · rcases List.mem_append.mp hk with hk | hk
    · exact h.cl k (List.mem_append_left _ hk)
    · rcases List.mem_cons.mp hk with rfl | hk
      · exact ⟨(by intro z; cases z), (by intro z; cases z), (by intro w z; cases z)⟩
      · rw [List.mem_singleton.mp hk]; exact ⟨(by intro z; cases z), (by intro z; cases z), (by intro w z; cases z; rfl)⟩
  · rcases List.mem_cons.mp hk with rfl | hk
    · exact ⟨(by intro z; cases z), (by intro z; cases z), (by intro w z; cases z)⟩
    · exact h.cl k (List.mem_append_right _ hk)
theorem DeepR.len {sig : List (Str × Nat)} {rk bk : List Tk} {xr xb : List Str} {n : Nat} (h : DeepR sig rk bk xr xb n) : rk.length = 2 * n ∧ xr.length = 2 * n ∧ bk.length = n ∧ xb.length = n := ⟨h.op.len.1, by rw [← h.tr.len]; exact h.op.len.1, h.op.len.2, by rw [← h.tb.len]; exact h.op.len.2⟩
theorem DeepR.ts {sig : List (Str × Nat)} {rk bk : List Tk} {xr xb : List Str} {n : Nat} (h : DeepR sig rk bk xr xb n) : TSL (rk ++ .int 5 :: bk) (xr ++ ("5" : Str) :: xb) := h.tr.app (.cons ts_five h.tb)
theorem DeepR.pcs {sig : List (Str × Nat)} {rk bk : List Tk} {xr xb : List Str} {n : Nat} (h : DeepR sig rk bk xr xb n) : ∀ z ∈ xr ++ ("5" : Str) :: xb, Pc [("w" : Str)] z := by
  have key : ∀ k ∈ rk ++ .int 5 :: bk, k ≠ .bad ∧ ∀ w, k = .name w → w = "w" := fun k hk => by
    rcases List.mem_append.mp hk with hk | hk
    · exact ⟨(h.cl k (List.mem_append_left _ hk)).1, (h.cl k (List.mem_append_left _ hk)).2.2⟩
    rcases List.mem_cons.mp hk with rfl | hk
    · exact ⟨(by intro z; cases z), (by intro w z; cases z)⟩
    · exact ⟨(h.cl k (List.mem_append_right _ hk)).1, (h.cl k (List.mem_append_right _ hk)).2.2⟩
  exact row_pcs h.ts (fun m => (key _ m).1 rfl) fun w m => by rw [(key _ m).2 w rfl]; exact .head _
/-- there is no 5 ahead of the middle -/
theorem DeepR.no5 {sig : List (Str × Nat)} {rk bk : List Tk} {xr xb : List Str} {n : Nat} (h : DeepR sig rk bk xr xb n) {m : Nat} {z : Str} (e : xr[m]? = some z) : z ≠ "5" := fun z5 => by
  subst z5
  obtain ⟨k, g, t⟩ := h.tr.get e
  have : k = .int 5 := t.tk.symm.trans ts_five.tk
  exact (h.cl k (List.mem_append_left _ (List.mem_of_getElem? g))).2.1 this
def spDeep (K : PySem.W.Frag) : Sp := fun vs H Q _ => ∃ (l c dS : Addr) (sig : List (Str × Nat)) (sh : Int) (many : Nat), vs = [.ref l, .ref dS, .int (many : Nat)] ∧ Pool H l c ∧ dS ≠ l ∧ H dS = some (.dK (sigK sig)) ∧ SigOk sh sig ∧ many ≤ 61 ∧
  ∀ (H' : Hp) (p L : Addr) (rk bk : List Tk) (xr xb : List Str), Ext l c H H' → SqT K H' p [.ref L, .int (2 * (many : Int) - 2)] → H' L = some (.lst ((xr ++ ("5" : Str) :: xb).map V.str)) → L ≠ l → DeepR sig rk bk xr xb many → Q (.ref p) H'
section
variable {P : Program} {w : World} {K : PySem.W.Frag} {mg : Str → Option Value} {base : Heap} {aS CB CD CL CP CT : Addr}
abbrev s_law_deep : Stmt := topS 46
theorem sc_law_deep : FnScope ["pool", "signature", "many", "names", "row", "back", "k", "name"] ["pool", "signature", "many"] (defScope s_law_deep) := ⟨rfl, rfl, rfl, by decide +kernel, rfl, by decide +kernel, by decide +kernel⟩
-- slots: 0:pool 1:signature(cell) 2:many 3:names 4:row 5:back 6:k 7:name(comp)
theorem ok_deep {f : Addr} {fd : FuncData} (F : Fun K "_law_deep" "_law_deep" s_law_deep f fd) (T : TxtB K mg aS CL CP CB CD CT) (C_law_take : C8.Cal P w K mg base 2 "_law_take" (spTake 2) []) : FnOk P w K mg base CX0 3 f fd ["pool", "signature", "many"] (spDeep K) := by
  refine F.ok sc_law_deep (fun vs H Q E h => ?_) (fun cdv A outer s H vs Q E hr h => ?_)
  · obtain ⟨_, _, _, _, _, _, rfl, _⟩ := h
    rfl
  obtain ⟨l, c, dS, sig, sh, many, rfl, P0, nS, hS, sok, hm, q⟩ := h
  refine ⟨_, (pss_cons (ps_lock (ps_setLc (i := 3) (own := [("name", 7)]) (g := (gName 7)) (by rfl) sc_law_deep.nd rfl rfl (sw_true rfl rfl rfl (by decide +kernel)) (pi_keys (pv 1)) (blkOk_by (N := ["pool", "signature", "many", "names", "row", "back", "k", "name"]) (sc := defScope s_law_deep) (by decide +kernel)) (fun _ _ _ _ _ => (pg_name (i := 7) sc_law_deep.nd rfl (Or.inl rfl))) (fun _ _ _ _ _ => pts_one (pt_cmpR op_eq (pe_dget (hu_of hr) (pv 1) (pv 7) (fun _ _ => rfl)) pe_int (nomark _))) (fun _ _ _ _ _ => (pv 7))))
    (pss_cons (ps_set (i := 4) sc_law_deep.nd rfl (Or.inl rfl) (pe_lst pa_nil))
    (pss_cons (ps_set (i := 5) sc_law_deep.nd rfl (Or.inl rfl) (pe_lst pa_nil))
    (pss_cons (ps_for PassesOwn.never rfl (pi_range1 (by rfl) T.z_range (pa_cons (pv 2) pa_nil)) (pg_name (i := 6) sc_law_deep.nd rfl (Or.inl rfl)) (pss_one (ps_if (PW.pt (pw_and (pt_truth (pv 3) (by intro _; rfl)) (pw_and1 (pt_cmpR op_eq (C8.pe_c C_law_take hr (by decide) rfl (pa_cons (pv 0) (pa_cons pe_int pa_nil))) pe_int (nomark _))))) (pss_cons (ps_set (i := 4) sc_law_deep.nd rfl (Or.inl rfl) (pe_op op_cat (pv 4) (pe_lst (pa_cons pe_str (pa_cons (pe_ix ix_list (pv 3) (C8.pe_c C_law_take hr (by decide) rfl (pa_cons (pv 0) (pa_cons (pe_callB call_len_seq (by rfl) T.z_len (by decide +kernel) (pa_cons (pv 3) pa_nil)) pa_nil))) (fun _ _ => rfl)) pa_nil)))))
    (pss_one (ps_set (i := 5) sc_law_deep.nd rfl (Or.inl rfl) (pe_op op_cat (pe_lst (pa_cons pe_str pa_nil)) (pv 5))))) (pss_cons (ps_set (i := 4) sc_law_deep.nd rfl (Or.inl rfl) (pe_op op_cat (pv 4) (pe_lst (pa_cons pe_str (pa_cons pe_str pa_nil)))))
    (pss_one (ps_set (i := 5) sc_law_deep.nd rfl (Or.inl rfl) (pe_op op_cat (pe_lst (pa_cons pe_str pa_nil)) (pv 5))))))))
    (pss_one (ps_ret (pe_tup (pa_cons (pe_op op_cat (pe_op op_cat (pv 4) (pe_lst (pa_cons pe_str pa_nil))) (pv 5)) (pa_cons (pe_op op_sub (pe_callB call_len_seq (by rfl) T.z_len (by decide +kernel) (pa_cons (pv 4) pa_nil)) pe_int) pa_nil))))))))), ?_⟩
  obtain ⟨_, nSc⟩ := ne_pool P0 hS
  refine ⟨dS, .dK (sigK sig), hS, trivial, fun od => ⟨_, rfl, dS, od, rfl, .inl ⟨sigK sig, upd_same, fun D hD => ?_⟩⟩⟩
  refine names_lc sok (od := od) upd_same hD (b := 7) (fun n => decide (n = 1)) (fun y => rfl) (fun y => rfl) (fun y n H' R h1 h2 h3 => ?_) fun ns hns lns => ?_
  · refine ⟨_, rfl, _, rfl, dS, _, rfl, .inl ⟨_, Sum.inr y, .inr ⟨_, h1⟩, rfl, h2.symm⟩, rfl, _, rfl, ?_⟩
    have e : decide (V.int ((n : Nat) : Int) = V.int 1) = decide (n = 1) := decide_eq_decide.mpr ⟨fun h => by have := V.int.inj h; omega, fun h => by rw [h]; rfl⟩
    rw [e]
    exact h3
  obtain ⟨u1, hD1, nDl, _⟩ := unlockS (o := .lst (ns.map V.str)) P0 hS hD nS nSc
  refine ⟨by rw [upd_ne (fun e => by rw [← e, upd_same] at hD; cases hD)]; exact upd_same, ?_⟩
  generalize upd (upd (upd H dS (.frz od (.dK (sigK sig)))) D (.lst (ns.map V.str))) dS (.dK (sigK sig)) = H1 at u1 hD1 ⊢
  have l8 := sok.1
  refine ⟨Nat.zero_le _, fun R0 hR0 => ?_⟩
  have x2 := u1.new (o := .lst []) P0 hR0
  refine ⟨Nat.zero_le _, fun B0 hB0 => ?_⟩
  have x3 := x2.new (o := .lst []) P0 hB0
  refine ⟨_, rfl, many, rfl, by omega, by omega, for_range (lo := 0) (n := ((many : Int)).toNat) (fun i σ H' => ∃ (R B : Addr) (o6 : Option V) (rk bk : List Tk) (xr xb : List Str), σ = [some (.ref l), some (.ref dS), some (.int (many : Nat)), some (.ref D), some (.ref R), some (.ref B), o6, none] ∧ Ext l c H H' ∧ Ext l c H1 H' ∧
    H' R = some (.lst (xr.map V.str)) ∧ H' B = some (.lst (xb.map V.str)) ∧ R ≠ l ∧ B ≠ l ∧ DeepR sig rk bk xr xb i) ?_ ?_ ?_⟩
  · exact ⟨R0, B0, none, [], [], [], [], rfl, x3, (Ext.refl u1.pool).new (o := .lst []) u1.pool hR0 |>.new (o := .lst []) u1.pool hB0, (same_new hB0) _ _ upd_same, upd_same, (u1.pool.ne hR0).1, (x2.pool.ne hB0).1, .nil sig⟩
  · rintro i σ H' hi ⟨R, B, o6, rk, bk, xr, xb, rfl, x, xD, hR, hB, nR, nB, dr⟩
    have hi : i < many := by omega
    obtain ⟨lr1, lr2, lb1, lb2⟩ := dr.len
    have hDx := xD.keep _ _ nDl hD1
    refine ⟨_, rfl, !(ns.map V.str).isEmpty, .inl ⟨_, SqL.of hDx, rfl⟩, ?_⟩
    cases ns0 : ns with
    | nil =>
      refine iteF ?_
      refine ⟨_, rfl, small (by show 2 ≤ _; decide), fun p2 h2 => ?_⟩
      refine cat_s (xs := xr) (ys := [("{" : Str), "'w"]) ((same_new h2) _ _ hR) upd_same (by show xr.length + 2 ≤ _; omega) fun H4 L4 s4 n4 h4 => ?_
      have q4 := (same_new (o := .lst (([("{" : Str), "'w"] : List Str).map V.str)) h2).trans s4
      refine ⟨small (by show 1 ≤ _; decide), fun p3 h3 => ⟨_, rfl, ?_⟩⟩
      have q5 := q4.trans (same_new (o := .lst (([("}" : Str)] : List Str).map V.str)) h3)
      refine cat_s (xs := [("}" : Str)]) (ys := xb) upd_same (q5 _ _ hB) (by show 1 + xb.length ≤ _; omega) fun H5 L5 s5 n5 h5 => ?_
      have q6 := q5.trans s5
      exact ⟨L4, L5, _, _, _, _, _, rfl, (x).same q6, (xD).same q6, ((same_new h3).trans s5) _ _ h4, h5, ((x).same (same_new (o := .lst (([("{" : Str), "'w"] : List Str).map V.str)) h2)).pool.ne n4 |>.1, ((x).same q5).pool.ne n5 |>.1, dr.map⟩
    | cons i0 ir =>
      have lpos : 0 < ns.length := by rw [ns0, List.length_cons]; omega
      rw [← ns0]
      have tt : (!(ns.map V.str).isEmpty) = true := by rw [ns0]; rfl
      rw [tt]
      refine iteT (vTake rfl x.pool (by decide) (by decide) fun d H3 d0 d1 y3 => ⟨rfl, _, rfl, ite2 (fun e => ?_) (fun e => ?_)⟩)
      · refine ⟨_, rfl, ⟨_, rfl, ⟨_, rfl, ⟨_, rfl, D, _, rfl, .inl (SqL.of (y3.keep _ _ nDl hDx)), ⟨l, c, _, False, rfl, y3.pool, by rw [List.length_map]; omega, by rw [List.length_map]; omega, .inl (Nat.le_refl 2), fun a H5 a0 a1 y4 => ?_⟩⟩⟩⟩⟩
        rw [List.length_map] at a1
        have x3 := y3.trans y4
        refine pick (x3.keep _ _ nDl hDx) a0 a1 fun y hy => ?_
        obtain ⟨m, hm2, pm⟩ := hns y hy
        have hm1 : m = 1 := of_decide_eq_true pm
        subst hm1
        obtain ⟨wy, _⟩ := sig_at sok hm2
        have hR2 := x3.keep _ _ nR hR
        have hB2 := x3.keep _ _ nB hB
        refine ⟨small (by show 2 ≤ _; decide), fun p2 h2 => ?_⟩
        refine cat_s (xs := xr) (ys := [("(" : Str), y]) ((same_new h2) _ _ hR2) upd_same (by show xr.length + 2 ≤ _; omega) fun H6 L4 s4 n4 h4 => ?_
        have q4 := (same_new (o := .lst (([("(" : Str), y] : List Str).map V.str)) h2).trans s4
        refine ⟨small (by show 1 ≤ _; decide), fun p3 h3 => ⟨_, rfl, ?_⟩⟩
        have q5 := q4.trans (same_new (o := .lst (([(")" : Str)] : List Str).map V.str)) h3)
        refine cat_s (xs := [(")" : Str)]) (ys := xb) upd_same (q5 _ _ hB2) (by show 1 + xb.length ≤ _; omega) fun H7 L5 s5 n5 h5 => ?_
        have q6 := q5.trans s5
        exact ⟨L4, L5, _, _, _, _, _, rfl, (x.trans x3).same q6, (xD.trans x3).same q6, ((same_new h3).trans s5) _ _ h4, h5, ((x.trans x3).same (same_new (o := .lst (([("(" : Str), y] : List Str).map V.str)) h2)).pool.ne n4 |>.1, ((x.trans x3).same q5).pool.ne n5 |>.1, dr.node wy hm2⟩
      · have hR2 := y3.keep _ _ nR hR
        have hB2 := y3.keep _ _ nB hB
        refine ⟨_, rfl, small (by show 2 ≤ _; decide), fun p2 h2 => ?_⟩
        refine cat_s (xs := xr) (ys := [("{" : Str), "'w"]) ((same_new h2) _ _ hR2) upd_same (by show xr.length + 2 ≤ _; omega) fun H4 L4 s4 n4 h4 => ?_
        have q4 := (same_new (o := .lst (([("{" : Str), "'w"] : List Str).map V.str)) h2).trans s4
        refine ⟨small (by show 1 ≤ _; decide), fun p3 h3 => ⟨_, rfl, ?_⟩⟩
        have q5 := q4.trans (same_new (o := .lst (([("}" : Str)] : List Str).map V.str)) h3)
        refine cat_s (xs := [("}" : Str)]) (ys := xb) upd_same (q5 _ _ hB2) (by show 1 + xb.length ≤ _; omega) fun H5 L5 s5 n5 h5 => ?_
        have q6 := q5.trans s5
        exact ⟨L4, L5, _, _, _, _, _, rfl, (x.trans y3).same q6, (xD.trans y3).same q6, ((same_new h3).trans s5) _ _ h4, h5, ((x.trans y3).same (same_new (o := .lst (([("{" : Str), "'w"] : List Str).map V.str)) h2)).pool.ne n4 |>.1, ((x.trans y3).same q5).pool.ne n5 |>.1, dr.map⟩
  · rintro σ H' ⟨R, B, o6, rk, bk, xr, xb, rfl, x, xD, hR, hB, nR, nB, dr⟩
    rw [show ((many : Int)).toNat = many by omega] at dr
    obtain ⟨lr1, lr2, lb1, lb2⟩ := dr.len
    refine ⟨_, rfl, small (by show 1 ≤ _; decide), fun p2 h2 => ?_⟩
    refine cat_s (xs := xr) (ys := [("5" : Str)]) ((same_new h2) _ _ hR) upd_same (by show xr.length + 1 ≤ _; omega) fun H4 L4 s4 n4 h4 => ?_
    have q4 := (same_new (o := .lst (([("5" : Str)] : List Str).map V.str)) h2).trans s4
    refine ⟨_, rfl, cat_s h4 (q4 _ _ hB) (by rw [List.length_append]; show xr.length + 1 + _ ≤ _; omega) fun H5 L5 s5 n5 h5 => ?_⟩
    have q5 := q4.trans s5
    refine ⟨_, rfl, R, _, rfl, .inl (SqL.of (q5 _ _ hR)), _, _, rfl, rfl, small (by show 2 ≤ _; decide), fun p hp => ?_⟩
    have ei : (((xr.map V.str).length : Nat) : Int) - 2 = 2 * (many : Int) - 2 := by rw [List.length_map]; omega
    refine q _ p L5 rk bk xr xb ((x.same q5).new P0 hp) (by rw [← ei]; exact SqT.of upd_same) ?_ ((x.same q4).pool.ne n5).1 dr
    rw [(same_new hp) _ _ h5, List.append_assoc]; rfl
end
end PK
namespace PK
open PySem L2 _root_.TL
/-! one error planted -/
def spPl (K : PySem.W.Frag) : Sp := fun vs H Q _ => ∃ (l c dS pr pw : Addr) (sig : List (Str × Nat)) (sh : Int) (ks : List Tk) (xs ws N : List Str), vs = [.ref l, .ref dS, .ref pr, .ref pw] ∧ Pool H l c ∧ dS ≠ l ∧ H dS = some (.dK (sigK sig)) ∧ SigOk sh sig ∧ pr ≠ l ∧ H pr = some (.lst (xs.map V.str)) ∧ TSL ks xs ∧ RowOk sig ks ∧ xs.length ≤ 500 ∧
  Wl H l pw ws ∧ ws.length = 5 ∧ (∀ w ∈ ws, w ∈ N) ∧ ("w" : Str) ∈ N ∧ (∀ w, Tk.name w ∈ ks → w ∈ N) ∧
  ∀ (H' : Hp) (p L : Addr) (ks' : List Tk) (j : Tk) (xs' : List Str) (at_ : Nat), Ext l c H H' → SqT K H' p [.ref L, .int (at_ : Nat)] → H' L = some (.lst (xs'.map V.str)) → L ≠ l → Rw N ks' j xs' at_ → Stops sig ks' j false at_ → xs'.length ≤ xs.length + 20 → Q (.ref p) H'
theorem pickN {K : PySem.W.Frag} {H : Hp} {D : Addr} {is : List Nat} {d : Int} {Q : VK} (hD : H D = some (.lst (is.map fun i => V.int (i : Nat)))) (h0 : 0 ≤ d) (h1 : d < (is.length : Nat)) (q : ∀ i ∈ is, Q (.int (i : Nat)) H) : rIxL K (.ref D) (.int d) H Q := by
  obtain ⟨j, rfl⟩ : ∃ j : Nat, d = j := ⟨d.toNat, by omega⟩
  have hj : j < is.length := by omega
  exact ⟨D, _, j, _, rfl, rfl, SqL.of hD, atI_nat (by rw [List.getElem?_map, List.getElem?_eq_getElem hj]; rfl), q _ (List.getElem_mem hj)⟩
theorem after_tok {N : List Str} (hw : ("w" : Str) ∈ N) : ∀ z ∈ ([")", "}", "5", "'w", "(", "{", "$w", "@3"] : List Str), ∃ j, Fst j z.cps.toList ∧ Pc N z ∧ j ≠ .fin := fun z hz => by
  have mk : ∀ {k : Tk} {x : Str}, TS k x → k ≠ .bad → k ≠ .fin → (∀ w, k = .name w → w ∈ N) → ∃ j, Fst j x.cps.toList ∧ Pc N x ∧ j ≠ .fin := fun h1 h2 h3 h4 => ⟨_, h1.fst, h1.pcs h2 h4, h3⟩
  simp only [List.mem_cons, List.not_mem_nil, or_false] at hz
  rcases hz with rfl | rfl | rfl | rfl | rfl | rfl | rfl | rfl
  · exact mk (ts_sign (s := 41) (by decide) (by decide +kernel)) (by intro z; cases z) (by intro z; cases z) (by intro w z; cases z)
  · exact mk (ts_sign (s := 125) (by decide) (by decide +kernel)) (by intro z; cases z) (by intro z; cases z) (by intro w z; cases z)
  · exact mk ts_five (by intro z; cases z) (by intro z; cases z) (by intro w z; cases z)
  · exact mk (ts_name wd_w) (by intro z; cases z) (by intro z; cases z) (by intro w z; cases z; exact hw)
  · exact mk (ts_sign (s := 40) (by decide) (by decide +kernel)) (by intro z; cases z) (by intro z; cases z) (by intro w z; cases z)
  · exact mk (ts_sign (s := 123) (by decide) (by decide +kernel)) (by intro z; cases z) (by intro z; cases z) (by intro w z; cases z)
  · exact mk (ts_var wd_w) (by intro z; cases z) (by intro z; cases z) (by intro w z; cases z)
  · exact mk (ts_addr (n := 3) (by omega)) (by intro z; cases z) (by intro z; cases z) (by intro w z; cases z)
section
variable {P : Program} {w : World} {K : PySem.W.Frag} {mg : Str → Option Value} {base : Heap} {aS CB CD CL CP CT : Addr}
abbrev s_law_planted : Stmt := topS 44
theorem sc_law_planted : FnScope ["pool", "signature", "row", "words", "kind", "at", "opens", "spot", "other", "closes", "maps", "name", "long", "many"] ["pool", "signature", "row", "words"] (defScope s_law_planted) := ⟨rfl, rfl, rfl, by decide +kernel, rfl, by decide +kernel, by decide +kernel⟩
-- slots: 0:pool 1:signature(cell) 2:row 3:words 4:kind 5:at 6:opens 7:spot 8:other 9:closes 10:maps 11:name 12:long 13:many
theorem ok_pl {f : Addr} {fd : FuncData} (F : Fun K "_law_planted" "_law_planted" s_law_planted f fd) (T : TxtB K mg aS CL CP CB CD CT) (C_law_take : C8.Cal P w K mg base 2 "_law_take" (spTake 2) []) (C_law_word : C8.Cal P w K mg base 3 "_law_word" spLWord []) (C_law_after : C8.Cal P w K mg base 3 "_law_after" spAfter []) (C_law_spots : C8.Cal P w K mg base 1 "_law_spots" (spSpots K) []) (C_law_invalid : C8.Cal P w K mg base 3 "_law_invalid" spInv []) : FnOk P w K mg base CX0 4 f fd ["pool", "signature", "row", "words"] (spPl K) := by
  refine F.ok sc_law_planted (fun vs H Q E h => ?_) (fun cdv A outer s H vs Q E hr h => ?_)
  · obtain ⟨_, _, _, _, _, _, _, _, _, _, _, rfl, _⟩ := h
    rfl
  obtain ⟨l, c, dS, pr, pw, sig, sh, ks, xs, ws, N, rfl, P0, nS, hS, sok, nr, hpr, tsl, row, lxs, W, lws, hN, hw0, hnm, q⟩ := h
  refine ⟨_, (pss_cons (ps_set (i := 4) sc_law_planted.nd rfl (Or.inl rfl) (C8.pe_c C_law_take hr (by decide) rfl (pa_cons (pv 0) (pa_cons pe_int pa_nil))))
    (pss_cons (ps_set (i := 5) sc_law_planted.nd rfl (Or.inl rfl) (C8.pe_c C_law_take hr (by decide) rfl (pa_cons (pv 0) (pa_cons (pe_op op_add (pe_callB call_len_seq (by rfl) T.z_len (by decide +kernel) (pa_cons (pv 2) pa_nil)) pe_int) pa_nil))))
    (pss_cons (ps_if (pt_cmpR op_eq (pv 4) pe_int (nomark _)) (pss_one (ps_ret (pe_tup (pa_cons (pe_op op_cat (pv 2) (pe_lst (pa_cons (C8.pe_c C_law_after hr (by decide) rfl (pa_cons (pv 0) pa_nil)) pa_nil))) (pa_cons (pe_callB call_len_seq (by rfl) T.z_len (by decide +kernel) (pa_cons (pv 2) pa_nil)) pa_nil))))) pss_nil)
    (pss_cons (ps_if (pt_cmpR op_eq (pv 4) pe_int (nomark _)) (pss_one (ps_ret (pe_ifExp (pt_cmpR op_gt (pv 5) pe_int (nomark _)) (pe_tup (pa_cons (pe_slice sl_list (pv 2) po_none (po_some (pe_op op_sub (pv 5) pe_int))) (pa_cons (pe_op op_sub (pv 5) pe_int) pa_nil))) (pe_tup (pa_cons (pe_lst pa_nil) (pa_cons pe_int pa_nil)))))) pss_nil)
    (pss_cons (ps_set (i := 6) sc_law_planted.nd rfl (Or.inl rfl) (C8.pe_c C_law_spots hr (by decide) rfl (pa_cons (pv 2) (pa_cons (pe_lst (pa_cons pe_str pa_nil)) pa_nil))))
    (C8.pss_cut (ps_if (PW.pt (pw_and (pt_cmpR op_eq (pv 4) pe_int (nomark _)) (pw_and1 (pt_truth (pv 6) (by intro _; rfl))))) (pss_cons (ps_set (i := 7) sc_law_planted.nd rfl (Or.inl rfl) (pe_ix ix_list (pv 6) (C8.pe_c C_law_take hr (by decide) rfl (pa_cons (pv 0) (pa_cons (pe_callB call_len_seq (by rfl) T.z_len (by decide +kernel) (pa_cons (pv 6) pa_nil)) pa_nil))) (fun _ _ => rfl)))
    (pss_cons (ps_set (i := 8) sc_law_planted.nd rfl (Or.inl rfl) (pe_ix ix_list (pe_lst (pa_cons (pe_op op_add_str (C8.pe_c C_law_word hr (by decide) rfl (pa_cons (pv 0) (pa_cons pe_int (pa_cons pe_int pa_nil)))) pe_str) (pa_cons pe_str (pa_cons pe_str (pa_cons pe_str (pa_cons (pe_op op_add_str pe_str (pe_ix ix_list (pv 3) pe_int (fun _ _ => rfl))) (pa_cons pe_str (pa_cons pe_str pa_nil)))))))) (C8.pe_c C_law_take hr (by decide) rfl (pa_cons (pv 0) (pa_cons pe_int pa_nil))) (fun _ _ => rfl)))
    (pss_one (ps_if (pt_cmp (pc_dnotin (hu_of hr) (pv 8) (pv 1))) (pss_one (ps_ret (pe_tup (pa_cons (pe_op op_cat (pe_op op_cat (pe_slice sl_list (pv 2) po_none (po_some (pe_op op_add (pv 7) pe_int))) (pe_lst (pa_cons (pv 8) pa_nil))) (pe_slice sl_list (pv 2) (po_some (pe_op op_add (pv 7) pe_int)) po_none)) (pa_cons (pe_op op_add (pv 7) pe_int) pa_nil))))) pss_nil)))) pss_nil)
    (pss_cons (ps_set (i := 9) sc_law_planted.nd rfl (Or.inl rfl) (C8.pe_c C_law_spots hr (by decide) rfl (pa_cons (pv 2) (pa_cons (pe_lst (pa_cons pe_str pa_nil)) pa_nil))))
    (C8.pss_cut (ps_if (PW.pt (pw_and (pt_cmpR op_eq (pv 4) pe_int (nomark _)) (pw_and1 (pt_truth (pv 9) (by intro _; rfl))))) (pss_cons (ps_set (i := 7) sc_law_planted.nd rfl (Or.inl rfl) (pe_ix ix_list (pv 9) (C8.pe_c C_law_take hr (by decide) rfl (pa_cons (pv 0) (pa_cons (pe_callB call_len_seq (by rfl) T.z_len (by decide +kernel) (pa_cons (pv 9) pa_nil)) pa_nil))) (fun _ _ => rfl)))
    (pss_cons (ps_set (i := 8) sc_law_planted.nd rfl (Or.inl rfl) (pe_ix ix_list (pe_lst (pa_cons pe_str (pa_cons (pe_op op_add_str pe_str (pe_ix ix_list (pv 3) pe_int (fun _ _ => rfl))) (pa_cons pe_str (pa_cons pe_str (pa_cons (pe_op op_add_str pe_str (pe_ix ix_list (pv 3) pe_int (fun _ _ => rfl))) (pa_cons pe_str (pa_cons pe_str pa_nil)))))))) (C8.pe_c C_law_take hr (by decide) rfl (pa_cons (pv 0) (pa_cons pe_int pa_nil))) (fun _ _ => rfl)))
    (pss_one (ps_ret (pe_tup (pa_cons (pe_op op_cat (pe_op op_cat (pe_slice sl_list (pv 2) po_none (po_some (pv 7))) (pe_lst (pa_cons (pv 8) pa_nil))) (pe_slice sl_list (pv 2) (po_some (pv 7)) po_none)) (pa_cons (pv 7) pa_nil))))))) pss_nil)
    (pss_cons (ps_set (i := 10) sc_law_planted.nd rfl (Or.inl rfl) (C8.pe_c C_law_spots hr (by decide) rfl (pa_cons (pv 2) (pa_cons (pe_lst (pa_cons pe_str pa_nil)) pa_nil))))
    (C8.pss_cut (ps_if (PW.pt (pw_and (pt_cmpR op_eq (pv 4) pe_int (nomark _)) (pw_and1 (pt_truth (pv 10) (by intro _; rfl))))) (pss_cons (ps_set (i := 7) sc_law_planted.nd rfl (Or.inl rfl) (pe_ix ix_list (pv 10) (C8.pe_c C_law_take hr (by decide) rfl (pa_cons (pv 0) (pa_cons (pe_callB call_len_seq (by rfl) T.z_len (by decide +kernel) (pa_cons (pv 10) pa_nil)) pa_nil))) (fun _ _ => rfl)))
    (pss_cons (ps_set (i := 8) sc_law_planted.nd rfl (Or.inl rfl) (pe_ix ix_list (pe_lst (pa_cons pe_str (pa_cons pe_str (pa_cons pe_str (pa_cons (pe_op op_add_str pe_str (pe_ix ix_list (pv 3) pe_int (fun _ _ => rfl))) (pa_cons pe_str (pa_cons pe_str pa_nil))))))) (C8.pe_c C_law_take hr (by decide) rfl (pa_cons (pv 0) (pa_cons pe_int pa_nil))) (fun _ _ => rfl)))
    (pss_one (ps_ret (pe_tup (pa_cons (pe_op op_cat (pe_op op_cat (pe_slice sl_list (pv 2) po_none (po_some (pe_op op_add (pv 7) pe_int))) (pe_lst (pa_cons (pv 8) pa_nil))) (pe_slice sl_list (pv 2) (po_some (pe_op op_add (pv 7) pe_int)) po_none)) (pa_cons (pe_op op_add (pv 7) pe_int) pa_nil))))))) pss_nil)
    (C8.pss_cut (ps_if (PW.pt (pw_and (pt_cmpR op_eq (pv 4) pe_int (nomark _)) (pw_and1 (pt_truth (pv 10) (by intro _; rfl))))) (pss_cons (ps_set (i := 7) sc_law_planted.nd rfl (Or.inl rfl) (pe_ix ix_list (pv 10) (C8.pe_c C_law_take hr (by decide) rfl (pa_cons (pv 0) (pa_cons (pe_callB call_len_seq (by rfl) T.z_len (by decide +kernel) (pa_cons (pv 10) pa_nil)) pa_nil))) (fun _ _ => rfl)))
    (pss_cons (ps_set (i := 11) sc_law_planted.nd rfl (Or.inl rfl) (pe_ix ix_list (pv 2) (pe_op op_add (pv 7) pe_int) (fun _ _ => rfl)))
    (pss_cons (ps_if (pt_cmpR op_eq (pe_slice sl_str (pv 11) po_none (po_some pe_int)) pe_str (nomark _)) (pss_one (ps_ret (pe_tup (pa_cons (pe_op op_cat (pe_op op_cat (pe_slice sl_list (pv 2) po_none (po_some (pe_op op_add (pv 7) pe_int))) (pe_lst (pa_cons (pv 11) (pa_cons pe_str pa_nil)))) (pe_slice sl_list (pv 2) (po_some (pe_op op_add (pv 7) pe_int)) po_none)) (pa_cons (pe_op op_add (pv 7) pe_int) pa_nil))))) pss_nil)
    (pss_one (ps_ret (pe_tup (pa_cons (pe_op op_cat (pe_op op_cat (pe_slice sl_list (pv 2) po_none (po_some (pe_op op_add (pv 7) pe_int))) (pe_lst (pa_cons (pe_op op_add_str pe_str (pe_ix ix_list (pv 3) pe_int (fun _ _ => rfl))) pa_nil))) (pe_slice sl_list (pv 2) (po_some (pe_op op_add (pv 7) pe_int)) po_none)) (pa_cons (pe_op op_add (pv 7) pe_int) pa_nil)))))))) pss_nil)
    (pss_cons (ps_lock (ps_setLc (i := 12) (own := [("name", 11)]) (g := (gName 11)) (by rfl) sc_law_planted.nd rfl rfl (sw_true rfl rfl rfl (by decide +kernel)) (pi_keys (pv 1)) (blkOk_by (N := ["pool", "signature", "row", "words", "kind", "at", "opens", "spot", "other", "closes", "maps", "name", "long", "many"]) (sc := defScope s_law_planted) (by decide +kernel)) (fun _ _ _ _ _ => (pg_name (i := 11) sc_law_planted.nd rfl (Or.inl rfl))) (fun _ _ _ _ _ => pts_one (pt_cmpR op_gt (pe_dget (hu_of hr) (pv 1) (pv 11) (fun _ _ => rfl)) pe_int (nomark _))) (fun _ _ _ _ _ => (pv 11))))
    (C8.pss_cut (ps_if (PW.pt (pw_and (pt_cmpR op_eq (pv 4) pe_int (nomark _)) (pw_and1 (pt_truth (pv 12) (by intro _; rfl))))) (pss_one (ps_ret (pe_tup (pa_cons (pe_lst (pa_cons (pe_ix ix_list (pv 12) (C8.pe_c C_law_take hr (by decide) rfl (pa_cons (pv 0) (pa_cons (pe_callB call_len_seq (by rfl) T.z_len (by decide +kernel) (pa_cons (pv 12) pa_nil)) pa_nil))) (fun _ _ => rfl)) pa_nil)) (pa_cons pe_int pa_nil))))) pss_nil)
    (C8.pss_cut (ps_if (PW.pt (pw_and (pt_cmpR op_eq (pv 4) pe_int (nomark _)) (pw_and1 (pt_truth (pv 12) (by intro _; rfl))))) (pss_cons (ps_set (i := 11) sc_law_planted.nd rfl (Or.inl rfl) (pe_ix ix_list (pv 12) (C8.pe_c C_law_take hr (by decide) rfl (pa_cons (pv 0) (pa_cons (pe_callB call_len_seq (by rfl) T.z_len (by decide +kernel) (pa_cons (pv 12) pa_nil)) pa_nil))) (fun _ _ => rfl)))
    (pss_cons (ps_set (i := 13) sc_law_planted.nd rfl (Or.inl rfl) (C8.pe_c C_law_take hr (by decide) rfl (pa_cons (pv 0) (pa_cons (pe_dget (hu_of hr) (pv 1) (pv 11) (fun _ _ => rfl)) pa_nil))))
    (pss_one (ps_ret (pe_tup (pa_cons (pe_op op_cat (pe_op op_cat (pe_lst (pa_cons pe_str (pa_cons (pv 11) pa_nil))) (pe_op op_rep (pe_lst (pa_cons pe_str pa_nil)) (pv 13))) (pe_lst (pa_cons pe_str pa_nil))) (pa_cons (pe_op op_add pe_int (pv 13)) pa_nil))))))) pss_nil)
    (pss_one (ps_ret (pe_tup (pa_cons (pe_op op_cat (pe_op op_cat (pe_slice sl_list (pv 2) po_none (po_some (pv 5))) (pe_lst (pa_cons (C8.pe_c C_law_invalid hr (by decide) rfl (pa_cons (pv 0) (pa_cons (pv 3) pa_nil))) pa_nil))) (pe_slice sl_list (pv 2) (po_some (pv 5)) po_none)) (pa_cons (pv 5) pa_nil))))))))))))))))))), ?_⟩
  refine vTake rfl P0 (by decide) (by decide) fun kd H1 kd0 kd9 x1 => ?_
  have lm : (xs.map V.str).length = xs.length := List.length_map ..
  have hp1 := x1.keep _ _ nr hpr
  have W1 := W.ext x1
  refine ⟨_, rfl, ⟨_, rfl, pr, _, rfl, .inl (SqL.of hp1), _, _, rfl, rfl, ⟨l, c, _, False, rfl, x1.pool, by omega, by omega, .inl (Nat.le_refl 2), fun at_ H2 a0 a1 x2 => ?_⟩⟩⟩
  rw [lm] at a1
  obtain ⟨at_, rfl⟩ : ∃ n : Nat, at_ = n := ⟨at_.toNat, by omega⟩
  have x12 := x1.trans x2
  have hp2 := x12.keep _ _ nr hpr
  have hS2 := x12.keep _ _ nS hS
  have W2 := W.ext x12
  have clean := row.clean
  have pcs := row_pcs tsl clean hnm
  have lks := tsl.len
  have subp := sub_pcs pcs
  -- how it ends
  have fin : ∀ {H' : Hp} {L : Addr} {ks' : List Tk} {j : Tk} {xs' : List Str} {n : Nat} {v : Int} {p : Addr}, v = (n : Nat) → Ext l c H H' → H' L = some (.lst (xs'.map V.str)) → L ≠ l → Rw N ks' j xs' n → Stops sig ks' j false n → xs'.length ≤ xs.length + 20 → H' p = none → Q (.ref p) (upd H' p (.tup [.ref L, .int v])) := fun {H' L ks' j xs' n v p} hv x hL nL r st ll hp => by
    subst hv
    exact q _ p L ks' j xs' n (x.new P0 hp) (SqT.of upd_same) ((same_new hp) _ _ hL) nL r st ll
  have nl : ∀ {H' : Hp} {L : Addr}, Ext l c H H' → H' L = none → L ≠ l := fun x h => (x.pool.ne h).1
  refine ⟨_, rfl, rfl, _, rfl, ite2 (fun e => ?_) (fun e => ?_)⟩
  · -- behind the term
    refine ⟨_, rfl, _, rfl, l, c, rfl, x12.pool, fun H3 z x3 hz => ?_⟩
    have x13 := x12.trans x3
    have hp3 := x13.keep _ _ nr hpr
    refine ⟨small (by show 1 ≤ _; decide), fun p1 h1 => cat_s (xs := xs) (ys := [z]) ((same_new h1) _ _ hp3) upd_same (by show xs.length + 1 ≤ _; omega) fun H4 L s4 nL hL => ?_⟩
    have x14 := x13.same ((same_new (o := .lst (([z] : List Str).map V.str)) h1).trans s4)
    refine ⟨_, rfl, pr, _, rfl, .inl (SqL.of (x14.keep _ _ nr hpr)), small (by show 2 ≤ _; decide), fun p hp => ?_⟩
    obtain ⟨j, fj, pj, nj⟩ := after_tok hw0 z hz
    obtain ⟨r1, r2⟩ := pk0 row tsl pcs fj pj nj
    exact fin (by rw [lm]) x14 hL (nl (x13.same (same_new (o := .lst (([z] : List Str).map V.str)) h1)) nL) r1 r2 (by rw [List.length_append]; show xs.length + 1 ≤ _; omega) hp
  refine ⟨_, rfl, rfl, _, rfl, ite2 (fun e => ?_) (fun e => ?_)⟩
  · -- cut off
    refine ⟨_, rfl, _, _, rfl, rfl, _, rfl, ite2 (fun e2 => ?_) (fun e2 => ?_)⟩
    · have hpos : 0 < at_ := by have := of_decide_eq_true e2; omega
      obtain ⟨m, rfl⟩ : ∃ m, at_ = m + 1 := ⟨at_ - 1, by omega⟩
      have em : ((m + 1 : Nat) : Int) - 1 = (m : Nat) := by omega
      refine ⟨_, rfl, _, rfl, _, _, rfl, rfl, _, rfl, ?_⟩
      refine sl_to m em hp2 fun H3 L s3 nL hL => ?_
      refine ⟨_, rfl, _, _, rfl, rfl, small (by show 2 ≤ _; decide), fun p hp => ?_⟩
      obtain ⟨r1, r2⟩ := pk1 row tsl pcs (i := m) (by omega)
      exact fin em (x12.same s3) hL (nl x12 nL) r1 r2 (by rw [List.length_take]; omega) hp
    · refine ⟨Nat.zero_le _, fun L hL => ⟨small (by show 2 ≤ _; decide), fun p hp => ?_⟩⟩
      exact fin (n := 0) (xs' := []) rfl (x12.same (same_new hL)) upd_same (nl x12 hL) (rw_end (ka := []) .nil (fun _ h => absurd h List.not_mem_nil)) st_fin0 (Nat.zero_le _) hp
  -- behind an opening sign
  have rowIs : ∀ {H' : Hp}, Ext l c H H' → H' pr = some (.lst (xs.map V.str)) := fun x => x.keep _ _ nr hpr
  refine ⟨_, rfl, small (by show 1 ≤ _; decide), fun ps hps => ⟨pr, ps, xs, "(", rfl, (same_new hps) _ _ hp2, upd_same, by omega, fun H3 D is s3 hD nD li his => ?_⟩⟩
  have x13 := x12.same ((same_new (o := .lst [.str "("]) hps).trans s3)
  have nDl : D ≠ l := nl (x12.same (same_new (o := .lst [.str "("]) hps)) nD
  refine ⟨fun σ' H' => ∃ o7 o8, σ' = [some (.ref l), some (.ref dS), some (.ref pr), some (.ref pw), some (.int kd), some (.int (at_ : Nat)), some (.ref D), o7, o8, none, none, none, none, none] ∧ Ext l c H H', ?_, ?_⟩
  · refine ⟨_, rfl, rfl, _, rfl, ite2 (fun e3 => ?_) (fun e3 => iteF ⟨_, _, rfl, x13⟩)⟩
    refine ⟨_, rfl, !(is.map fun i => V.int (i : Nat)).isEmpty, .inl ⟨_, SqL.of hD, rfl⟩, ?_⟩
    cases his0 : is with
    | nil => exact iteF ⟨_, _, rfl, x13⟩
    | cons i0 ir =>
      have lpos : 0 < is.length := by rw [his0, List.length_cons]; omega
      rw [← his0]
      have tt : (!(is.map fun i => V.int (i : Nat)).isEmpty) = true := by rw [his0]; rfl
      rw [tt]
      refine iteT ⟨_, rfl, _, rfl, ⟨_, rfl, D, _, rfl, .inl (SqL.of hD), ⟨l, c, _, False, rfl, x13.pool, by rw [List.length_map]; omega, by rw [List.length_map]; omega, .inl (Nat.le_refl 2), fun a H4 a0 a1 x4 => ?_⟩⟩⟩
      rw [List.length_map] at a1
      refine pickN (x4.keep _ _ nDl hD) a0 a1 fun i hi => ?_
      have x14 := x13.trans x4
      have ei := his i hi
      have hix := (List.getElem?_eq_some_iff.mp ei).1
      refine ⟨_, rfl, l, c, 12, 0, rfl, x14.pool, fun H5 y x5 wy ty ny => ⟨y, "x", rfl, rfl, small (by have := wy.hi; show y.length + 1 ≤ _; omega), ?_⟩⟩
      have x15 := x14.trans x5
      refine ⟨_, rfl, ?_⟩
      dsimp only [tC]
      refine (W.ext x15).ix (d := 0) (by decide) (by omega) fun w0 hw0 => ⟨"'", w0, rfl, rfl, small (by have := (W.wd w0 hw0).hi; show 1 + w0.length ≤ _; omega), small (by show 7 ≤ _; decide), fun Dx hDx => ?_⟩
      have ww := W.wd w0 hw0
      have x16 := x15.new (o := .lst (([(y ++ "x" : Str), "5", ")", "{", "'" ++ w0, "(", "}"] : List Str).map V.str)) P0 hDx
      refine vTake rfl x16.pool (by decide) (by decide) fun k H6 k0 k1 x7 => ?_
      refine pick (xs := [(y ++ "x" : Str), "5", ")", "{", "'" ++ w0, "(", "}"]) (x7.keep _ _ (x15.pool.ne hDx).1 upd_same) k0 (by show k < 7; omega) fun z hz => ?_
      have x17 := x16.trans x7
      refine ⟨_, rfl, _, rfl, dS, _, rfl, DGet.k (k := Sum.inr z) (x17.keep _ _ nS hS), _, rfl, ?_⟩
      have hv := valV_sig z sig
      cases hlk : sig.lookup z with
      | some m =>
        rw [hlk] at hv
        rw [hv]
        exact iteF ⟨_, _, rfl, x17⟩
      | none =>
        rw [hlk] at hv
        rw [hv]
        refine iteT ?_
        have tok : ∃ j, Fst j z.cps.toList ∧ Pc N z ∧ ∀ w, j = .word w → sig.lookup w = none := by
          have mk : ∀ {k : Tk} {x : Str}, TS k x → k ≠ .bad → (∀ w, k ≠ .word w) → (∀ w, k = .name w → w ∈ N) → ∃ j, Fst j x.cps.toList ∧ Pc N x ∧ ∀ w, j = .word w → sig.lookup w = none := fun h1 h2 h3 h4 => ⟨_, h1.fst, h1.pcs h2 h4, fun w e => absurd e (h3 w)⟩
          simp only [List.mem_cons, List.not_mem_nil, or_false] at hz
          rcases hz with rfl | rfl | rfl | rfl | rfl | rfl | rfl
          · obtain ⟨j, f1, f2, f3⟩ := wx_tok (N := N) wy
            exact ⟨j, f1, f2, fun w e => by rw [f3 w e]; exact hlk⟩
          · exact mk ts_five (by intro z; cases z) (by intro w z; cases z) (by intro w z; cases z)
          · exact mk (ts_sign (s := 41) (by decide) (by decide +kernel)) (by intro z; cases z) (by intro w z; cases z) (by intro w z; cases z)
          · exact mk (ts_sign (s := 123) (by decide) (by decide +kernel)) (by intro z; cases z) (by intro w z; cases z) (by intro w z; cases z)
          · exact mk (ts_name ww) (by intro z; cases z) (by intro w z; cases z) (by intro w z; cases z; exact hN _ hw0)
          · exact mk (ts_sign (s := 40) (by decide) (by decide +kernel)) (by intro z; cases z) (by intro w z; cases z) (by intro w z; cases z)
          · exact mk (ts_sign (s := 125) (by decide) (by decide +kernel)) (by intro z; cases z) (by intro w z; cases z) (by intro w z; cases z)
        obtain ⟨j, fj, pj, nj⟩ := tok
        obtain ⟨r1, r2⟩ := pk2 row tsl pcs ei fj pj nj
        refine splice (i + 1) (i + 2) (ys := [z]) rfl (rowIs x17) lxs (by show 1 ≤ 20; decide) (fun H' Q' h => ⟨_, rfl, _, _, rfl, rfl, h⟩) rfl (fun H' Q' h => ⟨_, rfl, _, _, rfl, rfl, h⟩) rfl (fun H' Q' _ h => ⟨_, rfl, h⟩) fun H7 L s7 nL hL => ?_
        refine ⟨_, rfl, _, _, rfl, rfl, small (by show 2 ≤ _; decide), fun p hp => ?_⟩
        rw [List.append_assoc] at hL
        exact fin (n := i + 1) rfl (x17.same s7) hL (nl x17 nL) r1 r2 (by rw [List.length_append, List.length_append, List.length_take, List.length_drop]; show _ + (1 + _) ≤ _; omega) hp
  rintro σ' H4 ⟨o7, o8, rfl, x4⟩
  -- ahead of a closing sign
  refine ⟨_, rfl, small (by show 1 ≤ _; decide), fun ps hps => ⟨pr, ps, xs, ")", rfl, (same_new hps) _ _ (rowIs x4), upd_same, by omega, fun H9 D9 is9 s9 hD9 nD9 li9 his9 => ?_⟩⟩
  have x9 := x4.same ((same_new (o := .lst [.str ")"]) hps).trans s9)
  have nDl9 : D9 ≠ l := nl (x4.same (same_new (o := .lst [.str ")"]) hps)) nD9
  refine ⟨fun σ' H' => ∃ o7 o8, σ' = [some (.ref l), some (.ref dS), some (.ref pr), some (.ref pw), some (.int kd), some (.int (at_ : Nat)), some (.ref D), o7, o8, some (.ref D9), none, none, none, none] ∧ Ext l c H H', ?_, ?_⟩
  · refine ⟨_, rfl, rfl, _, rfl, ite2 (fun e3 => ?_) (fun e3 => iteF ⟨_, _, rfl, x9⟩)⟩
    refine ⟨_, rfl, !(is9.map fun i => V.int (i : Nat)).isEmpty, .inl ⟨_, SqL.of hD9, rfl⟩, ?_⟩
    cases his0 : is9 with
    | nil => exact iteF ⟨_, _, rfl, x9⟩
    | cons i0 ir =>
      have lpos : 0 < is9.length := by rw [his0, List.length_cons]; omega
      rw [← his0]
      have tt : (!(is9.map fun i => V.int (i : Nat)).isEmpty) = true := by rw [his0]; rfl
      rw [tt]
      refine iteT ⟨_, rfl, _, rfl, ⟨_, rfl, D9, _, rfl, .inl (SqL.of hD9), ⟨l, c, _, False, rfl, x9.pool, by rw [List.length_map]; omega, by rw [List.length_map]; omega, .inl (Nat.le_refl 2), fun a H5 a0 a1 y4 => ?_⟩⟩⟩
      rw [List.length_map] at a1
      refine pickN (y4.keep _ _ nDl9 hD9) a0 a1 fun i hi => ?_
      have x14 := x9.trans y4
      have ei := his9 i hi
      have hix := (List.getElem?_eq_some_iff.mp ei).1
      refine ⟨_, rfl, ?_⟩
      dsimp only [tC]
      refine (W.ext x14).ix (d := 1) (by decide) (by omega) fun w1 hw1 => ⟨"'", w1, rfl, rfl, small (by have := (W.wd w1 hw1).hi; show 1 + w1.length ≤ _; omega), ?_⟩
      refine ⟨_, rfl, ?_⟩
      dsimp only [tC]
      refine (W.ext x14).ix (d := 2) (by decide) (by omega) fun w2 hw2 => ⟨"$", w2, rfl, rfl, small (by have := (W.wd w2 hw2).hi; show 1 + w2.length ≤ _; omega), small (by show 7 ≤ _; decide), fun Dx hDx => ?_⟩
      have x16 := x14.new (o := .lst (([("5" : Str), "'" ++ w1, "{", "}", "$" ++ w2, "(", "@7"] : List Str).map V.str)) P0 hDx
      refine vTake rfl x16.pool (by decide) (by decide) fun k H6 k0 k1 x7 => ?_
      refine pick (xs := [("5" : Str), "'" ++ w1, "{", "}", "$" ++ w2, "(", "@7"]) (x7.keep _ _ (x14.pool.ne hDx).1 upd_same) k0 (by show k < 7; omega) fun z hz => ?_
      have x17 := x16.trans x7
      have tok : ∃ j, Fst j z.cps.toList ∧ Pc N z ∧ j.kind ≠ ")" := by
          have mk : ∀ {k : Tk} {x : Str}, TS k x → k ≠ .bad → k.kind ≠ ")" → (∀ w, k = .name w → w ∈ N) → ∃ j, Fst j x.cps.toList ∧ Pc N x ∧ j.kind ≠ ")" := fun h1 h2 h3 h4 => ⟨_, h1.fst, h1.pcs h2 h4, h3⟩
          simp only [List.mem_cons, List.not_mem_nil, or_false] at hz
          rcases hz with rfl | rfl | rfl | rfl | rfl | rfl | rfl
          · exact mk ts_five (by intro z; cases z) (by show ("int" : Str) ≠ _; decide +kernel) (by intro w z; cases z)
          · exact mk (ts_name (W.wd _ hw1)) (by intro z; cases z) (by show ("name" : Str) ≠ _; decide +kernel) (by intro w z; cases z; exact hN _ hw1)
          · exact mk (ts_sign (s := 123) (by decide) (by decide +kernel)) (by intro z; cases z) (by decide +kernel) (by intro w z; cases z)
          · exact mk (ts_sign (s := 125) (by decide) (by decide +kernel)) (by intro z; cases z) (by decide +kernel) (by intro w z; cases z)
          · exact mk (ts_var (W.wd _ hw2)) (by intro z; cases z) (by show ("meta" : Str) ≠ _; decide +kernel) (by intro w z; cases z)
          · exact mk (ts_sign (s := 40) (by decide) (by decide +kernel)) (by intro z; cases z) (by decide +kernel) (by intro w z; cases z)
          · exact mk (ts_addr (n := 7) (by omega)) (by intro z; cases z) (by show ("addr" : Str) ≠ _; decide +kernel) (by intro w z; cases z)
      obtain ⟨j, fj, pj, nj⟩ := tok
      obtain ⟨r1, r2⟩ := pk3 row tsl pcs ei fj pj nj
      refine splice i i (ys := [z]) rfl (rowIs x17) lxs (by show 1 ≤ 20; decide) (fun H' Q' h => ⟨_, rfl, h⟩) rfl (fun H' Q' h => ⟨_, rfl, h⟩) rfl (fun H' Q' _ h => ⟨_, rfl, h⟩) fun H7 L s7 nL hL => ?_
      refine ⟨_, rfl, small (by show 2 ≤ _; decide), fun p hp => ?_⟩
      rw [List.append_assoc] at hL
      exact fin (n := i) rfl (x17.same s7) hL (nl x17 nL) r1 r2 (by rw [List.length_append, List.length_take]; show _ + ((xs.drop i).length + 1) ≤ _; rw [List.length_drop]; omega) hp
  rintro σ' Ha ⟨o7, o8, rfl, xa⟩
  -- behind the sign of a map
  refine ⟨_, rfl, small (by show 1 ≤ _; decide), fun ps hps => ⟨pr, ps, xs, "{", rfl, (same_new hps) _ _ (rowIs xa), upd_same, by omega, fun H10 D10 is10 s10 hD10 nD10 li10 his10 => ?_⟩⟩
  have x10 := xa.same ((same_new (o := .lst [.str "{"]) hps).trans s10)
  have nDl10 : D10 ≠ l := nl (xa.same (same_new (o := .lst [.str "{"]) hps)) nD10
  refine ⟨fun σ' H' => ∃ o7 o8, σ' = [some (.ref l), some (.ref dS), some (.ref pr), some (.ref pw), some (.int kd), some (.int (at_ : Nat)), some (.ref D), o7, o8, some (.ref D9), some (.ref D10), none, none, none] ∧ Ext l c H10 H', ?_, ?_⟩
  · refine ⟨_, rfl, rfl, _, rfl, ite2 (fun e3 => ?_) (fun e3 => iteF ⟨_, _, rfl, Ext.refl x10.pool⟩)⟩
    refine ⟨_, rfl, !(is10.map fun i => V.int (i : Nat)).isEmpty, .inl ⟨_, SqL.of hD10, rfl⟩, ?_⟩
    cases his0 : is10 with
    | nil => exact iteF ⟨_, _, rfl, Ext.refl x10.pool⟩
    | cons i0 ir =>
      have lpos : 0 < is10.length := by rw [his0, List.length_cons]; omega
      rw [← his0]
      have tt : (!(is10.map fun i => V.int (i : Nat)).isEmpty) = true := by rw [his0]; rfl
      rw [tt]
      refine iteT ⟨_, rfl, _, rfl, ⟨_, rfl, D10, _, rfl, .inl (SqL.of hD10), ⟨l, c, _, False, rfl, x10.pool, by rw [List.length_map]; omega, by rw [List.length_map]; omega, .inl (Nat.le_refl 2), fun a H5 a0 a1 y4 => ?_⟩⟩⟩
      rw [List.length_map] at a1
      refine pickN (y4.keep _ _ nDl10 hD10) a0 a1 fun i hi => ?_
      have x14 := x10.trans y4
      have ei := his10 i hi
      have hix := (List.getElem?_eq_some_iff.mp ei).1
      refine ⟨_, rfl, ?_⟩
      dsimp only [tC]
      refine (W.ext x14).ix (d := 2) (by decide) (by omega) fun w2 hw2 => ⟨"$", w2, rfl, rfl, small (by have := (W.wd w2 hw2).hi; show 1 + w2.length ≤ _; omega), small (by show 6 ≤ _; decide), fun Dx hDx => ?_⟩
      have x16 := x14.new (o := .lst (([("5" : Str), "{", ")", "$" ++ w2, "(", "@7"] : List Str).map V.str)) P0 hDx
      refine vTake rfl x16.pool (by decide) (by decide) fun k H6 k0 k1 x7 => ?_
      refine pick (xs := [("5" : Str), "{", ")", "$" ++ w2, "(", "@7"]) (x7.keep _ _ (x14.pool.ne hDx).1 upd_same) k0 (by show k < 6; omega) fun z hz => ?_
      have x17 := x16.trans x7
      have tok : ∃ j, Fst j z.cps.toList ∧ Pc N z ∧ (∀ w, j ≠ .name w) ∧ j.kind ≠ "}" := by
        have mk : ∀ {k : Tk} {x : Str}, TS k x → k ≠ .bad → ((∀ w, k ≠ .name w) ∧ k.kind ≠ "}") → (∀ w, k = .name w → w ∈ N) → ∃ j, Fst j x.cps.toList ∧ Pc N x ∧ (∀ w, j ≠ .name w) ∧ j.kind ≠ "}" := fun h1 h2 h3 h4 => ⟨_, h1.fst, h1.pcs h2 h4, h3⟩
        simp only [List.mem_cons, List.not_mem_nil, or_false] at hz
        rcases hz with rfl | rfl | rfl | rfl | rfl | rfl
        · exact mk ts_five (by intro z; cases z) ⟨(by intro w z; cases z), by show ("int" : Str) ≠ _; decide +kernel⟩ (by intro w z; cases z)
        · exact mk (ts_sign (s := 123) (by decide) (by decide +kernel)) (by intro z; cases z) ⟨(by intro w z; cases z), by decide +kernel⟩ (by intro w z; cases z)
        · exact mk (ts_sign (s := 41) (by decide) (by decide +kernel)) (by intro z; cases z) ⟨(by intro w z; cases z), by decide +kernel⟩ (by intro w z; cases z)
        · exact mk (ts_var (W.wd _ hw2)) (by intro z; cases z) ⟨(by intro w z; cases z), by show ("meta" : Str) ≠ _; decide +kernel⟩ (by intro w z; cases z)
        · exact mk (ts_sign (s := 40) (by decide) (by decide +kernel)) (by intro z; cases z) ⟨(by intro w z; cases z), by decide +kernel⟩ (by intro w z; cases z)
        · exact mk (ts_addr (n := 7) (by omega)) (by intro z; cases z) ⟨(by intro w z; cases z), by show ("addr" : Str) ≠ _; decide +kernel⟩ (by intro w z; cases z)
      obtain ⟨j, fj, pj, nj1, nj2⟩ := tok
      obtain ⟨r1, r2⟩ := pk4 row tsl pcs ei fj pj nj1 nj2
      refine splice (i + 1) (i + 1) (ys := [z]) rfl (rowIs x17) lxs (by show 1 ≤ 20; decide) (fun H' Q' h => ⟨_, rfl, _, _, rfl, rfl, h⟩) rfl (fun H' Q' h => ⟨_, rfl, _, _, rfl, rfl, h⟩) rfl (fun H' Q' _ h => ⟨_, rfl, h⟩) fun H7 L s7 nL hL => ?_
      refine ⟨_, rfl, _, _, rfl, rfl, small (by show 2 ≤ _; decide), fun p hp => ?_⟩
      rw [List.append_assoc] at hL
      exact fin (n := i + 1) rfl (x17.same s7) hL (nl x17 nL) r1 r2 (by rw [List.length_append, List.length_take]; show _ + ((xs.drop (i + 1)).length + 1) ≤ _; rw [List.length_drop]; omega) hp
  rintro σ' Hb ⟨o7, o8, rfl, xb0⟩
  have xb := x10.trans xb0
  have hDb := xb0.keep _ _ nDl10 hD10
  refine ⟨fun σ' H' => ∃ o7 o8, σ' = [some (.ref l), some (.ref dS), some (.ref pr), some (.ref pw), some (.int kd), some (.int (at_ : Nat)), some (.ref D), o7, o8, some (.ref D9), some (.ref D10), none, none, none] ∧ Ext l c H H', ?_, ?_⟩
  · refine ⟨_, rfl, rfl, _, rfl, ite2 (fun e3 => ?_) (fun e3 => iteF ⟨_, _, rfl, xb⟩)⟩
    refine ⟨_, rfl, !(is10.map fun i => V.int (i : Nat)).isEmpty, .inl ⟨_, SqL.of hDb, rfl⟩, ?_⟩
    cases his0 : is10 with
    | nil => exact iteF ⟨_, _, rfl, xb⟩
    | cons i0 ir =>
      have lpos : 0 < is10.length := by rw [his0, List.length_cons]; omega
      rw [← his0]
      have tt : (!(is10.map fun i => V.int (i : Nat)).isEmpty) = true := by rw [his0]; rfl
      rw [tt]
      refine iteT ⟨_, rfl, _, rfl, ⟨_, rfl, D10, _, rfl, .inl (SqL.of hDb), ⟨l, c, _, False, rfl, xb.pool, by rw [List.length_map]; omega, by rw [List.length_map]; omega, .inl (Nat.le_refl 2), fun a H5 a0 a1 y4 => ?_⟩⟩⟩
      rw [List.length_map] at a1
      refine pickN (y4.keep _ _ nDl10 hDb) a0 a1 fun i hi => ?_
      have x14 := xb.trans y4
      have ei := his10 i hi
      have hix := (List.getElem?_eq_some_iff.mp ei).1
      obtain ⟨y, ky, ey, gk, ty, kinds⟩ := map_next row tsl ei
      have yne := ty.ne
      have ylen := ty.hi
      refine ⟨_, rfl, _, rfl, _, _, rfl, rfl, pr, _, ((i + 1 : Nat) : Int), .str y, rfl, rfl, SqL.of (rowIs x14), atI_nat (by rw [List.getElem?_map, ey]; rfl), ?_⟩
      refine ⟨_, rfl, _, rfl, y, rfl, small (by omega), ?_⟩
      rw [cut_hd y yne]
      rcases kinds with ⟨wn, rfl⟩ | rfl
      · have h39 := name_hd ty.tk
        rw [h39]
        refine ⟨rfl, _, rfl, iteT ?_⟩
        obtain ⟨r1, r2⟩ := pk5a row tsl pcs ei ey ty
        refine splice (i + 1) (i + 1) (ys := [y, "5"]) rfl (rowIs x14) lxs (by show 2 ≤ 20; decide) (fun H' Q' h => ⟨_, rfl, _, _, rfl, rfl, h⟩) rfl (fun H' Q' h => ⟨_, rfl, _, _, rfl, rfl, h⟩) rfl (fun H' Q' _ h => ⟨_, rfl, h⟩) fun H7 L s7 nL hL => ?_
        refine ⟨_, rfl, _, _, rfl, rfl, small (by show 2 ≤ _; decide), fun p hp => ?_⟩
        exact fin (n := i + 3) rfl (x14.same s7) hL (nl x14 nL) r1 r2 (by rw [List.length_append, List.length_append, List.length_take, List.length_drop]; show _ + 2 + _ ≤ _; omega) hp
      · have y125 : y = "}" := by rw [← mk'_of y]; exact sg_is ty.tk
        subst y125
        refine ⟨rfl, _, rfl, iteF ?_⟩
        obtain ⟨w0, wr, hws⟩ : ∃ w0 wr, ws = w0 :: wr := by
          cases ws with
          | nil => cases lws
          | cons a b => exact ⟨a, b, rfl⟩
        have m0 : w0 ∈ ws := by rw [hws]; exact .head _
        have ww0 := W.wd w0 m0
        have tz := ts_name ww0
        obtain ⟨r1, r2⟩ := pk5b row tsl pcs ei ey ty tz (tz.pcs (by intro z; cases z) (by intro w z; cases z; exact hN _ m0))
        refine splice (i + 1) (i + 1) (ys := ["'" ++ w0]) rfl (rowIs x14) lxs (by show 1 ≤ 20; decide) (fun H' Q' h => ⟨_, rfl, _, _, rfl, rfl, h⟩) rfl (fun H' Q' h => ⟨_, rfl, _, _, rfl, rfl, h⟩) rfl (fun H' Q' se h => ⟨_, rfl, pw, _, (0 : Nat), .str w0, rfl, rfl, SqL.of (se _ _ (W.ext x14).at_), atI_nat (by rw [hws]; rfl), "'", w0, rfl, rfl, small (by have := ww0.hi; show 1 + w0.length ≤ _; omega), h⟩) fun H7 L s7 nL hL => ?_
        refine ⟨_, rfl, _, _, rfl, rfl, small (by show 2 ≤ _; decide), fun p hp => ?_⟩
        exact fin (n := i + 2) rfl (x14.same s7) hL (nl x14 nL) r1 r2 (by rw [List.length_append, List.length_append, List.length_take, List.length_drop]; show _ + 1 + _ ≤ _; omega) hp
  rintro σ' Hc ⟨o7, o8, rfl, xc⟩
  -- the constructors with arguments
  have hSc := xc.keep _ _ nS hS
  obtain ⟨_, nSc⟩ := ne_pool xc.pool hSc
  refine ⟨dS, .dK (sigK sig), hSc, trivial, fun od => ⟨_, rfl, dS, od, rfl, .inl ⟨sigK sig, upd_same, fun D12 hD12 => ?_⟩⟩⟩
  refine names_lc sok (od := od) upd_same hD12 (b := 11) (fun n => decide (0 < n)) (fun y => rfl) (fun y => rfl) (fun y n H' R h1 h2 h3 => ?_) fun ns hns lns => ?_
  · refine ⟨_, rfl, _, rfl, dS, _, rfl, .inl ⟨_, Sum.inr y, .inr ⟨_, h1⟩, rfl, h2.symm⟩, _, _, rfl, rfl, _, rfl, ?_⟩
    rw [show decide ((0 : Int) < (n : Nat)) = decide (0 < n) by simp]
    exact h3
  obtain ⟨u1, hD12', nDl12, _⟩ := unlockS (o := .lst (ns.map V.str)) xc.pool hSc hD12 nS nSc
  refine ⟨by rw [upd_ne (fun e => by rw [← e, upd_same] at hD12; cases hD12)]; exact upd_same, ?_⟩
  have xd := xc.trans u1
  generalize upd (upd (upd Hc dS (.frz od (.dK (sigK sig)))) D12 (.lst (ns.map V.str))) dS (.dK (sigK sig)) = Hd at u1 hD12' xd ⊢
  have l8 := sok.1
  refine ⟨fun σ' H' => σ' = [some (.ref l), some (.ref dS), some (.ref pr), some (.ref pw), some (.int kd), some (.int (at_ : Nat)), some (.ref D), o7, o8, some (.ref D9), some (.ref D10), none, some (.ref D12), none] ∧ Ext l c Hd H', ?_, ?_⟩
  · refine ⟨_, rfl, rfl, _, rfl, ite2 (fun e3 => ?_) (fun e3 => iteF ⟨rfl, Ext.refl xd.pool⟩)⟩
    refine ⟨_, rfl, !(ns.map V.str).isEmpty, .inl ⟨_, SqL.of hD12', rfl⟩, ?_⟩
    cases ns0 : ns with
    | nil => exact iteF ⟨rfl, Ext.refl xd.pool⟩
    | cons i0 ir =>
      have lpos : 0 < ns.length := by rw [ns0, List.length_cons]; omega
      rw [← ns0]
      have tt : (!(ns.map V.str).isEmpty) = true := by rw [ns0]; rfl
      rw [tt]
      refine iteT ⟨_, rfl, ⟨_, rfl, ⟨_, rfl, D12, _, rfl, .inl (SqL.of hD12'), ⟨l, c, _, False, rfl, xd.pool, by rw [List.length_map]; omega, by rw [List.length_map]; omega, .inl (Nat.le_refl 2), fun a H5 a0 a1 y4 => ?_⟩⟩⟩⟩
      rw [List.length_map] at a1
      refine pick (y4.keep _ _ nDl12 hD12') a0 a1 fun y hy => ?_
      have x14 := xd.trans y4
      obtain ⟨m, hm, pm⟩ := hns y hy
      have hpos : 0 < m := of_decide_eq_true pm
      obtain ⟨wy, m8⟩ := sig_at sok hm
      refine ⟨small (by show 1 ≤ _; decide), fun L hL => ⟨small (by show 2 ≤ _; decide), fun p hp => ?_⟩⟩
      obtain ⟨r1, r2⟩ := pk6 (N := N) wy (sig := sig) (by rw [hm]; intro z; cases z; exact absurd hpos (by decide))
      exact fin (n := 0) (xs' := [y]) rfl (x14.same (same_new hL)) upd_same (nl x14 hL) r1 r2 (by show 1 ≤ _; omega) hp
  rintro σ' He ⟨rfl, xe⟩
  have xf := xd.trans xe
  have hDe := xe.keep _ _ nDl12 hD12'
  refine ⟨fun σ' H' => σ' = [some (.ref l), some (.ref dS), some (.ref pr), some (.ref pw), some (.int kd), some (.int (at_ : Nat)), some (.ref D), o7, o8, some (.ref D9), some (.ref D10), none, some (.ref D12), none] ∧ Ext l c H H', ?_, ?_⟩
  · refine ⟨_, rfl, rfl, _, rfl, ite2 (fun e3 => ?_) (fun e3 => iteF ⟨rfl, xf⟩)⟩
    refine ⟨_, rfl, !(ns.map V.str).isEmpty, .inl ⟨_, SqL.of hDe, rfl⟩, ?_⟩
    cases ns0 : ns with
    | nil => exact iteF ⟨rfl, xf⟩
    | cons i0 ir =>
      have lpos : 0 < ns.length := by rw [ns0, List.length_cons]; omega
      rw [← ns0]
      have tt : (!(ns.map V.str).isEmpty) = true := by rw [ns0]; rfl
      rw [tt]
      refine iteT ⟨_, rfl, ⟨_, rfl, ⟨_, rfl, D12, _, rfl, .inl (SqL.of hDe), ⟨l, c, _, False, rfl, xf.pool, by rw [List.length_map]; omega, by rw [List.length_map]; omega, .inl (Nat.le_refl 2), fun a H5 a0 a1 y4 => ?_⟩⟩⟩⟩
      rw [List.length_map] at a1
      refine pick (y4.keep _ _ nDl12 hDe) a0 a1 fun y hy => ?_
      have x14 := xf.trans y4
      obtain ⟨m, hm, pm⟩ := hns y hy
      have hpos : 0 < m := of_decide_eq_true pm
      obtain ⟨wy, m8⟩ := sig_at sok hm
      have hSg := DGet.k (k := Sum.inr y) (x14.keep _ _ nS hS)
      rw [valV_sig y sig, hm] at hSg
      refine ⟨_, rfl, _, rfl, _, rfl, dS, _, rfl, hSg, l, c, m, False, rfl, x14.pool, by omega, by omega, .inl (Nat.le_refl 2), fun b H6 b0 b1 y5 => ?_⟩
      have x15 := x14.trans y5
      obtain ⟨b, rfl⟩ : ∃ n : Nat, b = n := ⟨b.toNat, by omega⟩
      have hb : b < m := by omega
      refine ⟨_, rfl, small (by show 2 ≤ _; decide), fun p1 h1 => ⟨small (by show 1 ≤ _; decide), fun p2 h2 => ⟨_, rfl, p2, (b : Nat), [.str "1"], rfl, rfl, upd_same, by omega, by omega, ?_, fun p3 h3 => ?_⟩⟩⟩
      · exact small (by show 1 * b ≤ _; omega)
      have sA : Same H6 (upd (upd (upd H6 p1 (.lst [.str "(", .str y])) p2 (.lst [.str "1"])) p3 (.lst (List.replicate ((b : Int)).toNat [V.str "1"]).flatten)) := ((same_new h1).trans (same_new h2)).trans (same_new h3)
      have hA1 : (upd (upd (upd H6 p1 (.lst [.str "(", .str y])) p2 (.lst [.str "1"])) p3 (.lst (List.replicate ((b : Int)).toNat [V.str "1"]).flatten)) p1 = some (.lst (([("(" : Str), y] : List Str).map V.str)) := ((same_new h2).trans (same_new h3)) _ _ upd_same
      have hA3 : (upd (upd (upd H6 p1 (.lst [.str "(", .str y])) p2 (.lst [.str "1"])) p3 (.lst (List.replicate ((b : Int)).toNat [V.str "1"]).flatten)) p3 = some (.lst ((List.replicate b ("1" : Str)).map V.str)) := by rw [upd_same, show ((b : Int)).toNat = b by omega, rep_flat]
      generalize upd (upd (upd H6 p1 (.lst [.str "(", .str y])) p2 (.lst [.str "1"])) p3 (.lst (List.replicate ((b : Int)).toNat [V.str "1"]).flatten) = H7 at sA hA1 hA3
      refine cat_s hA1 hA3 (by rw [List.length_replicate]; show 2 + b ≤ _; omega) fun H8 L8 s8 n8 h8 => ?_
      refine ⟨small (by show 1 ≤ _; decide), fun p4 h4 => ?_⟩
      refine cat_s (ys := [(")" : Str)]) ((same_new h4) _ _ h8) upd_same (by rw [List.length_append, List.length_replicate]; show 2 + b + 1 ≤ _; omega) fun H9 L9 s9 n9 h9 => ?_
      refine ⟨_, rfl, _, _, rfl, rfl, small (by show 2 ≤ _; decide), fun p hp => ?_⟩
      obtain ⟨r1, r2⟩ := pk7 (N := N) wy (sig := sig) hm hb
      have x19 := (x15.same sA).same ((s8.trans (same_new (o := .lst (([(")" : Str)] : List Str).map V.str)) h4)))
      exact fin (n := 2 + b) (by omega) (x19.same s9) h9 (nl x19 n9) r1 r2 (by rw [List.length_append, List.length_append, List.length_replicate]; show 2 + b + 1 ≤ _; omega) hp
  rintro σ' Hg ⟨rfl, xg⟩
  -- an invalid piece
  refine ⟨_, rfl, _, rfl, _, rfl, ?_⟩
  dsimp only [tNoPart]
  refine sl_to at_ rfl (rowIs xg) fun H1' L1 s1' n1' h1' => ?_
  have xh := xg.same s1'
  refine ⟨_, rfl, _, rfl, l, c, pw, ws, N, rfl, xh.pool, W.ext xh, (by intro z; rw [z] at lws; cases lws), hN, fun H2' z x2' bz => ?_⟩
  have xi := xh.trans x2'
  have h1'' := x2'.keep _ _ (nl xg n1') h1'
  have lz : (xs.take at_).length ≤ xs.length := by rw [List.length_take]; omega
  refine ⟨small (by show 1 ≤ _; decide), fun p2 h2 => ?_⟩
  refine cat_s (ys := [z]) ((same_new h2) _ _ h1'') upd_same (by show _ + 1 ≤ _; omega) fun H3' L3 s3' n3' h3' => ?_
  have xj := xi.same ((same_new (o := .lst (([z] : List Str).map V.str)) h2).trans s3')
  refine ⟨_, rfl, _, rfl, _, rfl, ?_⟩
  dsimp only [tNoPart]
  refine sl_from at_ rfl (rowIs xj) fun H4' L4 s4' n4' h4' => ?_
  refine cat_s (s4' _ _ h3') h4' (by rw [List.length_append, List.length_drop]; show _ + 1 + _ ≤ _; omega) fun H5' L5 s5' n5' h5' => ?_
  refine ⟨_, rfl, small (by show 2 ≤ _; decide), fun p hp => ?_⟩
  obtain ⟨r1, r2⟩ := pkd row tsl pcs (i := at_) (by omega) bz
  rw [List.append_assoc] at h5'
  exact fin (n := at_) rfl ((xj.same s4').same s5') h5' (nl (xj.same s4') n5') r1 r2 (by rw [List.length_append, List.length_take]; show _ + ((xs.drop at_).length + 1) ≤ _; rw [List.length_drop]; omega) hp
end
end PK
namespace PK
open PySem PySem.Spec PyProof.Rows L2 _root_.TL
/-! what is told of a text whose tokens are known -/
theorem tok_nofin (p : List Nat) : tokOf p ≠ .fin := fun h => by
  unfold tokOf at h
  repeat' split at h
  all_goals cases h
theorem scan_nofin : ∀ (f p : Nat) (cs : List Nat) (q : Nat), (Tk.fin, q) ∉ scan f p cs := by
  intro f
  induction f with
  | zero => intro p cs q h; cases h
  | succ f ih =>
    intro p cs q h
    cases cs with
    | nil => rw [scan_nil] at h; cases h
    | cons c r =>
      by_cases hc : c ∈ SEP.cps.toList
      · rw [scan_sep hc] at h; exact ih _ _ _ h
      · rw [scan_tok hc] at h
        rcases List.mem_cons.mp h with e | e
        · exact tok_nofin _ (Prod.mk.inj e).1.symm
        · exact ih _ _ _ e
/-- a text in which the tokens of a term lie is read -/
theorem read_tok {sig : List (Str × Nat)} {cs : List Nat} {n : Nat} {t : Rm} {ts : List Tk} (e : (toks cs).map (·.1) = ts ++ [.fin]) (hf : Fl sig n t ts) (hn : n ≤ 60) : pRead sig cs = .ok t := by
  have ha : At (toks cs) 0 ts := ⟨[.fin], by rw [List.drop_zero]; exact e⟩
  have h2 : (toks cs)[ts.length]?.map (·.1) = some .fin := by
    rw [← List.getElem?_map, e]
    simp
  unfold pRead
  rw [read_ok n t ts 61 0 0 hf ha (by omega) (by omega)]
  dsimp only
  rw [Nat.zero_add]
  cases g : (toks cs)[ts.length]? with
  | none => rw [g] at h2; cases h2
  | some x =>
    rw [g] at h2
    obtain ⟨k, p⟩ := x
    have : k = .fin := by simpa using h2
    dsimp only
    rw [if_pos this]
theorem laid_all {cs : List Nat} {ks : List Tk} {at_ due : Nat} (h : Laid cs ks .fin at_ due) : (toks cs).map (·.1) = ks ++ [.fin] := by
  obtain ⟨d, rest, e, m, _⟩ := h
  have hd : d.length = ks.length + 1 := by rw [map_len m]; simp
  have hl : (toks cs).length = (scan cs.length 0 cs).length + 1 := by unfold toks; simp
  have g : (toks cs)[ks.length]?.map (·.1) = some .fin := by
    rw [e, List.getElem?_append_left (by omega), ← List.getElem?_map, show d.map (·.1) = ks ++ [.fin] from m]
    simp
  have lt : ¬ ks.length < (scan cs.length 0 cs).length := fun lt => by
    unfold toks at g
    rw [List.getElem?_append_left lt, List.getElem?_eq_getElem lt] at g
    have g2 : ((scan cs.length 0 cs)[ks.length]).1 = .fin := by simpa using g
    refine scan_nofin cs.length 0 cs ((scan cs.length 0 cs)[ks.length]).2 ?_
    rw [← g2]
    exact List.getElem_mem lt
  have hr : rest = [] := by
    have := congrArg List.length e
    rw [List.length_append] at this
    exact List.length_eq_zero_iff.mp (by omega)
  rw [e, hr, List.append_nil]
  exact m
theorem told_good {sig : List (Str × Nat)} {cs : List Nat} {ks : List Tk} {at_ due : Nat} (h : Laid cs ks .fin at_ due) (row : RowOk sig ks) : toldOf (pRead sig cs) = (("let" : Str), 0) := by
  obtain ⟨n, t, hn, hf⟩ := row
  rw [read_tok (laid_all h) hf hn]; rfl
theorem told_bad {sig : List (Str × Nat)} {cs : List Nat} {ks : List Tk} {j : Tk} {b : Bool} {at_ due : Nat} (h : Laid cs ks j at_ due) (st : Stops sig ks j b at_) : toldOf (pRead sig cs) = ((if b then "deep" else "bad" : Str), due) := by
  obtain ⟨d, rest, e, m, hd⟩ := h
  obtain ⟨l, p, rfl, hl⟩ := map_snoc2 m
  obtain ⟨q, h1, h2⟩ := st l p hl
  rw [hd] at h2
  cases h2
  rw [read_stops (by rw [e]; exact run_err h1)]; rfl
/-- how long a text is at least -/
theorem laid_long {cs : List Nat} {ks : List Tk} {j : Tk} {at_ due : Nat} (h : Laid cs ks j at_ due) : ks.length ≤ cs.length := by
  obtain ⟨d, rest, e, m, _⟩ := h
  have hd : d.length = ks.length + 1 := by rw [map_len m]; simp
  have := congrArg List.length e
  rw [List.length_append] at this
  have hl : (toks cs).length = (scan cs.length 0 cs).length + 1 := by unfold toks; simp
  have := scan_len cs.length 0 cs
  omega
theorem rw_of {N : List Str} {ks pre rest : List Tk} {xs : List Str} {j : Tk} {at_ : Nat} (ts : TSL ks xs) (e : ks = pre ++ j :: rest) (ha : at_ ≤ pre.length) (pcs : ∀ z ∈ xs, Pc N z) : Rw N pre j xs at_ := by
  have hl := ts.len
  have hk : ks.length = pre.length + (rest.length + 1) := by rw [e]; simp
  have g : ks[pre.length]? = some j := by rw [e]; simp
  refine ⟨?_, by omega, ha, fun z hz => ?_, fun hz => ?_, pcs⟩
  · have := ts.take pre.length
    rw [e, List.take_left] at this
    exact this
  · obtain ⟨k, g2, t⟩ := ts.get hz
    rw [g] at g2
    cases g2
    exact t.fst
  · rw [List.getElem?_eq_none_iff] at hz; omega
theorem low_ok {sh : Int} {sig : List (Str × Nat)} (ok : SigOk sh sig) : ∀ e ∈ sig, e.2 ≤ 1000 := fun e he => by
  obtain ⟨i, hi, e2⟩ := List.mem_iff_getElem.mp he
  have := (ok.2 i e (by rw [List.getElem?_eq_getElem hi, e2])).2.2.2
  omega
theorem tk_ok {sh : Int} {sig : List (Str × Nat)} {N : List Str} {cs : List Nat} (ok : SigOk sh sig) (hl : cs.length ≤ 4000) (qn : QN N cs) (hN : N.length < 64) : TkOk sig (toks cs) := toks_ok hl ⟨N, hN, qn_few qn⟩ (low_ok ok)
/-- two pairs of a text and a number -/
theorem pair_dt {K : PySem.W.Frag} {H : Hp} {p : Addr} {x : Str} {n : Int} (h : SqT K H p [.str x, .int n]) : Dp K H (.ref p) (.tuple [.str x, .int n]) := Dt.dp _ _ (.tup h (.cons (.str x) (.cons (.int n) .nil)))
theorem pair_lay {x : Str} (n : Int) (h : x ∈ (["let", "bad", "deep", "long"] : List Str)) : (PyData.tuple [.str x, .int n]).canLay0 = true := by
  have key : ∀ x ∈ (["let", "bad", "deep", "long"] : List Str), (PyData.str x).canLay0 = true := by decide +kernel
  have := key x h
  unfold PyData.canLay0 PyData.canLayAll0
  rw [this]
  rfl
theorem pair_dep (x : Str) (n : Int) : (PyData.tuple [.str x, .int n]).depth ≤ 190 := by show max 0 (max 0 0) + 1 ≤ _; decide
end PK
namespace PK
open PySem PySem.Spec PyProof.Rows L2 _root_.TL
theorem eqU {k : Nat} {A : Around} (hr : Room k A) : A.units + 190 < cLine := by have := hr.un; omega
def spDT : Sp := fun vs H Q _ => ∃ (l c dS : Addr) (sig : List (Str × Nat)) (sh : Int), vs = [.ref l, .ref dS] ∧ Pool H l c ∧ dS ≠ l ∧ H dS = some (.dK (sigK sig)) ∧ SigOk sh sig ∧ ∀ H', Q (.bl true) H'
/-- a planted text: its pieces and what the reader does -/
structure BadR (K : PySem.W.Frag) (sig : List (Str × Nat)) (l : Addr) (H : Hp) (pb : Addr) (due : Str) (many : Nat) : Prop where
  ex : ∃ (Lb : Addr) (at_ : Nat) (ks : List Tk) (j : Tk) (xs : List Str) (b : Bool), SqT K H pb [.ref Lb, .int (at_ : Nat)] ∧ H Lb = some (.lst (xs.map V.str)) ∧ Lb ≠ l ∧ Rw [("w" : Str)] ks j xs at_ ∧ Stops sig ks j b at_ ∧ due = (if b then "deep" else "bad" : Str) ∧ xs.length ≤ 190 ∧ many ≤ ks.length
theorem BadR.mono {K : PySem.W.Frag} {sig : List (Str × Nat)} {l pb : Addr} {H : Hp} {due : Str} {m n : Nat} (h : BadR K sig l H pb due n) (e : m ≤ n) : BadR K sig l H pb due m := by
  obtain ⟨Lb, at_, ks, j, xs, b, h1, h2, h3, h4, h5, h6, h7, h8⟩ := h.ex
  exact ⟨Lb, at_, ks, j, xs, b, h1, h2, h3, h4, h5, h6, h7, Nat.le_trans e h8⟩
theorem BadR.ext {K : PySem.W.Frag} {sig : List (Str × Nat)} {l c pb : Addr} {H H' : Hp} {due : Str} {n : Nat} (h : BadR K sig l H pb due n) (P : Pool H l c) (x : Ext l c H H') : BadR K sig l H' pb due n := by
  obtain ⟨Lb, at_, ks, j, xs, b, h1, h2, h3, h4, h5, h6, h7, h8⟩ := h.ex
  exact ⟨Lb, at_, ks, j, xs, b, x.seqT P h1, x.keep _ _ h3 h2, h3, h4, h5, h6, h7, h8⟩
section
variable {P : Program} {w : World} {K : PySem.W.Frag} {mg : Str → Option Value} {base : Heap} {aS CB CD CL CP CT : Addr}
abbrev s_law_deep_told : Stmt := topS 47
theorem sc_law_deep_told : FnScope ["pool", "signature", "row", "good", "kind", "bad", "due", "middle", "laid"] ["pool", "signature"] (defScope s_law_deep_told) := ⟨rfl, rfl, rfl, by decide +kernel, rfl, by decide +kernel, by decide +kernel⟩
-- slots: 0:pool 1:signature 2:row 3:good 4:kind 5:bad 6:due 7:middle 8:laid
theorem ok_dt {f : Addr} {fd : FuncData} (F : Fun K "_law_deep_told" "_law_deep_told" s_law_deep_told f fd) (T : TxtB K mg aS CL CP CB CD CT) (C_law_take : C8.Cal P w K mg base 2 "_law_take" (spTake 2) []) (C_law_deep : C8.Cal P w K mg base 3 "_law_deep" (spDeep K) []) (C_law_laid : C8.Cal P w K mg base 4 "_law_laid" (spLaid K) []) (C_law_told : C8.Cal P w K mg base 129 "_law_told" (spTold K) []) : FnOk P w K mg base CX0 130 f fd ["pool", "signature"] spDT := by
  refine F.ok sc_law_deep_told (fun vs H Q E h => ?_) (fun cdv A outer s H vs Q E hr h => ?_)
  · obtain ⟨_, _, _, _, _, rfl, _⟩ := h
    rfl
  obtain ⟨l, c, dS, sig, sh, rfl, P0, nS, hS, sok, q⟩ := h
  refine ⟨_, (pss_cons (ps_set (i := 2) sc_law_deep_told.nd rfl (Or.inl rfl) (pe_ix ix_tup (C8.pe_c C_law_deep hr (by decide) rfl (pa_cons (pv 0) (pa_cons (pv 1) (pa_cons pe_int pa_nil)))) pe_int (fun _ _ => rfl)))
    (pss_cons (ps_set (i := 3) sc_law_deep_told.nd rfl (Or.inl rfl) (C8.pe_c C_law_laid hr (by decide) rfl (pa_cons (pv 0) (pa_cons (pv 2) (pa_cons pe_int pa_nil)))))
    (pss_cons (ps_set (i := 4) sc_law_deep_told.nd rfl (Or.inl rfl) (C8.pe_c C_law_take hr (by decide) rfl (pa_cons (pv 0) (pa_cons pe_int pa_nil))))
    (pss_cons (ps_set (i := 5) sc_law_deep_told.nd rfl (Or.inl rfl) (C8.pe_c C_law_deep hr (by decide) rfl (pa_cons (pv 0) (pa_cons (pv 1) (pa_cons pe_int pa_nil)))))
    (pss_cons (ps_set (i := 6) sc_law_deep_told.nd rfl (Or.inl rfl) pe_str)
    (pss_cons (ps_set (i := 7) sc_law_deep_told.nd rfl (Or.inl rfl) (pe_bm PySem.F.plainAttrs_list PySem.F.slot_list_index PySem.F.type_list_index mt_index (pv 2) (pa_cons pe_str pa_nil)))
    (C8.pss_cut (ps_if (PW.pt (pw_and (pt_cmpR op_eq (pv 4) pe_int (nomark _)) (pw_and1 (pt_truth (pv 1) (by intro _; rfl))))) (pss_cons (ps_set (i := 5) sc_law_deep_told.nd rfl (Or.inl rfl) (pe_tup (pa_cons (pe_op op_cat (pe_op op_cat (pe_slice sl_list (pv 2) po_none (po_some (pv 7))) (pe_lst (pa_cons pe_str (pa_cons pe_str pa_nil)))) (pe_slice sl_list (pv 2) (po_some (pv 7)) po_none)) (pa_cons (pe_op op_add (pv 7) pe_int) pa_nil))))
    (pss_one (ps_set (i := 6) sc_law_deep_told.nd rfl (Or.inl rfl) pe_str))) pss_nil)
    (C8.pss_cut (ps_if (pt_cmpR op_eq (pv 4) pe_int (nomark _)) (pss_cons (ps_set (i := 5) sc_law_deep_told.nd rfl (Or.inl rfl) (pe_tup (pa_cons (pe_op op_cat (pe_op op_cat (pe_slice sl_list (pv 2) po_none (po_some (pe_op op_add (pv 7) pe_int))) (pe_lst (pa_cons (pe_ix ix_tup (pe_tup (pa_cons pe_str (pa_cons pe_str pa_nil))) (C8.pe_c C_law_take hr (by decide) rfl (pa_cons (pv 0) (pa_cons pe_int pa_nil))) (fun _ _ => rfl)) pa_nil))) (pe_slice sl_list (pv 2) (po_some (pe_op op_add (pv 7) pe_int)) po_none)) (pa_cons (pe_op op_add (pv 7) pe_int) pa_nil))))
    (pss_one (ps_set (i := 6) sc_law_deep_told.nd rfl (Or.inl rfl) pe_str))) pss_nil)
    (pss_cons (ps_set (i := 8) sc_law_deep_told.nd rfl (Or.inl rfl) (C8.pe_c C_law_laid hr (by decide) rfl (pa_cons (pv 0) (pa_cons (pe_ix ix_tup (pv 5) pe_int (fun _ _ => rfl)) (pa_cons (pe_ix ix_tup (pv 5) pe_int (fun _ _ => rfl)) pa_nil)))))
    (pss_cons (ps_if (PW.pt (pw_and (pt_cmpR op_eq (pv 4) pe_int (nomark _)) (pw_and1 (pt_cmpR (PKE.op_neN (n := 190) (eqU hr)) (C8.pe_c C_law_told hr (by decide) rfl (pa_cons (pv 1) (pa_cons (pe_op op_add_str (pe_slice sl_str (pe_ix ix_tup (pv 8) pe_int (fun _ _ => rfl)) po_none (po_some pe_int)) (pe_op PKR.op_repS pe_str pe_int)) pa_nil))) (pe_tup (pa_cons pe_str (pa_cons pe_int pa_nil))) (nomark _))))) (pss_one (ps_ret pe_bl)) pss_nil)
    (pss_one (ps_ret (pe_and (pe_cmpR (PKE.op_eqN (n := 190) (eqU hr)) (C8.pe_c C_law_told hr (by decide) rfl (pa_cons (pv 1) (pa_cons (pe_ix ix_tup (pv 3) pe_int (fun _ _ => rfl)) pa_nil))) (pe_tup (pa_cons pe_str (pa_cons pe_int pa_nil))) (nomark _)) (pe_one (pe_cmpR (PKE.op_eqN (n := 190) (eqU hr)) (C8.pe_c C_law_told hr (by decide) rfl (pa_cons (pv 1) (pa_cons (pe_ix ix_tup (pv 8) pe_int (fun _ _ => rfl)) pa_nil))) (pe_tup (pa_cons (pv 6) (pa_cons (pe_ix ix_tup (pv 8) pe_int (fun _ _ => rfl)) pa_nil))) (nomark _)))))))))))))))), ?_⟩
  refine ⟨_, rfl, _, rfl, l, c, dS, sig, sh, 60, rfl, P0, nS, hS, sok, by decide, fun H1 p1 L rk bk xr xb x1 hp1 hL1 nL dr => ?_⟩
  refine ⟨p1, _, 0, _, rfl, rfl, hp1, rfl, ?_⟩
  obtain ⟨lr1, lr2, lb1, lb2⟩ := dr.len
  have lxs : (xr ++ ("5" : Str) :: xb).length = 181 := by rw [List.length_append, List.length_cons]; omega
  refine ⟨_, rfl, _, rfl, l, c, L, 0, [("w" : Str)], _, .fin, _, rfl, x1.pool, nL, hL1, rw_good dr.ts dr.pcs, by omega, fun H2 pg gx gd x2 hpg glaid gq glen => ?_⟩
  have x12 := x1.trans x2
  refine vTake rfl x12.pool (by decide) (by decide) fun kd H3 k0 k4 x3 => ?_
  have x13 := x12.trans x3
  have hS3 := x13.keep _ _ nS hS
  refine ⟨_, rfl, _, rfl, l, c, dS, sig, sh, 61, rfl, x13.pool, nS, hS3, sok, by decide, fun H4 p4 Lb rk' bk' xr' xb' x4 hp4 hLb nLb dr' => ?_⟩
  have x14 := x13.trans x4
  obtain ⟨mr1, mr2, mb1, mb2⟩ := dr'.len
  have mxs : (xr' ++ ("5" : Str) :: xb').length = 184 := by rw [List.length_append, List.length_cons]; omega
  have hL4 := ((x2.trans x3).trans x4).keep _ _ nL hL1
  have gI : (xr ++ ("5" : Str) :: xb)[120]? = some ("5" : Str) := by rw [List.getElem?_append_right (by omega), show 120 - xr.length = 0 by omega]; rfl
  refine ⟨_, rfl, .inl ⟨rfl, _, SqL.of hL4⟩, L, _, .str "5", 120, .str "5", rfl, rfl, SqL.of hL4, rfl, flat_strs _, by rw [List.getElem?_map, gI]; rfl, by simp [eqV], fun m z' hm hz => ?_, ?_⟩
  · rw [List.getElem?_map, List.getElem?_append_left (by omega)] at hz
    cases hx : xr[m]? with
    | none => rw [hx] at hz; cases hz
    | some y =>
      rw [hx] at hz
      cases hz
      have := dr.no5 hx
      simp [eqV, this]
  -- the text that is too deep
  obtain ⟨pre, jd, rst, ed, lpre, std⟩ := st_deep dr'.op
  have bad0 : BadR K sig l H4 p4 "deep" 120 := ⟨Lb, 120, pre, jd, _, true, by exact hp4, hLb, nLb, rw_of dr'.ts ed lpre dr'.pcs, std, rfl, by omega, lpre⟩
  refine ⟨fun σ' H' => ∃ (pb : Addr) (due : Str), σ' = [some (.ref l), some (.ref dS), some (.ref L), some (.ref pg), some (.int kd), some (.ref pb), some (.str due), some (.int 120), none] ∧ Ext l c H4 H' ∧ BadR K sig l H' pb due (if kd = 3 then 120 else 0), ?_, ?_⟩
  · refine ⟨_, rfl, rfl, _, rfl, ite2 (fun e => ?_) (fun e => iteF ⟨p4, "deep", rfl, Ext.refl x14.pool, bad0.mono (by split <;> omega)⟩)⟩
    have kd1 : kd = 1 := V.int.inj (of_decide_eq_true e)
    refine ⟨_, rfl, !(sigK sig).isEmpty, .inr (.inr ⟨_, x14.keep _ _ nS hS, rfl⟩), ?_⟩
    cases hsig : sig with
    | nil => exact iteF ⟨p4, "deep", rfl, Ext.refl x14.pool, hsig ▸ bad0.mono (by split <;> omega)⟩
    | cons e0 er =>
      rw [← hsig]
      have tt : (!(sigK sig).isEmpty) = true := by rw [hsig]; rfl
      rw [tt]
      refine iteT ?_
      refine splice 120 120 (ys := ["(", "5"]) rfl hL4 (by omega) (by show 2 ≤ 20; decide) (fun H' Q' h => ⟨_, rfl, h⟩) rfl (fun H' Q' h => ⟨_, rfl, h⟩) rfl (fun H' Q' _ h => h) fun H5 L5 s5 n5 h5 => ?_
      refine ⟨_, rfl, _, _, rfl, rfl, small (by show 2 ≤ _; decide), fun p hp => ?_⟩
      have x5 := (Ext.refl x14.pool).same s5
      refine ⟨p, "bad", rfl, x5.new x14.pool hp, L5, 121, rk ++ [.sg "("], .int 5, (xr ++ [("(" : Str)]) ++ ("5" : Str) :: ("5" : Str) :: xb, false, SqT.of upd_same, ?_, (x14.pool.ne n5).1, ?_, st_head60 dr.op (by rw [hsig]; intro z; cases z), rfl, by simp only [List.length_append, List.length_cons, List.length_nil]; omega, by rw [kd1]; exact Nat.zero_le _⟩
      · rw [(same_new hp) _ _ h5]
        rw [List.take_append_of_le_length (by omega), List.take_of_length_le (by omega), List.drop_append_of_le_length (by omega), List.drop_of_length_le (by omega)]
        simp
      · have tsa := dr.tr.app (.cons (ts_sign (s := 40) (x := "(") (by decide) (by decide +kernel)) .nil)
        have pcs := dr.pcs
        have p5 : Pc [("w" : Str)] "5" := pcs _ (List.mem_append_right _ (.head _))
        refine rw_rw (rw_at tsa ts_five.fst (fun z hz => ?_) p5 (fun z hz => ?_)) (by rw [List.length_append, lr1]; rfl)
        · rcases List.mem_append.mp hz with h | h
          · exact pcs z (List.mem_append_left _ h)
          · rw [List.mem_singleton.mp h]
            exact (ts_sign (s := 40) (x := "(") (by decide) (by decide +kernel)).pcs (by intro z; cases z) (by intro w z; cases z)
        · exact pcs z (List.mem_append_right _ hz)
  rintro σ' H5 ⟨pb, due, rfl, x5, bad5⟩
  have x15 := x14.trans x5
  have hL5 := x5.keep _ _ nL hL4
  refine ⟨fun σ' H' => ∃ (pb : Addr) (due : Str), σ' = [some (.ref l), some (.ref dS), some (.ref L), some (.ref pg), some (.int kd), some (.ref pb), some (.str due), some (.int 120), none] ∧ Ext l c H5 H' ∧ BadR K sig l H' pb due (if kd = 3 then 120 else 0), ?_, ?_⟩
  · refine ⟨_, rfl, rfl, _, rfl, ite2 (fun e => ?_) (fun e => ⟨pb, due, rfl, Ext.refl x15.pool, bad5⟩)⟩
    have kd2 : kd = 2 := V.int.inj (of_decide_eq_true e)
    refine ⟨_, rfl, _, rfl, _, _, rfl, rfl, _, rfl, ?_⟩
    refine sl_to 121 rfl hL5 fun H6 L6 s6 n6 h6 => ?_
    have x6 := (Ext.refl x15.pool).same s6
    refine ⟨small (by show 2 ≤ _; decide), fun pt hpt => ?_⟩
    have x7 := x6.new (o := .tup [.str "(", .str "{"]) x15.pool hpt
    refine vTake rfl x7.pool (by decide) (by decide) fun d H8 d0 d1 x8 => ?_
    have x9 := x7.trans x8
    obtain ⟨y, ey, hy⟩ : ∃ y : Str, atI [V.str "(", V.str "{"] d = some (.str y) ∧ y ∈ (["(", "{"] : List Str) := by
      rcases (by omega : d = 0 ∨ d = 1) with rfl | rfl
      · exact ⟨"(", rfl, .head _⟩
      · exact ⟨"{", rfl, .tail _ (.head _)⟩
    refine ⟨pt, _, d, .str y, rfl, rfl, x8.seqT x7.pool (SqT.of upd_same), ey, small (by show 1 ≤ _; decide), fun p2 h2 => ?_⟩
    have n6l : L6 ≠ l := (x15.pool.ne n6).1
    have h69 := (x8.keep _ _ n6l ((same_new hpt) _ _ h6))
    have lt : ((xr ++ ("5" : Str) :: xb).take 121).length = 121 := by rw [List.length_take]; omega
    refine cat_s (ys := [y]) ((same_new h2) _ _ h69) upd_same (by rw [lt]; show 121 + 1 ≤ _; omega) fun H10 L10 s10 n10 h10 => ?_
    have x11 := x9.same ((same_new (o := .lst (([y] : List Str).map V.str)) h2).trans s10)
    refine ⟨_, rfl, _, rfl, _, _, rfl, rfl, _, rfl, ?_⟩
    dsimp only [tNoPart]
    refine sl_from 121 rfl (x11.keep _ _ nL hL5) fun H12 L12 s12 n12 h12 => ?_
    refine cat_s (s12 _ _ h10) h12 (by rw [List.length_append, lt, List.length_drop]; show 121 + 1 + _ ≤ _; omega) fun H13 L13 s13 n13 h13 => ?_
    refine ⟨_, rfl, _, _, rfl, rfl, small (by show 2 ≤ _; decide), fun p hp => ?_⟩
    have x13' := (x11.same s12).same s13
    refine ⟨p, "bad", rfl, x13'.new x15.pool hp, L13, 121, rk ++ [.int 5], .sg y, (xr ++ [("5" : Str)]) ++ y :: xb, false, SqT.of upd_same, ?_, ((x11.same s12).pool.ne n13).1, ?_, st_more60 dr.op hy, rfl, by simp only [List.length_append, List.length_cons, List.length_nil]; omega, by rw [kd2]; exact Nat.zero_le _⟩
    · rw [(same_new hp) _ _ h13]
      have e1 : (xr ++ ("5" : Str) :: xb).take 121 = xr ++ [("5" : Str)] := by
        rw [show 121 = xr.length + 1 by omega, List.take_length_add_append]; rfl
      have e2 : (xr ++ ("5" : Str) :: xb).drop 121 = xb := by
        rw [show 121 = xr.length + 1 by omega, List.drop_length_add_append]; rfl
      rw [e1, e2]
      simp
    · have tsa := dr.tr.app (.cons ts_five .nil)
      have pcs := dr.pcs
      have ty : TS (.sg y) y := by
        simp only [List.mem_cons, List.not_mem_nil, or_false] at hy
        rcases hy with rfl | rfl
        · exact ts_sign (s := 40) (by decide) (by decide +kernel)
        · exact ts_sign (s := 123) (by decide) (by decide +kernel)
      refine rw_rw (rw_at tsa ty.fst (fun z hz => ?_) (ty.pcs (by intro z; cases z) (by intro w z; cases z)) (fun z hz => pcs z (List.mem_append_right _ (.tail _ hz)))) (by rw [List.length_append, lr1]; rfl)
      rcases List.mem_append.mp hz with h | h
      · exact pcs z (List.mem_append_left _ h)
      · rw [List.mem_singleton.mp h]
        exact pcs _ (List.mem_append_right _ (.head _))
  rintro σ' H6 ⟨pb, due, rfl, x6, bad6⟩
  have x16 := x15.trans x6
  obtain ⟨Lb2, at_, ksb, jb, xsb, b, bp, bL, bnl, brw, bst, bdue, blen, bmany⟩ := bad6.ex
  have lks := brw.le
  refine ⟨_, rfl, _, rfl, pb, _, 0, _, rfl, rfl, bp, rfl, _, rfl, pb, _, 1, _, rfl, rfl, bp, rfl, l, c, Lb2, at_, _, _, _, _, rfl, x16.pool, bnl, bL, brw, by omega, fun H7 pl xl dl x7 hpl llaid lq llen => ?_⟩
  have x17 := x16.trans x7
  have hS7 := x17.keep _ _ nS hS
  have hpg7 := (((((x3.trans x4).trans x5).trans x6).trans x7)).seqT x12.pool hpg
  have lcs : xl.cps.toList.length = xl.length := (len_list xl).symm
  have gcs : gx.cps.toList.length = gx.length := (len_list gx).symm
  have row60 := dr.op.good (Nat.le_refl _)
  have s7 : Same H7 H7 := Same.refl _
  refine ⟨_, rfl, rfl, _, rfl, ite2 (fun e => ?_) (fun e => iteF ?_)⟩
  · have kd3 : kd = 3 := V.int.inj (of_decide_eq_true e)
    rw [if_pos kd3] at bmany
    have lxl := laid_long llaid
    refine ⟨_, rfl, _, rfl, pl, _, 0, _, rfl, rfl, hpl, rfl, _, rfl, _, rfl, small (by omega), ?_⟩
    refine ⟨")", 3961, rfl, rfl, by decide, by decide, by decide, ?_⟩
    have lcut : (cutS xl none (some (40 : Int))).length = 40 := by
      rw [len_list, show (40 : Int) = ((40 : Nat) : Int) from rfl, cut_to, List.length_take]; omega
    have lrep : (PKR.repS ")" (3961 : Int).toNat).length = 3961 := by
      rw [len_list, PKR.repS_list, List.length_flatten, List.map_replicate, List.sum_replicate_nat]
      show 3961 * 1 = 3961
      rfl
    refine ⟨_, _, rfl, rfl, small (by rw [lcut, lrep]; decide), ?_⟩
    have ltot : (cutS xl none (some (40 : Int)) ++ PKR.repS ")" (3961 : Int).toNat).length = 4001 := by rw [Str.length_append, lcut, lrep]
    generalize cutS xl none (some (40 : Int)) ++ PKR.repS ")" (3961 : Int).toNat = xt at ltot ⊢
    refine ⟨dS, xt, sig, rfl, hS7, by omega, fun hl => absurd hl (by omega), fun hl Hq pq sq hpq => ?_⟩
    refine ⟨small (by show 2 ≤ _; decide), fun p8 h8 => ?_⟩
    have dq8 := pair_dt (p := p8) (K := K) (H := upd Hq p8 (.tup [.str "long", .int 0])) (SqT.of upd_same)
    refine ⟨_, _, pair_dt (Same.seqT (same_new h8) hpq), dq8, pair_lay (x := "long") _ (by decide), pair_lay (x := "long") _ (by decide), .inl (pair_dep _ _), ?_⟩
    rw [SeqAt.eqv_refl _ (pair_lay (x := "long") _ (by decide))]
    refine ⟨_, rfl, iteF ?_⟩
    have s8 := sq.trans (same_new (o := .tup [.str "long", .int 0]) h8)
    refine ⟨_, rfl, _, rfl, pg, _, 0, _, rfl, rfl, Same.seqT s8 hpg7, rfl, dS, gx, sig, rfl, s8 _ _ hS7, by omega, fun hl => ⟨tk_ok sok (by omega) gq (by decide), fun H9 p9 s9 hp9 => ?_⟩, fun hl => absurd hl (by omega)⟩
    rw [told_good glaid row60] at hp9
    refine ⟨small (by show 2 ≤ _; decide), fun p10 h10 => ?_⟩
    have dq := pair_dt (p := p10) (K := K) (H := upd H9 p10 (.tup [.str "let", .int 0])) (SqT.of upd_same)
    refine ⟨_, _, pair_dt (x := "let") (n := 0) (Same.seqT (same_new h10) hp9), dq, pair_lay _ (.head _), pair_lay _ (.head _), .inl (pair_dep _ _), ?_⟩
    rw [SeqAt.eqv_refl _ (pair_lay _ (.head _))]
    refine ⟨_, rfl, iteT ?_⟩
    have s10 := (s8.trans s9).trans (same_new (o := .tup [.str "let", .int 0]) h10)
    refine ⟨_, rfl, _, rfl, pl, _, 0, _, rfl, rfl, Same.seqT s10 hpl, rfl, dS, xl, sig, rfl, s10 _ _ hS7, by omega, fun hl => ⟨tk_ok sok (by omega) lq (by decide), fun H11 p11 s11 hp11 => ?_⟩, fun hl => absurd hl (by omega)⟩
    rw [told_bad llaid bst, ← bdue] at hp11
    refine ⟨_, rfl, _, rfl, pl, _, 1, _, rfl, rfl, Same.seqT (s10.trans s11) hpl, rfl, small (by show 2 ≤ _; decide), fun p12 h12 => ?_⟩
    have dq2 := pair_dt (p := p12) (K := K) (H := upd H11 p12 (.tup [.str due, .int (dl : Nat)])) (SqT.of upd_same)
    have hdue : due ∈ (["let", "bad", "deep", "long"] : List Str) := by rw [bdue]; cases b <;> decide
    refine ⟨_, _, pair_dt (x := due) (n := (dl : Nat)) (Same.seqT (same_new h12) hp11), dq2, pair_lay _ hdue, pair_lay _ hdue, .inl (pair_dep _ _), ?_⟩
    rw [SeqAt.eqv_refl _ (pair_lay _ hdue)]
    exact q _
  refine ⟨_, rfl, _, rfl, pg, _, 0, _, rfl, rfl, Same.seqT s7 hpg7, rfl, dS, gx, sig, rfl, s7 _ _ hS7, by omega, fun hl => ⟨tk_ok sok (by omega) gq (by decide), fun H9 p9 s9 hp9 => ?_⟩, fun hl => absurd hl (by omega)⟩
  rw [told_good glaid row60] at hp9
  refine ⟨small (by show 2 ≤ _; decide), fun p10 h10 => ?_⟩
  have dq := pair_dt (p := p10) (K := K) (H := upd H9 p10 (.tup [.str "let", .int 0])) (SqT.of upd_same)
  refine ⟨_, _, pair_dt (x := "let") (n := 0) (Same.seqT (same_new h10) hp9), dq, pair_lay _ (.head _), pair_lay _ (.head _), .inl (pair_dep _ _), ?_⟩
  rw [SeqAt.eqv_refl _ (pair_lay _ (.head _))]
  refine ⟨_, rfl, iteT ?_⟩
  have s10 := (s7.trans s9).trans (same_new (o := .tup [.str "let", .int 0]) h10)
  refine ⟨_, rfl, _, rfl, pl, _, 0, _, rfl, rfl, Same.seqT s10 hpl, rfl, dS, xl, sig, rfl, s10 _ _ hS7, by omega, fun hl => ⟨tk_ok sok (by omega) lq (by decide), fun H11 p11 s11 hp11 => ?_⟩, fun hl => absurd hl (by omega)⟩
  rw [told_bad llaid bst, ← bdue] at hp11
  refine ⟨_, rfl, _, rfl, pl, _, 1, _, rfl, rfl, Same.seqT (s10.trans s11) hpl, rfl, small (by show 2 ≤ _; decide), fun p12 h12 => ?_⟩
  have dq2 := pair_dt (p := p12) (K := K) (H := upd H11 p12 (.tup [.str due, .int (dl : Nat)])) (SqT.of upd_same)
  have hdue : due ∈ (["let", "bad", "deep", "long"] : List Str) := by rw [bdue]; cases b <;> decide
  refine ⟨_, _, pair_dt (x := due) (n := (dl : Nat)) (Same.seqT (same_new h12) hp11), dq2, pair_lay _ hdue, pair_lay _ hdue, .inl (pair_dep _ _), ?_⟩
  rw [SeqAt.eqv_refl _ (pair_lay _ hdue)]
  exact q _
end
end PK
namespace PK
open PySem PySem.Spec PyProof.Rows L2 _root_.TL
/-! the law -/
def spLaw (K : PySem.W.Frag) : Sp := fun vs H Q _ => ∃ (a : Addr) (ns : List Int), vs = [.ref a] ∧ SqL K H a (ns.map V.int) ∧ ns.length ≤ 63 ∧ ∀ H', Q (.bl true) H'
section
variable {P : Program} {w : World} {K : PySem.W.Frag} {mg : Str → Option Value} {base : Heap} {aS CB CD CL CP CT : Addr}
abbrev s_law : Stmt := topS 48
theorem sc_law : FnScope ["script", "pool", "shift", "signature", "words", "term", "row", "planted", "good", "laid", "k"] ["script"] (defScope s_law) := ⟨rfl, rfl, rfl, by decide +kernel, rfl, by decide +kernel, by decide +kernel⟩
-- slots: 0:script 1:pool(cell) 2:shift(cell) 3:signature 4:words 5:term 6:row 7:planted 8:good 9:laid 10:k(comp)
theorem ok_law {f : Addr} {fd : FuncData} (F : Fun K "law" "law" s_law f fd) (T : TxtB K mg aS CL CP CB CD CT) (C_law_pool : C8.Cal P w K mg base 1 "_law_pool" (spPool K) []) (C_law_take : C8.Cal P w K mg base 2 "_law_take" (spTake 2) []) (C_law_word : C8.Cal P w K mg base 3 "_law_word" spLWord [])
    (C_law_signature : C8.Cal P w K mg base 4 "_law_signature" spSig []) (C_law_term : C8.Cal P w K mg base 6 "_law_term" (spTerm K) []) (C_law_words : C8.Cal P w K mg base 62 "_law_words" (spLw K 60) []) (C_law_laid : C8.Cal P w K mg base 4 "_law_laid" (spLaid K) []) (C_law_told : C8.Cal P w K mg base 129 "_law_told" (spTold K) [])
    (C_law_planted : C8.Cal P w K mg base 4 "_law_planted" (spPl K) []) (C_law_deep_told : C8.Cal P w K mg base 130 "_law_deep_told" spDT []) : FnOk P w K mg base CX0 131 f fd ["script"] (spLaw K) := by
  refine F.ok sc_law (fun vs H Q E h => ?_) (fun cdv A outer s H vs Q E hr h => ?_)
  · obtain ⟨a, ns, rfl, _⟩ := h
    rfl
  obtain ⟨a, ns, rfl, ha, hn, q⟩ := h
  refine ⟨_, (pss_cons (ps_set (i := 1) sc_law.nd rfl (Or.inr rfl) (C8.pe_c C_law_pool hr (by decide) rfl (pa_cons (pv 0) pa_nil)))
    (pss_cons (ps_set (i := 2) sc_law.nd rfl (Or.inr rfl) (C8.pe_c C_law_take hr (by decide) rfl (pa_cons (pv 1) (pa_cons pe_int pa_nil))))
    (pss_cons (ps_set (i := 3) sc_law.nd rfl (Or.inl rfl) (C8.pe_c C_law_signature hr (by decide) rfl (pa_cons (pv 1) (pa_cons (pv 2) pa_nil))))
    (pss_cons (ps_setLc (i := 4) (own := [("k", 10)]) (g := (gName 10)) (tt := tYes) (by rfl) sc_law.nd rfl rfl (sw_true rfl rfl rfl (by decide +kernel)) (pi_range1 (by rfl) T.z_range (pa_cons pe_int pa_nil)) (blkOk_by (N := ["script", "pool", "shift", "signature", "words", "term", "row", "planted", "good", "laid", "k"]) (sc := defScope s_law) (by decide +kernel)) (fun _ _ _ _ _ => (pg_name (i := 10) sc_law.nd rfl (Or.inl rfl))) (fun _ _ _ _ _ => pts_nil) (fun _ _ _ _ _ => (C8.pe_c C_law_word hr (by decide) rfl (pa_cons (pv 1) (pa_cons (pe_op op_add pe_int (pv 10)) (pa_cons (pv 2) pa_nil))))))
    (pss_cons (ps_set (i := 5) sc_law.nd rfl (Or.inl rfl) (C8.pe_c C_law_term hr (by decide) rfl (pa_cons (pv 1) (pa_cons (pv 3) (pa_cons (pv 4) (pa_cons (pv 4) (pa_cons pe_int pa_nil)))))))
    (pss_cons (ps_set (i := 6) sc_law.nd rfl (Or.inl rfl) (C8.pe_c C_law_words hr (by decide) rfl (pa_cons (pv 1) (pa_cons (pv 5) pa_nil))))
    (pss_cons (ps_if (pt_cmpR op_eq (C8.pe_c C_law_take hr (by decide) rfl (pa_cons (pv 1) (pa_cons pe_int pa_nil))) pe_int (nomark _)) (pss_one (ps_ret (C8.pe_c C_law_deep_told hr (by decide) rfl (pa_cons (pv 1) (pa_cons (pv 3) pa_nil))))) pss_nil)
    (pss_cons (ps_set (i := 7) sc_law.nd rfl (Or.inl rfl) (C8.pe_c C_law_planted hr (by decide) rfl (pa_cons (pv 1) (pa_cons (pv 3) (pa_cons (pv 6) (pa_cons (pv 4) pa_nil))))))
    (pss_cons (ps_set (i := 8) sc_law.nd rfl (Or.inl rfl) (pe_ix ix_tup (C8.pe_c C_law_laid hr (by decide) rfl (pa_cons (pv 1) (pa_cons (pv 6) (pa_cons pe_int pa_nil)))) pe_int (fun _ _ => rfl)))
    (pss_cons (ps_set (i := 9) sc_law.nd rfl (Or.inl rfl) (C8.pe_c C_law_laid hr (by decide) rfl (pa_cons (pv 1) (pa_cons (pe_ix ix_tup (pv 7) pe_int (fun _ _ => rfl)) (pa_cons (pe_ix ix_tup (pv 7) pe_int (fun _ _ => rfl)) pa_nil)))))
    (pss_cons (ps_if (pt_cmpR op_gt (pe_callB (call_max2 (by rfl)) (by rfl) T.z_max (by decide +kernel) (pa_cons (pe_callB call_len_str (by rfl) T.z_len (by decide +kernel) (pa_cons (pv 8) pa_nil)) (pa_cons (pe_callB call_len_str (by rfl) T.z_len (by decide +kernel) (pa_cons (pe_ix ix_tup (pv 9) pe_int (fun _ _ => rfl)) pa_nil)) pa_nil))) pe_int (nomark _)) (pss_one (ps_ret pe_bl)) pss_nil)
    (pss_one (ps_ret (pe_and (pe_cmpR (PKE.op_eqN (n := 190) (eqU hr)) (C8.pe_c C_law_told hr (by decide) rfl (pa_cons (pv 3) (pa_cons (pv 8) pa_nil))) (pe_tup (pa_cons pe_str (pa_cons pe_int pa_nil))) (nomark _)) (pe_one (pe_cmpR (PKE.op_eqN (n := 190) (eqU hr)) (C8.pe_c C_law_told hr (by decide) rfl (pa_cons (pv 3) (pa_cons (pe_ix ix_tup (pv 9) pe_int (fun _ _ => rfl)) pa_nil))) (pe_tup (pa_cons pe_str (pa_cons (pe_ix ix_tup (pv 9) pe_int (fun _ _ => rfl)) pa_nil))) (nomark _))))))))))))))))), ?_⟩
  refine ⟨_, rfl, a, ns, rfl, ha, hn, fun H0 l c s0 hl0 P0 => ?_⟩
  refine vTake rfl P0 (by decide) (by decide) fun sh H1 sh0 sh1 x1 => ?_
  refine ⟨_, rfl, _, rfl, l, c, sh, rfl, x1.pool, fun H2 R sig x2 hR1 hR2 sok => ?_⟩
  have nR : R ≠ l := (x1.pool.ne hR1).1
  have P2 := x2.pool
  refine ⟨5, rfl, by decide, by decide, fun D3 hD3 => lcX (K := K) (walk_range (lo := 0) (n := (5 : Int).toNat)) P2 hD3 (by decide) (fun ds => ∃ ss : List Str, ds = ss.map PyData.str ∧ ∀ z ∈ ss, Wd z) ⟨[], rfl, fun _ h => absurd h List.not_mem_nil⟩ (fun _ _ => trivial) ?_ ?_⟩
  · rintro i x H7 H7 ds R' hi x7 ⟨rfl, rfl⟩ ⟨ss, rfl, hss⟩ len r
    refine ⟨rfl, _, rfl, _, rfl, _, _, rfl, rfl, _, rfl, l, c, _, sh, rfl, x7.pool, fun H8 y x8 wy ty ny => ?_⟩
    refine r (.str y) _ _ x8 (.str y) ⟨ss ++ [y], by rw [List.map_append]; rfl, fun z hz => ?_⟩
    rcases List.mem_append.mp hz with h | h
    · exact hss z h
    · rw [List.mem_singleton.mp h]; exact wy
  rintro H3 vs3 ds3 x3 hv3 da3 len3 ⟨ws, rfl, hws⟩
  obtain rfl : vs3 = ws.map V.str := da3.strsE
  rw [List.length_map] at len3
  have len3 : ws.length = 5 := len3
  have W3 : Wl H3 l D3 ws := ⟨hv3, (P2.ne hD3).1, by omega, hws⟩
  have nw : ws ≠ [] := fun e => by rw [e] at len3; cases len3
  have hs3 := x3.keep _ _ nR hR2
  refine ⟨_, rfl, _, rfl, _, rfl, _, rfl, l, c, R, D3, D3, sig, ws, ws, sh, 60, rfl, x3.pool, nR, hs3, sok, W3, ⟨nw, fun _ h => h⟩, W3, by decide, by decide, fun tv t H4 x4 dt tok tht tsz => ?_⟩
  have hs4 := x4.keep _ _ nR hs3
  have P4 := x4.pool
  refine ⟨_, rfl, _, rfl, l, c, tv, t, sig, ws, sh, rfl, P4, dt, tok, sok, by omega, by omega, fun H5 L ks xs x5 hL hL5 tsl flt lxs few => ?_⟩
  have nL := (P4.ne hL).1
  have x35 := x4.trans x5
  have row : RowOk sig ks := ⟨60, t.rm, Nat.le_refl _, flt 60 (by omega)⟩
  refine vTake rfl x5.pool (by decide) (by decide) fun d H6 d0 d8 x6 => ?_
  have x36 := x35.trans x6
  have hs6 := x36.keep _ _ nR hs3
  refine ⟨rfl, _, rfl, ite2 (fun e => ?_) (fun e => ?_)⟩
  · exact ⟨_, rfl, _, rfl, l, c, R, sig, sh, rfl, x6.pool, nR, hs6, sok, q⟩
  have hL6 := x6.keep _ _ nL hL5
  have l500 : xs.length ≤ 500 := by omega
  have pcs : ∀ z ∈ xs, Pc (("w" : Str) :: ws) z := row_pcs tsl row.clean fun w hw => .tail _ (few w hw)
  refine ⟨_, rfl, _, rfl, _, rfl, _, rfl, l, c, R, L, D3, sig, sh, ks, xs, ws, ("w" : Str) :: ws, rfl, x6.pool, nR, hs6, sok, nL, hL6, tsl, row, l500, W3.ext x36, len3, fun w h => .tail _ h, .head _, fun w h => .tail _ (few w h), fun H7 p7 L7 kb jb xb ab x7 hp7 hL7 nL7 rwb stb lb => ?_⟩
  have hL7' := x7.keep _ _ nL hL6
  refine ⟨_, rfl, _, rfl, l, c, L, 0, ("w" : Str) :: ws, ks, .fin, xs, rfl, x7.pool, nL, hL7', rw_good tsl pcs, by omega, fun H8 pg gx gd x8 hpg glaid gq glen => ?_⟩
  refine ⟨pg, _, 0, _, rfl, rfl, hpg, rfl, ?_⟩
  have hL8 := x8.keep _ _ nL7 hL7
  have hp8 := x8.seqT x7.pool hp7
  refine ⟨_, rfl, _, rfl, p7, _, 0, _, rfl, rfl, hp8, rfl, _, rfl, p7, _, 1, _, rfl, rfl, hp8, rfl, l, c, L7, ab, _, _, _, _, rfl, x8.pool, nL7, hL8, rwb, by omega, fun H9 pl xl dl x9 hpl llaid lq llen => ?_⟩
  have hs9 := ((x7.trans x8).trans x9).keep _ _ nR hs6
  have lcs : xl.cps.toList.length = xl.length := (len_list xl).symm
  have gcs : gx.cps.toList.length = gx.length := (len_list gx).symm
  refine ⟨_, rfl, gx, rfl, small (by omega), _, rfl, pl, _, 0, _, rfl, rfl, hpl, rfl, xl, rfl, small (by omega), _, _, rfl, _, _, rfl, rfl, _, rfl, ite2 (fun e => q _) (fun e => ?_)⟩
  have hmax : ¬ ((4000 : Int) < if ((xl.length : Nat) : Int) > ((gx.length : Nat) : Int) then ((xl.length : Nat) : Int) else ((gx.length : Nat) : Int)) := fun z => e (decide_eq_true z)
  have hg : gx.length ≤ 4000 ∧ xl.length ≤ 4000 := by
    split at hmax <;> omega
  clear hmax e
  have lN : (("w" : Str) :: ws).length < 64 := by rw [List.length_cons]; omega
  refine ⟨_, rfl, _, rfl, R, gx, sig, rfl, hs9, by omega, fun hl => ⟨tk_ok sok (by omega) gq lN, fun H10 p9 s9 hp9 => ?_⟩, fun hl => absurd hl (by omega)⟩
  rw [told_good glaid row] at hp9
  refine ⟨small (by show 2 ≤ _; decide), fun p10 h10 => ?_⟩
  have dq := pair_dt (p := p10) (K := K) (H := upd H10 p10 (.tup [.str "let", .int 0])) (SqT.of upd_same)
  refine ⟨_, _, pair_dt (x := "let") (n := 0) (Same.seqT (same_new h10) hp9), dq, pair_lay _ (.head _), pair_lay _ (.head _), .inl (pair_dep _ _), ?_⟩
  rw [SeqAt.eqv_refl _ (pair_lay _ (.head _))]
  refine ⟨_, rfl, iteT ?_⟩
  have s10 := s9.trans (same_new (o := .tup [.str "let", .int 0]) h10)
  refine ⟨_, rfl, _, rfl, pl, _, 0, _, rfl, rfl, Same.seqT s10 hpl, rfl, R, xl, sig, rfl, s10 _ _ hs9, by omega, fun hl => ⟨tk_ok sok (by omega) lq lN, fun H11 p11 s11 hp11 => ?_⟩, fun hl => absurd hl (by omega)⟩
  rw [told_bad llaid stb] at hp11
  refine ⟨_, rfl, pl, _, 1, _, rfl, rfl, Same.seqT (s10.trans s11) hpl, rfl, small (by show 2 ≤ _; decide), fun p12 h12 => ?_⟩
  have dq2 := pair_dt (p := p12) (K := K) (H := upd H11 p12 (.tup [.str "bad", .int (dl : Nat)])) (SqT.of upd_same)
  have hb : ("bad" : Str) ∈ (["let", "bad", "deep", "long"] : List Str) := by decide
  refine ⟨_, _, pair_dt (x := "bad") (n := (dl : Nat)) (Same.seqT (same_new h12) hp11), dq2, pair_lay _ hb, pair_lay _ hb, .inl (pair_dep _ _), ?_⟩
  rw [SeqAt.eqv_refl _ (pair_lay _ hb)]
  exact q _
end
end PK
namespace PK
open PySem L2
section
variable {P : Program} {w : World} {K : PySem.W.Frag} {mg : Str → Option Value} {base : Heap}
theorem none_okX {f : Addr} {fd : FuncData} {ps : List Str} {sp : Sp} {k : Nat} (no : ∀ vs H Q E, ¬ sp vs H Q E) : FnOk P w K mg base (L2.CX P w) k f fd ps sp :=
  ⟨fun vs H Q E h => absurd h (no vs H Q E), fun A outer s H args us vs Q E _ _ _ _ h => absurd h (no vs H Q E)⟩
theorem none_ok {f : Addr} {fd : FuncData} {ps : List Str} {sp : Sp} {k : Nat} (no : ∀ vs H Q E, ¬ sp vs H Q E) : FnOk P w K mg base CX0 k f fd ps sp :=
  ⟨fun vs H Q E h => absurd h (no vs H Q E), fun A outer s H args us vs Q E _ _ _ _ h => absurd h (no vs H Q E)⟩
theorem cal_mk {x : Str} {f : Addr} {fd : FuncData} {ps : List Str} {sp : Sp} {k : Nat} (G : FnOk P w K mg base CX0 k f fd ps sp) (m : mg x = some (.ref f)) (kp : PySem.W.keepIn K (.ref f) = true) (b : Binds K fd ps []) : C8.Cal P w K mg base k x sp [] :=
  ⟨f, fd, ps, [], G, m, kp, b, .nil⟩
end
theorem exm_self {K : PySem.W.Frag} {S : Addr} (h1 : PySem.W.subIn K (.ref S) (.type "BaseException") = some true) (h2 : PySem.W.isClsIn K S = true) (h3 : PySem.W.typeIn K (.ref S) = some (.type "type")) (h4 : PySem.W.subIn K (.ref S) (.ref S) = some true) :
    PySem.W.exmOne K (.ref S) (.ref S) = some true := by
  have e1 : (PySem.W.subIn K (.ref S) (.type "BaseException") == some true) = true := by rw [h1] <;> rfl
  have e2 : ((PySem.W.clsIn K S).isSome && PySem.W.typeIn K (.ref S) == some (.type "type")) = true := by
    have h2' : (PySem.W.clsIn K S).isSome = true := h2
    rw [h2', h3] <;> rfl
  show (if (PySem.W.subIn K (.ref S) (.type "BaseException") == some true) = true then (if ((PySem.W.clsIn K S).isSome && PySem.W.typeIn K (.ref S) == some (.type "type")) = true then PySem.W.subIn K (.ref S) (.ref S) else none) else none) = some true
  rw [if_pos e1, if_pos e2]
  exact h4
theorem kit_t {K : PySem.W.Frag} {D C : Addr} (h1 : PySem.W.isClsIn K C = true) (h2 : PySem.W.typeIn K (.ref C) = some (.type "type")) (h3 : PySem.W.subIn K (.ref D) (.ref C) = some true) : PySem.W.kitOne K (.ref D) (.ref C) = some true := by
  have h1' : (PySem.W.clsIn K C).isSome = true := h1
  unfold PySem.W.kitOne
  split
  · rfl
  · show (if ((PySem.W.clsIn K C).isSome && PySem.W.typeIn K (.ref C) == some (.type "type")) = true then PySem.W.subIn K (.ref D) (.ref C) else none) = some true
    rw [if_pos (by rw [h1', h2] <;> rfl)]
    exact h3
theorem kit_v {K : PySem.W.Frag} {D : Addr} (h : PySem.W.subIn K (.ref D) (.type "ValueError") = some true) : PySem.W.kitOne K (.ref D) (.type "ValueError") = some true := by
  unfold PySem.W.kitOne
  split
  · rfl
  · show (if PySem.W.kitMeta "ValueError" = true then PySem.W.subIn K (.ref D) (.type "ValueError") else none) = some true
    rw [if_pos (by decide +kernel)]
    exact h
theorem ne_sub {K : PySem.W.Frag} {D C : Addr} (h : PySem.W.subIn K (.ref D) (.ref C) = some false) (h2 : PySem.W.subIn K (.ref D) (.ref D) = some true) : D ≠ C := fun e => by
  subst e; rw [h] at h2; cases h2
theorem kit_f {K : PySem.W.Frag} {D C : Addr} (h0 : PySem.W.subIn K (.ref D) (.ref D) = some true) (h1 : PySem.W.isClsIn K C = true) (h2 : PySem.W.typeIn K (.ref C) = some (.type "type")) (h3 : PySem.W.subIn K (.ref D) (.ref C) = some false) : PySem.W.kitOne K (.ref D) (.ref C) = some false := by
  have ne := ne_sub h3 h0
  have h1' : (PySem.W.clsIn K C).isSome = true := h1
  unfold PySem.W.kitOne
  split
  · rename_i e; exact absurd (by simpa using e) ne
  · show (if ((PySem.W.clsIn K C).isSome && PySem.W.typeIn K (.ref C) == some (.type "type")) = true then PySem.W.subIn K (.ref D) (.ref C) else none) = some false
    rw [if_pos (by rw [h1', h2] <;> rfl)]
    exact h3
theorem none_okN {P : Program} {w : World} {K : PySem.W.Frag} {mg : Str → Option Value} {base : Heap} {f : Addr} {fd : FuncData} {ps : List Str} {sp : Sp} {k : Nat} (no : ∀ vs H Q E, ¬ sp vs H Q E) : FnOk P w K mg base (L2N.CX P w) k f fd ps sp :=
  ⟨fun vs H Q E h => absurd h (no vs H Q E), fun A outer s H args us vs Q E _ _ _ _ h => absurd h (no vs H Q E)⟩
set_option maxHeartbeats 0 in
theorem all_mk {l : PySem.W.OpenLaw} {w : World} {K : PySem.W.Frag} {h : Heap} {mg : Str → Option Value} {fa f1 f2 f3 f4 f5 f6 f7 f8 f9 f10 f11 f12 f13 f14 f15 f16 f17 f18 f19 f20 f21 f22 f23 f24 f25 f26 f27 f28 f29 : Addr} (X : K.In h) (G : h.Ns mainGlobals mg) (hfa : mg "law" = some (.ref fa))
    {od1 an1 od2 an2 od3 an3 od4 an4 od5 an5 od6 an6 od7 an7 od8 an8 od9 an9 od10 an10 od11 an11 od12 an12 od13 an13 od14 an14 od15 an15 od16 an16 od17 an17 od18 an18 od19 an19 od20 an20 od21 an21 od22 an22 od23 an23 od24 an24 od25 an25 od26 an26 od27 an27 od28 an28 od29 an29 : Option Addr} {sl1 sl2 sl3 sl4 sl5 sl6 sl7 sl8 sl9 sl10 sl11 sl12 sl13 sl14 sl15 sl16 sl17 sl18 sl19 sl20 sl21 sl22 sl23 sl24 sl25 sl26 sl27 sl28 sl29 : Array (Option Value)} {oc1 kV1 dc1 pm1 cd1 ct1 oc2 kV2 dc2 pm2 cd2 ct2 oc3 kV3 dc3 pm3 cd3 ct3 oc4 kV4 dc4 pm4 cd4 ct4 oc5 kV5 dc5 pm5 cd5 ct5 oc6 kV6 dc6 pm6 cd6 ct6 oc7 kV7 dc7 pm7 cd7 ct7 oc8 kV8 dc8 pm8 cd8 ct8 oc9 kV9 dc9 pm9 cd9 ct9 oc10 kV10 dc10 pm10 cd10 ct10 oc11 kV11 dc11 pm11 cd11 ct11 oc12 kV12 dc12 pm12 cd12 ct12 oc13 kV13 dc13 pm13 cd13 ct13 oc14 kV14 dc14 pm14 cd14 ct14 oc15 kV15 dc15 pm15 cd15 ct15 oc16 kV16 dc16 pm16 cd16 ct16 oc17 kV17 dc17 pm17 cd17 ct17 oc18 kV18 dc18 pm18 cd18 ct18 oc19 kV19 dc19 pm19 cd19 ct19 oc20 kV20 dc20 pm20 cd20 ct20 oc21 kV21 dc21 pm21 cd21 ct21 oc22 kV22 dc22 pm22 cd22 ct22 oc23 kV23 dc23 pm23 cd23 ct23 oc24 kV24 dc24 pm24 cd24 ct24 oc25 kV25 dc25 pm25 cd25 ct25 oc26 kV26 dc26 pm26 cd26 ct26 oc27 kV27 dc27 pm27 cd27 ct27 oc28 kV28 dc28 pm28 cd28 ct28 oc29 kV29 dc29 pm29 cd29 ct29 : Value}
    (a1 : PySem.W.nsIn K mainGlobals "is_word" = some (some (.ref f1))) (l1 : K.lookup f1 = some ⟨oc1, od1, .func (PySem.W.fnOf "is_word" "is_word" (defArgs s_is_word) (defBody s_is_word) (defScope s_is_word) .none kV1 dc1 pm1 an1 cd1 ct1), sl1⟩) (c1 : PySem.W.codeIn K cd1 "is_word" = true) (k1 : PySem.W.keepIn K (.ref f1) = true)
    (a2 : PySem.W.nsIn K mainGlobals "read_term" = some (some (.ref f2))) (l2 : K.lookup f2 = some ⟨oc2, od2, .func (PySem.W.fnOf "read_term" "read_term" (defArgs s_read_term) (defBody s_read_term) (defScope s_read_term) .none kV2 dc2 pm2 an2 cd2 ct2), sl2⟩) (c2 : PySem.W.codeIn K cd2 "read_term" = true) (k2 : PySem.W.keepIn K (.ref f2) = true)
    (a3 : PySem.W.nsIn K mainGlobals "_end_of_run" = some (some (.ref f3))) (l3 : K.lookup f3 = some ⟨oc3, od3, .func (PySem.W.fnOf "_end_of_run" "_end_of_run" (defArgs s_end_of_run) (defBody s_end_of_run) (defScope s_end_of_run) .none kV3 dc3 pm3 an3 cd3 ct3), sl3⟩) (c3 : PySem.W.codeIn K cd3 "_end_of_run" = true) (k3 : PySem.W.keepIn K (.ref f3) = true)
    (a4 : PySem.W.nsIn K mainGlobals "_token_end" = some (some (.ref f4))) (l4 : K.lookup f4 = some ⟨oc4, od4, .func (PySem.W.fnOf "_token_end" "_token_end" (defArgs s_token_end) (defBody s_token_end) (defScope s_token_end) .none kV4 dc4 pm4 an4 cd4 ct4), sl4⟩) (c4 : PySem.W.codeIn K cd4 "_token_end" = true) (k4 : PySem.W.keepIn K (.ref f4) = true)
    (a5 : PySem.W.nsIn K mainGlobals "_is_number" = some (some (.ref f5))) (l5 : K.lookup f5 = some ⟨oc5, od5, .func (PySem.W.fnOf "_is_number" "_is_number" (defArgs s_is_number) (defBody s_is_number) (defScope s_is_number) .none kV5 dc5 pm5 an5 cd5 ct5), sl5⟩) (c5 : PySem.W.codeIn K cd5 "_is_number" = true) (k5 : PySem.W.keepIn K (.ref f5) = true)
    (a6 : PySem.W.nsIn K mainGlobals "_token" = some (some (.ref f6))) (l6 : K.lookup f6 = some ⟨oc6, od6, .func (PySem.W.fnOf "_token" "_token" (defArgs s_token) (defBody s_token) (defScope s_token) .none kV6 dc6 pm6 an6 cd6 ct6), sl6⟩) (c6 : PySem.W.codeIn K cd6 "_token" = true) (k6 : PySem.W.keepIn K (.ref f6) = true)
    (a7 : PySem.W.nsIn K mainGlobals "_tokens_of" = some (some (.ref f7))) (l7 : K.lookup f7 = some ⟨oc7, od7, .func (PySem.W.fnOf "_tokens_of" "_tokens_of" (defArgs s_tokens_of) (defBody s_tokens_of) (defScope s_tokens_of) .none kV7 dc7 pm7 an7 cd7 ct7), sl7⟩) (c7 : PySem.W.codeIn K cd7 "_tokens_of" = true) (k7 : PySem.W.keepIn K (.ref f7) = true)
    (a8 : PySem.W.nsIn K mainGlobals "_law_pool" = some (some (.ref f8))) (l8 : K.lookup f8 = some ⟨oc8, od8, .func (PySem.W.fnOf "_law_pool" "_law_pool" (defArgs s_law_pool) (defBody s_law_pool) (defScope s_law_pool) .none kV8 dc8 pm8 an8 cd8 ct8), sl8⟩) (c8 : PySem.W.codeIn K cd8 "_law_pool" = true) (k8 : PySem.W.keepIn K (.ref f8) = true)
    (a9 : PySem.W.nsIn K mainGlobals "_law_take" = some (some (.ref f9))) (l9 : K.lookup f9 = some ⟨oc9, od9, .func (PySem.W.fnOf "_law_take" "_law_take" (defArgs s_law_take) (defBody s_law_take) (defScope s_law_take) .none kV9 dc9 pm9 an9 cd9 ct9), sl9⟩) (c9 : PySem.W.codeIn K cd9 "_law_take" = true) (k9 : PySem.W.keepIn K (.ref f9) = true)
    (a10 : PySem.W.nsIn K mainGlobals "_law_word" = some (some (.ref f10))) (l10 : K.lookup f10 = some ⟨oc10, od10, .func (PySem.W.fnOf "_law_word" "_law_word" (defArgs s_law_word) (defBody s_law_word) (defScope s_law_word) .none kV10 dc10 pm10 an10 cd10 ct10), sl10⟩) (c10 : PySem.W.codeIn K cd10 "_law_word" = true) (k10 : PySem.W.keepIn K (.ref f10) = true)
    (a11 : PySem.W.nsIn K mainGlobals "_law_signature" = some (some (.ref f11))) (l11 : K.lookup f11 = some ⟨oc11, od11, .func (PySem.W.fnOf "_law_signature" "_law_signature" (defArgs s_law_signature) (defBody s_law_signature) (defScope s_law_signature) .none kV11 dc11 pm11 an11 cd11 ct11), sl11⟩) (c11 : PySem.W.codeIn K cd11 "_law_signature" = true) (k11 : PySem.W.keepIn K (.ref f11) = true)
    (a12 : PySem.W.nsIn K mainGlobals "_law_integer" = some (some (.ref f12))) (l12 : K.lookup f12 = some ⟨oc12, od12, .func (PySem.W.fnOf "_law_integer" "_law_integer" (defArgs s_law_integer) (defBody s_law_integer) (defScope s_law_integer) .none kV12 dc12 pm12 an12 cd12 ct12), sl12⟩) (c12 : PySem.W.codeIn K cd12 "_law_integer" = true) (k12 : PySem.W.keepIn K (.ref f12) = true)
    (a13 : PySem.W.nsIn K mainGlobals "_law_leaf" = some (some (.ref f13))) (l13 : K.lookup f13 = some ⟨oc13, od13, .func (PySem.W.fnOf "_law_leaf" "_law_leaf" (defArgs s_law_leaf) (defBody s_law_leaf) (defScope s_law_leaf) .none kV13 dc13 pm13 an13 cd13 ct13), sl13⟩) (c13 : PySem.W.codeIn K cd13 "_law_leaf" = true) (k13 : PySem.W.keepIn K (.ref f13) = true)
    (a14 : PySem.W.nsIn K mainGlobals "_law_high" = some (some (.ref f14))) (l14 : K.lookup f14 = some ⟨oc14, od14, .func (PySem.W.fnOf "_law_high" "_law_high" (defArgs s_law_high) (defBody s_law_high) (defScope s_law_high) .none kV14 dc14 pm14 an14 cd14 ct14), sl14⟩) (c14 : PySem.W.codeIn K cd14 "_law_high" = true) (k14 : PySem.W.keepIn K (.ref f14) = true)
    (a15 : PySem.W.nsIn K mainGlobals "_law_grown" = some (some (.ref f15))) (l15 : K.lookup f15 = some ⟨oc15, od15, .func (PySem.W.fnOf "_law_grown" "_law_grown" (defArgs s_law_grown) (defBody s_law_grown) (defScope s_law_grown) .none kV15 dc15 pm15 an15 cd15 ct15), sl15⟩) (c15 : PySem.W.codeIn K cd15 "_law_grown" = true) (k15 : PySem.W.keepIn K (.ref f15) = true)
    (a16 : PySem.W.nsIn K mainGlobals "_law_term" = some (some (.ref f16))) (l16 : K.lookup f16 = some ⟨oc16, od16, .func (PySem.W.fnOf "_law_term" "_law_term" (defArgs s_law_term) (defBody s_law_term) (defScope s_law_term) .none kV16 dc16 pm16 an16 cd16 ct16), sl16⟩) (c16 : PySem.W.codeIn K cd16 "_law_term" = true) (k16 : PySem.W.keepIn K (.ref f16) = true)
    (a17 : PySem.W.nsIn K mainGlobals "_law_words" = some (some (.ref f17))) (l17 : K.lookup f17 = some ⟨oc17, od17, .func (PySem.W.fnOf "_law_words" "_law_words" (defArgs s_law_words) (defBody s_law_words) (defScope s_law_words) .none kV17 dc17 pm17 an17 cd17 ct17), sl17⟩) (c17 : PySem.W.codeIn K cd17 "_law_words" = true) (k17 : PySem.W.keepIn K (.ref f17) = true)
    (a18 : PySem.W.nsIn K mainGlobals "_law_meet" = some (some (.ref f18))) (l18 : K.lookup f18 = some ⟨oc18, od18, .func (PySem.W.fnOf "_law_meet" "_law_meet" (defArgs s_law_meet) (defBody s_law_meet) (defScope s_law_meet) .none kV18 dc18 pm18 an18 cd18 ct18), sl18⟩) (c18 : PySem.W.codeIn K cd18 "_law_meet" = true) (k18 : PySem.W.keepIn K (.ref f18) = true)
    (a19 : PySem.W.nsIn K mainGlobals "_law_gap" = some (some (.ref f19))) (l19 : K.lookup f19 = some ⟨oc19, od19, .func (PySem.W.fnOf "_law_gap" "_law_gap" (defArgs s_law_gap) (defBody s_law_gap) (defScope s_law_gap) .none kV19 dc19 pm19 an19 cd19 ct19), sl19⟩) (c19 : PySem.W.codeIn K cd19 "_law_gap" = true) (k19 : PySem.W.keepIn K (.ref f19) = true)
    (a20 : PySem.W.nsIn K mainGlobals "_law_laid" = some (some (.ref f20))) (l20 : K.lookup f20 = some ⟨oc20, od20, .func (PySem.W.fnOf "_law_laid" "_law_laid" (defArgs s_law_laid) (defBody s_law_laid) (defScope s_law_laid) .none kV20 dc20 pm20 an20 cd20 ct20), sl20⟩) (c20 : PySem.W.codeIn K cd20 "_law_laid" = true) (k20 : PySem.W.keepIn K (.ref f20) = true)
    (a21 : PySem.W.nsIn K mainGlobals "_law_error" = some (some (.ref f21))) (l21 : K.lookup f21 = some ⟨oc21, od21, .func (PySem.W.fnOf "_law_error" "_law_error" (defArgs s_law_error) (defBody s_law_error) (defScope s_law_error) .none kV21 dc21 pm21 an21 cd21 ct21), sl21⟩) (c21 : PySem.W.codeIn K cd21 "_law_error" = true) (k21 : PySem.W.keepIn K (.ref f21) = true)
    (a22 : PySem.W.nsIn K mainGlobals "_law_told" = some (some (.ref f22))) (l22 : K.lookup f22 = some ⟨oc22, od22, .func (PySem.W.fnOf "_law_told" "_law_told" (defArgs s_law_told) (defBody s_law_told) (defScope s_law_told) .none kV22 dc22 pm22 an22 cd22 ct22), sl22⟩) (c22 : PySem.W.codeIn K cd22 "_law_told" = true) (k22 : PySem.W.keepIn K (.ref f22) = true)
    (a23 : PySem.W.nsIn K mainGlobals "_law_invalid" = some (some (.ref f23))) (l23 : K.lookup f23 = some ⟨oc23, od23, .func (PySem.W.fnOf "_law_invalid" "_law_invalid" (defArgs s_law_invalid) (defBody s_law_invalid) (defScope s_law_invalid) .none kV23 dc23 pm23 an23 cd23 ct23), sl23⟩) (c23 : PySem.W.codeIn K cd23 "_law_invalid" = true) (k23 : PySem.W.keepIn K (.ref f23) = true)
    (a24 : PySem.W.nsIn K mainGlobals "_law_spots" = some (some (.ref f24))) (l24 : K.lookup f24 = some ⟨oc24, od24, .func (PySem.W.fnOf "_law_spots" "_law_spots" (defArgs s_law_spots) (defBody s_law_spots) (defScope s_law_spots) .none kV24 dc24 pm24 an24 cd24 ct24), sl24⟩) (c24 : PySem.W.codeIn K cd24 "_law_spots" = true) (k24 : PySem.W.keepIn K (.ref f24) = true)
    (a25 : PySem.W.nsIn K mainGlobals "_law_after" = some (some (.ref f25))) (l25 : K.lookup f25 = some ⟨oc25, od25, .func (PySem.W.fnOf "_law_after" "_law_after" (defArgs s_law_after) (defBody s_law_after) (defScope s_law_after) .none kV25 dc25 pm25 an25 cd25 ct25), sl25⟩) (c25 : PySem.W.codeIn K cd25 "_law_after" = true) (k25 : PySem.W.keepIn K (.ref f25) = true)
    (a26 : PySem.W.nsIn K mainGlobals "_law_planted" = some (some (.ref f26))) (l26 : K.lookup f26 = some ⟨oc26, od26, .func (PySem.W.fnOf "_law_planted" "_law_planted" (defArgs s_law_planted) (defBody s_law_planted) (defScope s_law_planted) .none kV26 dc26 pm26 an26 cd26 ct26), sl26⟩) (c26 : PySem.W.codeIn K cd26 "_law_planted" = true) (k26 : PySem.W.keepIn K (.ref f26) = true)
    (a27 : PySem.W.nsIn K mainGlobals "_law_deep" = some (some (.ref f27))) (l27 : K.lookup f27 = some ⟨oc27, od27, .func (PySem.W.fnOf "_law_deep" "_law_deep" (defArgs s_law_deep) (defBody s_law_deep) (defScope s_law_deep) .none kV27 dc27 pm27 an27 cd27 ct27), sl27⟩) (c27 : PySem.W.codeIn K cd27 "_law_deep" = true) (k27 : PySem.W.keepIn K (.ref f27) = true)
    (a28 : PySem.W.nsIn K mainGlobals "_law_deep_told" = some (some (.ref f28))) (l28 : K.lookup f28 = some ⟨oc28, od28, .func (PySem.W.fnOf "_law_deep_told" "_law_deep_told" (defArgs s_law_deep_told) (defBody s_law_deep_told) (defScope s_law_deep_told) .none kV28 dc28 pm28 an28 cd28 ct28), sl28⟩) (c28 : PySem.W.codeIn K cd28 "_law_deep_told" = true) (k28 : PySem.W.keepIn K (.ref f28) = true)
    (a29 : PySem.W.nsIn K mainGlobals "law" = some (some (.ref f29))) (l29 : K.lookup f29 = some ⟨oc29, od29, .func (PySem.W.fnOf "law" "law" (defArgs s_law) (defBody s_law) (defScope s_law) .none kV29 dc29 pm29 an29 cd29 ct29), sl29⟩) (c29 : PySem.W.codeIn K cd29 "law" = true) (k29 : PySem.W.keepIn K (.ref f29) = true)
    (z_len : PySem.W.nsIn K mainGlobals "len" = some none) (z_int : PySem.W.nsIn K mainGlobals "int" = some none) (z_range : PySem.W.nsIn K mainGlobals "range" = some none) (z_min : PySem.W.nsIn K mainGlobals "min" = some none) (z_str : PySem.W.nsIn K mainGlobals "str" = some none) (z_tuple : PySem.W.nsIn K mainGlobals "tuple" = some none) (z_sorted : PySem.W.nsIn K mainGlobals "sorted" = some none) (z_isinstance : PySem.W.nsIn K mainGlobals "isinstance" = some none) (z_any : PySem.W.nsIn K mainGlobals "any" = some none) (z_all : PySem.W.nsIn K mainGlobals "all" = some none) (z_list : PySem.W.nsIn K mainGlobals "list" = some none) (z_bool : PySem.W.nsIn K mainGlobals "bool" = some none) (z_max : PySem.W.nsIn K mainGlobals "max" = some none) (z_set : PySem.W.nsIn K mainGlobals "set" = some none) (z_dict : PySem.W.nsIn K mainGlobals "dict" = some none) (z_ValueError : PySem.W.nsIn K mainGlobals "ValueError" = some none) (z_repr : PySem.W.nsIn K mainGlobals "repr" = some none) (z_sum : PySem.W.nsIn K mainGlobals "sum" = some none)
    {ti0 : Tok} (gi0 : PySem.W.nsIn K mainGlobals "MOST_CHARACTERS" = some (some (.int 12 ti0)))
    {ti1 : Tok} (gi1 : PySem.W.nsIn K mainGlobals "MOST_TEXT" = some (some (.int 4000 ti1)))
    {ti2 : Tok} (gi2 : PySem.W.nsIn K mainGlobals "MOST_OPEN" = some (some (.int 60 ti2)))
    {ti3 : Tok} (gi3 : PySem.W.nsIn K mainGlobals "MOST_INTEGER" = some (some (.int 15 ti3)))
    {ti4 : Tok} (gi4 : PySem.W.nsIn K mainGlobals "MOST_ADDRESS" = some (some (.int 9 ti4)))
    {tz0 : Tok} (gz0 : PySem.W.nsIn K mainGlobals "LETTERS" = some (some (.str LET tz0)))
    {tz1 : Tok} (gz1 : PySem.W.nsIn K mainGlobals "DIGITS" = some (some (.str "0123456789" tz1)))
    {tz2 : Tok} (gz2 : PySem.W.nsIn K mainGlobals "WORD_CHARACTERS" = some (some (.str OTH tz2)))
    {tz3 : Tok} (gz3 : PySem.W.nsIn K mainGlobals "_SEPARATORS" = some (some (.str " \n" tz3)))
    {aS : Addr} {odaS : Option Addr} {naS : Nat} {slaS : Array (Option Value)} {uaS0 uaS1 uaS2 uaS3 : Tok} (gtaS : PySem.W.nsIn K mainGlobals "_SIGNS" = some (some (.ref aS))) (ltaS : K.lookup aS = some ⟨.type "tuple", odaS, .seq #[.str "(" uaS0, .str ")" uaS1, .str "{" uaS2, .str "}" uaS3] naS, slaS⟩)
    {fM0 fM1 fM2 fM3 fM4 CR CL CP CT gT : Addr} {odM0 anM0 odM1 anM1 odM2 anM2 odM3 anM3 odM4 anM4 : Option Addr} {slM0 slM1 slM2 slM3 slM4 : Array (Option Value)} {ocM0 kVM0 dcM0 pmM0 cdM0 ctM0 ocM1 kVM1 dcM1 pmM1 cdM1 ctM1 ocM2 kVM2 dcM2 pmM2 cdM2 ctM2 ocM3 kVM3 dcM3 pmM3 cdM3 ctM3 ocM4 kVM4 dcM4 pmM4 cdM4 ctM4 : Value}
    {odI anI : Option Addr} {slI : Array (Option Value)} {ocI kVI dcI pmI cdI ctI : Value}
    {CB NB : Addr} {nmB qB : Str} {bsB : List Value} {snB : List Str} {subB : List Value} {abB : Bool} {colB : Option Bool} {ddB : Option Addr} {m0B m1B m2B m3B m5B : Option Value}
    {CD ND : Addr} {nmD qD : Str} {bsD : List Value} {snD : List Str} {subD : List Value} {abD : Bool} {colD : Option Bool} {ddD : Option Addr} {m0D m1D m2D m3D m5D : Option Value}
    (gP : PySem.W.nsIn K mainGlobals "PassError" = some (some (.ref CP)))
    (aCL : PySem.W.nsIn K mainGlobals "TooLong" = some (some (.ref CL)))
    (gE : PySem.W.nsIn K mainGlobals "TextError" = some (some (.ref CT)))
    (nB : PySem.W.nsIn K mainGlobals "BadTerm" = some (some (.ref CB)))
    (xB : K.lookup CB = some (excClassObj nmB qB CB NB bsB [.ref CT, .ref CP, .type "ValueError", .type "Exception", .type "BaseException", .type "object"] true snB subB abB colB ddB m0B m1B m2B m3B m5B "ValueError.__new__"))
    (saB : PySem.W.findIn K (.ref CB) "__setattr__" = some (some (.builtin "object.__setattr__")))
    (npB : PySem.W.findIn K (.ref CB) "position" = some none)
    (aiB : PySem.W.findIn K (.ref CB) "__init__" = some (some (.ref gT)))
    (kepB : PySem.W.keepIn K (.ref CB) = true)
    (eCB : PySem.W.subIn K (.ref CB) (.type "BaseException") = some true)
    (tCB : PySem.W.typeIn K (.ref CB) = some (.type "type"))
    (nD : PySem.W.nsIn K mainGlobals "TooDeep" = some (some (.ref CD)))
    (xD : K.lookup CD = some (excClassObj nmD qD CD ND bsD [.ref CT, .ref CP, .type "ValueError", .type "Exception", .type "BaseException", .type "object"] true snD subD abD colD ddD m0D m1D m2D m3D m5D "ValueError.__new__"))
    (saD : PySem.W.findIn K (.ref CD) "__setattr__" = some (some (.builtin "object.__setattr__")))
    (npD : PySem.W.findIn K (.ref CD) "position" = some none)
    (aiD : PySem.W.findIn K (.ref CD) "__init__" = some (some (.ref gT)))
    (kepD : PySem.W.keepIn K (.ref CD) = true)
    (eCD : PySem.W.subIn K (.ref CD) (.type "BaseException") = some true)
    (tCD : PySem.W.typeIn K (.ref CD) = some (.type "type"))
    (nR : PySem.W.nsIn K mainGlobals "Reader" = some (some (.ref CR)))
    (aM0 : PySem.W.findIn K (.ref CR) "__init__" = some (some (.ref fM0)))
    (iM0 : PySem.W.isFn K (.ref fM0) = true)
    (lM0 : K.lookup fM0 = some ⟨ocM0, odM0, .func (PySem.W.fnOf "__init__" "Reader.__init__" (defArgs s_Reader___init__) (defBody s_Reader___init__) (defScope s_Reader___init__) .none kVM0 dcM0 pmM0 anM0 cdM0 ctM0), slM0⟩)
    (cM0 : PySem.W.codeIn K cdM0 "Reader.__init__" = true)
    (kM0 : PySem.W.keepIn K (.ref fM0) = true)
    (aM1 : PySem.W.findIn K (.ref CR) "take" = some (some (.ref fM1)))
    (iM1 : PySem.W.isFn K (.ref fM1) = true)
    (lM1 : K.lookup fM1 = some ⟨ocM1, odM1, .func (PySem.W.fnOf "take" "Reader.take" (defArgs s_Reader_take) (defBody s_Reader_take) (defScope s_Reader_take) .none kVM1 dcM1 pmM1 anM1 cdM1 ctM1), slM1⟩)
    (cM1 : PySem.W.codeIn K cdM1 "Reader.take" = true)
    (kM1 : PySem.W.keepIn K (.ref fM1) = true)
    (aM2 : PySem.W.findIn K (.ref CR) "term" = some (some (.ref fM2)))
    (iM2 : PySem.W.isFn K (.ref fM2) = true)
    (lM2 : K.lookup fM2 = some ⟨ocM2, odM2, .func (PySem.W.fnOf "term" "Reader.term" (defArgs s_Reader_term) (defBody s_Reader_term) (defScope s_Reader_term) .none kVM2 dcM2 pmM2 anM2 cdM2 ctM2), slM2⟩)
    (cM2 : PySem.W.codeIn K cdM2 "Reader.term" = true)
    (kM2 : PySem.W.keepIn K (.ref fM2) = true)
    (aM3 : PySem.W.findIn K (.ref CR) "node" = some (some (.ref fM3)))
    (iM3 : PySem.W.isFn K (.ref fM3) = true)
    (lM3 : K.lookup fM3 = some ⟨ocM3, odM3, .func (PySem.W.fnOf "node" "Reader.node" (defArgs s_Reader_node) (defBody s_Reader_node) (defScope s_Reader_node) .none kVM3 dcM3 pmM3 anM3 cdM3 ctM3), slM3⟩)
    (cM3 : PySem.W.codeIn K cdM3 "Reader.node" = true)
    (kM3 : PySem.W.keepIn K (.ref fM3) = true)
    (aM4 : PySem.W.findIn K (.ref CR) "mapping" = some (some (.ref fM4)))
    (iM4 : PySem.W.isFn K (.ref fM4) = true)
    (lM4 : K.lookup fM4 = some ⟨ocM4, odM4, .func (PySem.W.fnOf "mapping" "Reader.mapping" (defArgs s_Reader_mapping) (defBody s_Reader_mapping) (defScope s_Reader_mapping) .none kVM4 dcM4 pmM4 anM4 cdM4 ctM4), slM4⟩)
    (cM4 : PySem.W.codeIn K cdM4 "Reader.mapping" = true)
    (kM4 : PySem.W.keepIn K (.ref fM4) = true)
    (pgR : PySem.W.plainGet K CR Str.empty = true)
    (hdR : PySem.W.hasDictIn K CR = true)
    (poR : PySem.W.plainOver K CR = true)
    (saR : PySem.W.findIn K (.ref CR) "__setattr__" = some (some (.builtin "object.__setattr__")))
    (mkR : PySem.W.makesIn K CR = true)
    (kcR : PySem.W.keepIn K (.ref CR) = true)
    (nSR : PySem.W.findIn K (.ref CR) "signature" = some none)
    (nTR : PySem.W.findIn K (.ref CR) "tokens" = some none)
    (nAR : PySem.W.findIn K (.ref CR) "at" = some none)
    (xL : PySem.W.excIn K CL [.type "ValueError", .type "Exception", .type "BaseException", .type "object"] "ValueError.__new__" = true)
    (kL : PySem.W.keepIn K (.ref CL) = true)
    (bL : PySem.W.subIn K (.ref CL) (.type "BaseException") = some true)
    (tL : PySem.W.typeIn K (.ref CL) = some (.type "type"))
    (iL : PySem.W.isClsIn K CL = true)
    (sL : PySem.W.subIn K (.ref CL) (.ref CL) = some true)
    (iP : PySem.W.isClsIn K CP = true)
    (tP : PySem.W.typeIn K (.ref CP) = some (.type "type"))
    (sLP : PySem.W.subIn K (.ref CL) (.ref CP) = some true)
    (sLV : PySem.W.subIn K (.ref CL) (.type "ValueError") = some true)
    (gaL : PySem.W.findIn K (.ref CL) "__getattribute__" = some (some (.builtin "BaseException.__getattribute__")))
    (ggL : PySem.W.findIn K (.ref CL) "__getattr__" = some none)
    (hCL : PySem.W.hasDictIn K CL = true)
    (ccL : PySem.W.findIn K (.ref CL) "__class__" = some (some (.builtin "object.__class__")))
    (sp1 : PySem.W.specialIn K (.builtin "object.__class__") "__get__" = some (some (.builtin "getset_descriptor.__get__")))
    (sp2 : PySem.W.takesIn K (.builtin "object.__class__") = some true)
    (moL : PySem.W.mroIn K CL (.type "object") = some true)
    (tiT : PySem.W.typeIn K (.ref gT) = some (.type "function"))
    (liT : K.lookup gT = some ⟨ocI, odI, .func (PySem.W.fnOf "__init__" "TextError.__init__" (defArgs s_initP) (defBody s_initP) (defScope s_initP) .none kVI dcI pmI anI cdI ctI), slI⟩)
    (ciT : PySem.W.codeIn K cdI "TextError.__init__" = true)
    (kiT : PySem.W.keepIn K (.ref gT) = true)
    (gaB : PySem.W.findIn K (.ref CB) "__getattribute__" = some (some (.builtin "BaseException.__getattribute__")))
    (ggB : PySem.W.findIn K (.ref CB) "__getattr__" = some none)
    (hCB : PySem.W.hasDictIn K CB = true)
    (ccB : PySem.W.findIn K (.ref CB) "__class__" = some (some (.builtin "object.__class__")))
    (moB : PySem.W.mroIn K CB (.type "object") = some true)
    (iB : PySem.W.isClsIn K CB = true)
    (sBB : PySem.W.subIn K (.ref CB) (.ref CB) = some true)
    (sBT : PySem.W.subIn K (.ref CB) (.ref CT) = some true)
    (sBP : PySem.W.subIn K (.ref CB) (.ref CP) = some true)
    (sBV : PySem.W.subIn K (.ref CB) (.type "ValueError") = some true)
    (sBL : PySem.W.subIn K (.ref CB) (.ref CL) = some false)
    (sLB : PySem.W.subIn K (.ref CL) (.ref CB) = some false)
    (gaD : PySem.W.findIn K (.ref CD) "__getattribute__" = some (some (.builtin "BaseException.__getattribute__")))
    (ggD : PySem.W.findIn K (.ref CD) "__getattr__" = some none)
    (hCD : PySem.W.hasDictIn K CD = true)
    (ccD : PySem.W.findIn K (.ref CD) "__class__" = some (some (.builtin "object.__class__")))
    (moD : PySem.W.mroIn K CD (.type "object") = some true)
    (iD : PySem.W.isClsIn K CD = true)
    (sDD : PySem.W.subIn K (.ref CD) (.ref CD) = some true)
    (sDT : PySem.W.subIn K (.ref CD) (.ref CT) = some true)
    (sDP : PySem.W.subIn K (.ref CD) (.ref CP) = some true)
    (sDV : PySem.W.subIn K (.ref CD) (.type "ValueError") = some true)
    (sDL : PySem.W.subIn K (.ref CD) (.ref CL) = some false)
    (sLD : PySem.W.subIn K (.ref CL) (.ref CD) = some false)
    (sBD : PySem.W.subIn K (.ref CB) (.ref CD) = some false)
    (sDB : PySem.W.subIn K (.ref CD) (.ref CB) = some false)
    (sLT : PySem.W.subIn K (.ref CL) (.ref CT) = some false)
    (iT : PySem.W.isClsIn K CT = true)
    (tT : PySem.W.typeIn K (.ref CT) = some (.type "type")) :
    ∃ fd : FuncData, (∀ (s : Shared) (v : Value), BindsTo s fd ⟨[v], []⟩ [("script", v)]) ∧ ∀ base : Heap, K.In base → base.Ns mainGlobals mg → FnOk l.prog w K mg base CX0 131 fa fd ["script"] (spLaw K) := by
  have e := hfa.symm.trans (PySem.W.mg_of X G a29)
  cases e
  have F1 := fun_mk (st := s_is_word) l1 c1 k1
  have b1 := F1.binds (ps := ["text"]) fun _ _ _ _ _ _ us hl => match us, hl with | [_], _ => rfl
  have m1 := PySem.W.mg_of X G a1
  have F2 := fun_mk (st := s_read_term) l2 c2 k2
  have b2 := F2.binds (ps := ["signature", "text"]) fun _ _ _ _ _ _ us hl => match us, hl with | [_, _], _ => rfl
  have m2 := PySem.W.mg_of X G a2
  have F3 := fun_mk (st := s_end_of_run) l3 c3 k3
  have b3 := F3.binds (ps := ["text", "start", "characters"]) fun _ _ _ _ _ _ us hl => match us, hl with | [_, _, _], _ => rfl
  have m3 := PySem.W.mg_of X G a3
  have F4 := fun_mk (st := s_token_end) l4 c4 k4
  have b4 := F4.binds (ps := ["text", "start"]) fun _ _ _ _ _ _ us hl => match us, hl with | [_, _], _ => rfl
  have m4 := PySem.W.mg_of X G a4
  have F5 := fun_mk (st := s_is_number) l5 c5 k5
  have b5 := F5.binds (ps := ["digits", "most"]) fun _ _ _ _ _ _ us hl => match us, hl with | [_, _], _ => rfl
  have m5 := PySem.W.mg_of X G a5
  have F6 := fun_mk (st := s_token) l6 c6 k6
  have b6 := F6.binds (ps := ["piece", "position"]) fun _ _ _ _ _ _ us hl => match us, hl with | [_, _], _ => rfl
  have m6 := PySem.W.mg_of X G a6
  have F7 := fun_mk (st := s_tokens_of) l7 c7 k7
  have b7 := F7.binds (ps := ["text"]) fun _ _ _ _ _ _ us hl => match us, hl with | [_], _ => rfl
  have m7 := PySem.W.mg_of X G a7
  have F8 := fun_mk (st := s_law_pool) l8 c8 k8
  have b8 := F8.binds (ps := ["script"]) fun _ _ _ _ _ _ us hl => match us, hl with | [_], _ => rfl
  have m8 := PySem.W.mg_of X G a8
  have F9 := fun_mk (st := s_law_take) l9 c9 k9
  have b9 := F9.binds (ps := ["pool", "many"]) fun _ _ _ _ _ _ us hl => match us, hl with | [_, _], _ => rfl
  have m9 := PySem.W.mg_of X G a9
  have F10 := fun_mk (st := s_law_word) l10 c10 k10
  have b10 := F10.binds (ps := ["pool", "k", "shift"]) fun _ _ _ _ _ _ us hl => match us, hl with | [_, _, _], _ => rfl
  have m10 := PySem.W.mg_of X G a10
  have F11 := fun_mk (st := s_law_signature) l11 c11 k11
  have b11 := F11.binds (ps := ["pool", "shift"]) fun _ _ _ _ _ _ us hl => match us, hl with | [_, _], _ => rfl
  have m11 := PySem.W.mg_of X G a11
  have F12 := fun_mk (st := s_law_integer) l12 c12 k12
  have b12 := F12.binds (ps := ["pool"]) fun _ _ _ _ _ _ us hl => match us, hl with | [_], _ => rfl
  have m12 := PySem.W.mg_of X G a12
  have F13 := fun_mk (st := s_law_leaf) l13 c13 k13
  have b13 := F13.binds (ps := ["pool", "words", "metas"]) fun _ _ _ _ _ _ us hl => match us, hl with | [_, _, _], _ => rfl
  have m13 := PySem.W.mg_of X G a13
  have F14 := fun_mk (st := s_law_high) l14 c14 k14
  have b14 := F14.binds (ps := ["parts"]) fun _ _ _ _ _ _ us hl => match us, hl with | [_], _ => rfl
  have m14 := PySem.W.mg_of X G a14
  have F15 := fun_mk (st := s_law_grown) l15 c15 k15
  have b15 := F15.binds (ps := ["pool", "stack", "signature", "words", "metas"]) fun _ _ _ _ _ _ us hl => match us, hl with | [_, _, _, _, _], _ => rfl
  have m15 := PySem.W.mg_of X G a15
  have F16 := fun_mk (st := s_law_term) l16 c16 k16
  have b16 := F16.binds (ps := ["pool", "signature", "words", "metas", "most"]) fun _ _ _ _ _ _ us hl => match us, hl with | [_, _, _, _, _], _ => rfl
  have m16 := PySem.W.mg_of X G a16
  have F17 := fun_mk (st := s_law_words) l17 c17 k17
  have b17 := F17.binds (ps := ["pool", "term"]) fun _ _ _ _ _ _ us hl => match us, hl with | [_, _], _ => rfl
  have m17 := PySem.W.mg_of X G a17
  have F18 := fun_mk (st := s_law_meet) l18 c18 k18
  have b18 := F18.binds (ps := ["before", "word"]) fun _ _ _ _ _ _ us hl => match us, hl with | [_, _], _ => rfl
  have m18 := PySem.W.mg_of X G a18
  have F19 := fun_mk (st := s_law_gap) l19 c19 k19
  have b19 := F19.binds (ps := ["pool"]) fun _ _ _ _ _ _ us hl => match us, hl with | [_], _ => rfl
  have m19 := PySem.W.mg_of X G a19
  have F20 := fun_mk (st := s_law_laid) l20 c20 k20
  have b20 := F20.binds (ps := ["pool", "words", "at"]) fun _ _ _ _ _ _ us hl => match us, hl with | [_, _, _], _ => rfl
  have m20 := PySem.W.mg_of X G a20
  have F21 := fun_mk (st := s_law_error) l21 c21 k21
  have b21 := F21.binds (ps := ["e", "name"]) fun _ _ _ _ _ _ us hl => match us, hl with | [_, _], _ => rfl
  have m21 := PySem.W.mg_of X G a21
  have F22 := fun_mk (st := s_law_told) l22 c22 k22
  have b22 := F22.binds (ps := ["signature", "text"]) fun _ _ _ _ _ _ us hl => match us, hl with | [_, _], _ => rfl
  have m22 := PySem.W.mg_of X G a22
  have F23 := fun_mk (st := s_law_invalid) l23 c23 k23
  have b23 := F23.binds (ps := ["pool", "words"]) fun _ _ _ _ _ _ us hl => match us, hl with | [_, _], _ => rfl
  have m23 := PySem.W.mg_of X G a23
  have F24 := fun_mk (st := s_law_spots) l24 c24 k24
  have b24 := F24.binds (ps := ["words", "signs"]) fun _ _ _ _ _ _ us hl => match us, hl with | [_, _], _ => rfl
  have m24 := PySem.W.mg_of X G a24
  have F25 := fun_mk (st := s_law_after) l25 c25 k25
  have b25 := F25.binds (ps := ["pool"]) fun _ _ _ _ _ _ us hl => match us, hl with | [_], _ => rfl
  have m25 := PySem.W.mg_of X G a25
  have F26 := fun_mk (st := s_law_planted) l26 c26 k26
  have b26 := F26.binds (ps := ["pool", "signature", "row", "words"]) fun _ _ _ _ _ _ us hl => match us, hl with | [_, _, _, _], _ => rfl
  have m26 := PySem.W.mg_of X G a26
  have F27 := fun_mk (st := s_law_deep) l27 c27 k27
  have b27 := F27.binds (ps := ["pool", "signature", "many"]) fun _ _ _ _ _ _ us hl => match us, hl with | [_, _, _], _ => rfl
  have m27 := PySem.W.mg_of X G a27
  have F28 := fun_mk (st := s_law_deep_told) l28 c28 k28
  have b28 := F28.binds (ps := ["pool", "signature"]) fun _ _ _ _ _ _ us hl => match us, hl with | [_, _], _ => rfl
  have m28 := PySem.W.mg_of X G a28
  have F29 := fun_mk (st := s_law) l29 c29 k29
  have y_len := PySem.W.mg_none_of X G z_len
  have y_int := PySem.W.mg_none_of X G z_int
  have y_range := PySem.W.mg_none_of X G z_range
  have y_min := PySem.W.mg_none_of X G z_min
  have y_str := PySem.W.mg_none_of X G z_str
  have y_tuple := PySem.W.mg_none_of X G z_tuple
  have y_sorted := PySem.W.mg_none_of X G z_sorted
  have y_isinstance := PySem.W.mg_none_of X G z_isinstance
  have y_any := PySem.W.mg_none_of X G z_any
  have y_all := PySem.W.mg_none_of X G z_all
  have y_list := PySem.W.mg_none_of X G z_list
  have y_bool := PySem.W.mg_none_of X G z_bool
  have y_max := PySem.W.mg_none_of X G z_max
  have y_set := PySem.W.mg_none_of X G z_set
  have y_dict := PySem.W.mg_none_of X G z_dict
  have y_ValueError := PySem.W.mg_none_of X G z_ValueError
  have y_repr := PySem.W.mg_none_of X G z_repr
  have y_sum := PySem.W.mg_none_of X G z_sum
  have yi0 : ∃ t, mg _ = some (.int _ t) := ⟨_, PySem.W.mg_of X G gi0⟩
  have yi1 : ∃ t, mg _ = some (.int _ t) := ⟨_, PySem.W.mg_of X G gi1⟩
  have yi2 : ∃ t, mg _ = some (.int _ t) := ⟨_, PySem.W.mg_of X G gi2⟩
  have yi3 : ∃ t, mg _ = some (.int _ t) := ⟨_, PySem.W.mg_of X G gi3⟩
  have yi4 : ∃ t, mg _ = some (.int _ t) := ⟨_, PySem.W.mg_of X G gi4⟩
  have yz0 : ∃ t, mg _ = some (.str _ t) := ⟨_, PySem.W.mg_of X G gz0⟩
  have yz1 : ∃ t, mg _ = some (.str _ t) := ⟨_, PySem.W.mg_of X G gz1⟩
  have yz2 : ∃ t, mg _ = some (.str _ t) := ⟨_, PySem.W.mg_of X G gz2⟩
  have yz3 : ∃ t, mg _ = some (.str _ t) := ⟨_, PySem.W.mg_of X G gz3⟩
  have ytaS := PySem.W.mg_of X G gtaS
  have yqaS : ∀ H, SqT K H aS [V.str "(", V.str ")", V.str "{", V.str "}"] := fun H => .inr ⟨_, _, _, ltaS, rfl, rfl, small (by show 4 ≤ _; decide), .cons ⟨_, rfl⟩ (.cons ⟨_, rfl⟩ (.cons ⟨_, rfl⟩ (.cons ⟨_, rfl⟩ (.nil))))⟩
  refine ⟨PySem.W.fnOf "law" "law" (defArgs s_law) (defBody s_law) (defScope s_law) .none kV29 dc29 pm29 an29 cd29 ct29, fun s v => .of_eq rfl, fun base _ _ => ?_⟩
  have FM0 := fun_mk (st := s_Reader___init__) lM0 cM0 kM0
  have bM0 := FM0.binds (ps := ["self", "signature", "text"]) fun _ _ _ _ _ _ us hl => match us, hl with | [_, _, _], _ => rfl
  have FM1 := fun_mk (st := s_Reader_take) lM1 cM1 kM1
  have bM1 := FM1.binds (ps := ["self", "kind"]) fun _ _ _ _ _ _ us hl => match us, hl with | [_, _], _ => rfl
  have FM2 := fun_mk (st := s_Reader_term) lM2 cM2 kM2
  have bM2 := FM2.binds (ps := ["self", "depth"]) fun _ _ _ _ _ _ us hl => match us, hl with | [_, _], _ => rfl
  have FM3 := fun_mk (st := s_Reader_node) lM3 cM3 kM3
  have bM3 := FM3.binds (ps := ["self", "depth"]) fun _ _ _ _ _ _ us hl => match us, hl with | [_, _], _ => rfl
  have FM4 := fun_mk (st := s_Reader_mapping) lM4 cM4 kM4
  have bM4 := FM4.binds (ps := ["self", "depth"]) fun _ _ _ _ _ _ us hl => match us, hl with | [_, _], _ => rfl
  have FI := fun_mk (st := s_initP) liT ciT kiT
  have bI := FI.binds (ps := ["self", "position"]) fun _ _ _ _ _ _ us hl => match us, hl with | [_, _], _ => rfl
  have NBo : NoP K CB := ⟨⟨⟨nmB, qB, NB, bsB, _, snB, subB, abB, colB, ddB, m0B, m1B, m2B, m3B, m5B, xB, by show PySem.HandSPX.refsVE [.type "ValueError", .type "Exception", .type "BaseException", .type "object"] = true; decide +kernel⟩, saB, eCB, tCB, kepB⟩, npB⟩
  have NDo : NoP K CD := ⟨⟨⟨nmD, qD, ND, bsD, _, snD, subD, abD, colD, ddD, m0D, m1D, m2D, m3D, m5D, xD, by show PySem.HandSPX.refsVE [.type "ValueError", .type "Exception", .type "BaseException", .type "object"] = true; decide +kernel⟩, saD, eCD, tCD, kepD⟩, npD⟩
  have T : Txt K mg := ⟨y_len, y_int, y_range, y_min, y_str, y_tuple, y_sorted, y_isinstance, y_any, y_all, y_list, y_bool⟩
  have TK : TxtK K mg := ⟨T, y_max, y_set⟩
  have TP : TxtP K mg aS := ⟨T, yi0, yz0, yz1, yz2, yz3, yi1, yi2, yi3, yi4, ytaS, yqaS⟩
  have TR : TxtR K mg aS CL CP := ⟨TP, PySem.W.mg_of X G aCL, xL, kL, bL, tL, exm_self bL iL tL sL, PySem.W.mg_of X G gP, ⟨gaL, ggL, bL, hCL, ccL, sp1, sp2, moL⟩, kit_t iP tP sLP, kit_v sLV, y_ValueError, y_repr, y_dict⟩
  have eB : ErK K CB CB CD CL CT CP false := ⟨⟨gaB, ggB, eCB, hCB, ccB, sp1, sp2, moB⟩, ⟨gaB, ggB, eCB, hCB⟩, npB, kit_t iB tCB sBB, kit_f sBB iD tCD sBD, kit_f sBB iL tL sBL, kit_t iT tT sBT, kit_t iP tP sBP, kit_v sBV⟩
  have eD : ErK K CD CB CD CL CT CP true := ⟨⟨gaD, ggD, eCD, hCD, ccD, sp1, sp2, moD⟩, ⟨gaD, ggD, eCD, hCD⟩, npD, kit_f sDD iB tCB sDB, kit_t iD tCD sDD, kit_f sDD iL tL sDL, kit_t iT tT sDT, kit_t iP tP sDP, kit_v sDV⟩
  have TB : TxtB K mg aS CL CP CB CD CT := ⟨TR, PySem.W.mg_of X G nB, PySem.W.mg_of X G nD, PySem.W.mg_of X G gE, eB, eD, exm_self eCB iB tCB sBB, PySem.W.exm_ref eCB hCB tCB sDB, exm_self eCD iD tCD sDD, PySem.W.exm_ref eCB hCB tCB sLB, PySem.W.exm_ref eCD hCD tCD sLD, kit_f sL iT tT sLT, y_sum, y_max⟩
  have XR : RTx K CR := ⟨⟨pgR, hdR, poR, saR⟩, nSR, nTR, nAR⟩
  have take0 : C8.Cal l.prog w K mg base 0 "_law_take" (spTake 0) [] := cal_mk (none_ok (fun vs H Q E h => by obtain ⟨_, _, _, _, _, _, _, _, h, _⟩ := h; omega)) m9 k9 b9
  have take1 : C8.Cal l.prog w K mg base 1 "_law_take" (spTake 1) [] := cal_mk (ok_take F9 T take0) m9 k9 b9
  have take : C8.Cal l.prog w K mg base 2 "_law_take" (spTake 2) [] := cal_mk (ok_take F9 T take1) m9 k9 b9
  have pool : C8.Cal l.prog w K mg base 1 "_law_pool" (spPool K) [] := cal_mk (ok_pool F8) m8 k8 b8
  have isword : C8.Cal l.prog w K mg base 1 "is_word" (spWord) [] := cal_mk (ok_word F1 TP) m1 k1 b1
  have endr : C8.Cal l.prog w K mg base 1 "_end_of_run" (spEnd) [] := cal_mk (ok_end F3 TP) m3 k3 b3
  have tokend : C8.Cal l.prog w K mg base 2 "_token_end" (spTokEnd) [] := cal_mk (ok_tokEnd F4 TP endr) m4 k4 b4
  have isnum : C8.Cal l.prog w K mg base 2 "_is_number" (spIsNum) [] := cal_mk (ok_isNum F5 TP endr) m5 k5 b5
  have tok : C8.Cal l.prog w K mg base 3 "_token" (spTok K) [] := cal_mk (ok_tok F6 TP isword isnum) m6 k6 b6
  have tokens : C8.Cal l.prog w K mg base 4 "_tokens_of" (spToks K) [] := cal_mk (ok_toks F7 TP tokend tok) m7 k7 b7
  have XB : CalY l.prog w K mg base 1 "BadTerm" CB (spIP K) := ⟨NBo, PySem.W.mg_of X G nB, _, _, _, aiB, tiT, ok_initP FI, bI⟩
  have XD : CalY l.prog w K mg base 1 "TooDeep" CD (spIP K) := ⟨NDo, PySem.W.mg_of X G nD, _, _, _, aiD, tiT, ok_initP FI, bI⟩
  have rtake : CalM l.prog w K mg base 3 CR "take" (spRTake K CR CB) := ⟨XR.cl, _, _, _, ⟨aM1, iM1, kM1⟩, ok_rtake FM1 TP XR XB, bM1⟩
  have rterms : ∀ n : Nat, CalM l.prog w K mg base (2 * n + 4) CR "term" (rdTerm K CR CB CD n) := fun n => by
    induction n with
    | zero => exact ⟨XR.cl, _, _, _, ⟨aM2, iM2, kM2⟩, none_okN (fun vs H Q E h => by obtain ⟨_, _, _, _, _, _, _, _, _, _, _, h1, h2, _⟩ := h; omega), bM2⟩
    | succ n ih =>
      have nd : CalM l.prog w K mg base (2 * n + 5) CR "node" (spNode K CR CB CD n) := ⟨XR.cl, _, _, _, ⟨aM3, iM3, kM3⟩, ok_rnode FM3 TP XR XB XD rtake ih, bM3⟩
      have mp : CalM l.prog w K mg base (2 * n + 5) CR "mapping" (spMap K CR CB CD n) := ⟨XR.cl, _, _, _, ⟨aM4, iM4, kM4⟩, ok_rmap FM4 TP XR XB XD rtake ih, bM4⟩
      exact ⟨XR.cl, _, _, _, ⟨aM2, iM2, kM2⟩, ok_rterm FM2 TP XR XB rtake nd mp, bM2⟩
  have MR : CalC l.prog w K mg base 5 "Reader" CR (spRInit K CR) := ⟨PySem.W.mg_of X G nR, _, _, _, ⟨mkR, aM0, iM0, kcR⟩, ok_rinit FM0 XR tokens, bM0⟩
  have read : CalR l.prog w K mg base 128 "read_term" (spRead K CB CD CL) := ⟨_, _, _, ok_read F2 TR MR (rterms 61) rtake, m2, k2, b2⟩
  have word : C8.Cal l.prog w K mg base 3 "_law_word" (spLWord) [] := cal_mk (ok_lword F10 T take) m10 k10 b10
  have sig : C8.Cal l.prog w K mg base 4 "_law_signature" (spSig) [] := cal_mk (ok_sig F11 T take word) m11 k11 b11
  have intg : C8.Cal l.prog w K mg base 3 "_law_integer" (spIntg) [] := cal_mk (ok_intg F12 take) m12 k12 b12
  have leaf : C8.Cal l.prog w K mg base 4 "_law_leaf" (spLeaf K) [] := cal_mk (ok_leaf F13 T take intg) m13 k13 b13
  have high : C8.Cal l.prog w K mg base 1 "_law_high" (spHigh K) [] := cal_mk (ok_high F14 TK) m14 k14 b14
  have grown : C8.Cal l.prog w K mg base 5 "_law_grown" (spGrown K) [] := cal_mk (ok_grown F15 TK take leaf high) m15 k15 b15
  have term : C8.Cal l.prog w K mg base 6 "_law_term" (spTerm K) [] := cal_mk (ok_term F16 TK take grown) m16 k16 b16
  have wds : ∀ n : Nat, C8.Cal l.prog w K mg base (n + 2) "_law_words" (spLw K n) [] := fun n => by
    induction n with
    | zero => exact cal_mk (none_ok (fun vs H Q E h => by obtain ⟨_, _, _, t, _, _, _, _, _, _, _, _, h, _⟩ := h; have := t.ht_pos; omega)) m17 k17 b17
    | succ n ih => exact cal_mk (ok_words F17 TR take ih) m17 k17 b17
  have meet : C8.Cal l.prog w K mg base 1 "_law_meet" (spMeet) [] := cal_mk (ok_meet F18) m18 k18 b18
  have gap : C8.Cal l.prog w K mg base 3 "_law_gap" (spGap) [] := cal_mk (ok_gap F19 take) m19 k19 b19
  have laid : C8.Cal l.prog w K mg base 4 "_law_laid" (spLaid K) [] := cal_mk (ok_laid F20 TR take gap meet) m20 k20 b20
  have err : PKX.CalE l.prog w K mg base 1 "_law_error" (spErr K CB CD CL CT CP) := ⟨_, _, _, ok_error F21 TB, m21, k21, b21⟩
  have told : C8.Cal l.prog w K mg base 129 "_law_told" (spTold K) [] := cal_mk (ok_told F22 TB read err) m22 k22 b22
  have inv : C8.Cal l.prog w K mg base 3 "_law_invalid" (spInv) [] := cal_mk (ok_inv F23 TB take) m23 k23 b23
  have spots : C8.Cal l.prog w K mg base 1 "_law_spots" (spSpots K) [] := cal_mk (ok_spots F24 TB) m24 k24 b24
  have after : C8.Cal l.prog w K mg base 3 "_law_after" (spAfter) [] := cal_mk (ok_after F25 take) m25 k25 b25
  have planted : C8.Cal l.prog w K mg base 4 "_law_planted" (spPl K) [] := cal_mk (ok_pl F26 TB take word after spots inv) m26 k26 b26
  have deep : C8.Cal l.prog w K mg base 3 "_law_deep" (spDeep K) [] := cal_mk (ok_deep F27 TB take) m27 k27 b27
  have deeptold : C8.Cal l.prog w K mg base 130 "_law_deep_told" (spDT) [] := cal_mk (ok_dt F28 TB take deep laid told) m28 k28 b28
  exact ok_law F29 TB pool take word sig term (wds 60) laid told planted deeptold
theorem walk {l : PySem.W.OpenLaw} {q : Program} {loose : List Str} {XP : (Str → Option Value) → Heap → Prop} {YP : World → Heap → Prop} {d : DefRec} {K : Params → PySem.W.Frag} (hn : l.most = some 63) (hdf : d.params.defaults = [])
    (hY : ∀ (w : World) (h : Heap), YP w h → (K w.params).In h)
    (F : ∀ (w : World) (mg : Str → Option Value) (fa : Addr) (h : Heap), (K w.params).In h → h.Ns mainGlobals mg → mg d.name = some (.ref fa) →
      ∃ fd : FuncData, (∀ (s : Shared) (u : Value), BindsTo s fd ⟨[u], []⟩ [("script", u)]) ∧ ∀ base : Heap, (K w.params).In base → base.Ns mainGlobals mg → FnOk l.prog w (K w.params) mg base CX0 131 fa fd ["script"] (spLaw (K w.params))) :
    PySem.W.WalkO q loose XP YP l.row.toRowW d [] (fun f vs => PySem.call f vs) :=
  L2.walk_of (n := 63) (k := 131) (x := "script") (CX := fun _ => CX0) (sp := fun w => spLaw (K w.params)) hn (by decide) hdf ⟨rfl, by decide, by decide⟩ hY F (fun _ _ a ns hl _ hS => ⟨a, ns, rfl, hS, hl, fun _ => rfl⟩) fun _ _ _ _ _ z => z
end PK
open PySem PySem.W PyProof.Rows in
set_option maxRecDepth 100000 in
set_option maxHeartbeats 0 in
theorem PySem.Challenge.cw_passproven_k02_refused_texts_holds : PySem.Challenge.rw_passproven_k02_refused_texts.Holds := by
  w_on; o_law; k_head; (case hw => w_witness2)
  k_fill
  refine PK.walk (l := PySem.Challenge.rw_passproven_k02_refused_texts) rfl rfl (fun w h Y => PySem.W.kIn_of Y) ?F
  case F =>
    intro w mg fa h KX G hmg
    refine' PK.all_mk KX G hmg ?a1 ?l1 ?c1 ?k1 ?a2 ?l2 ?c2 ?k2 ?a3 ?l3 ?c3 ?k3 ?a4 ?l4 ?c4 ?k4 ?a5 ?l5 ?c5 ?k5 ?a6 ?l6 ?c6 ?k6 ?a7 ?l7 ?c7 ?k7 ?a8 ?l8 ?c8 ?k8 ?a9 ?l9 ?c9 ?k9 ?a10 ?l10 ?c10 ?k10 ?a11 ?l11 ?c11 ?k11 ?a12 ?l12 ?c12 ?k12 ?a13 ?l13 ?c13 ?k13 ?a14 ?l14 ?c14 ?k14 ?a15 ?l15 ?c15 ?k15 ?a16 ?l16 ?c16 ?k16 ?a17 ?l17 ?c17 ?k17 ?a18 ?l18 ?c18 ?k18 ?a19 ?l19 ?c19 ?k19 ?a20 ?l20 ?c20 ?k20 ?a21 ?l21 ?c21 ?k21 ?a22 ?l22 ?c22 ?k22 ?a23 ?l23 ?c23 ?k23 ?a24 ?l24 ?c24 ?k24 ?a25 ?l25 ?c25 ?k25 ?a26 ?l26 ?c26 ?k26 ?a27 ?l27 ?c27 ?k27 ?a28 ?l28 ?c28 ?k28 ?a29 ?l29 ?c29 ?k29 ?z_len ?z_int ?z_range ?z_min ?z_str ?z_tuple ?z_sorted ?z_isinstance ?z_any ?z_all ?z_list ?z_bool ?z_max ?z_set ?z_dict ?z_ValueError ?z_repr ?z_sum ?gi0 ?gi1 ?gi2 ?gi3 ?gi4 ?gz0 ?gz1 ?gz2 ?gz3 ?gtaS ?ltaS ?gP ?aCL ?gE ?nB ?xB ?saB ?npB ?aiB ?kepB ?eCB ?tCB ?nD ?xD ?saD ?npD ?aiD ?kepD ?eCD ?tCD ?nR ?aM0 ?iM0 ?lM0 ?cM0 ?kM0 ?aM1 ?iM1 ?lM1 ?cM1 ?kM1 ?aM2 ?iM2 ?lM2 ?cM2 ?kM2 ?aM3 ?iM3 ?lM3 ?cM3 ?kM3 ?aM4 ?iM4 ?lM4 ?cM4 ?kM4 ?pgR ?hdR ?poR ?saR ?mkR ?kcR ?nSR ?nTR ?nAR ?xL ?kL ?bL ?tL ?iL ?sL ?iP ?tP ?sLP ?sLV ?gaL ?ggL ?hCL ?ccL ?sp1 ?sp2 ?moL ?tiT ?liT ?ciT ?kiT ?gaB ?ggB ?hCB ?ccB ?moB ?iB ?sBB ?sBT ?sBP ?sBV ?sBL ?sLB ?gaD ?ggD ?hCD ?ccD ?moD ?iD ?sDD ?sDT ?sDP ?sDV ?sDL ?sLD ?sBD ?sDB ?sLT ?iT ?tT
    (case a1 => k_is)
    (case l1 => k_is)
    (case c1 => k_is)
    (case k1 => k_is)
    (case a2 => k_is)
    (case l2 => k_is)
    (case c2 => k_is)
    (case k2 => k_is)
    (case a3 => k_is)
    (case l3 => k_is)
    (case c3 => k_is)
    (case k3 => k_is)
    (case a4 => k_is)
    (case l4 => k_is)
    (case c4 => k_is)
    (case k4 => k_is)
    (case a5 => k_is)
    (case l5 => k_is)
    (case c5 => k_is)
    (case k5 => k_is)
    (case a6 => k_is)
    (case l6 => k_is)
    (case c6 => k_is)
    (case k6 => k_is)
    (case a7 => k_is)
    (case l7 => k_is)
    (case c7 => k_is)
    (case k7 => k_is)
    (case a8 => k_is)
    (case l8 => k_is)
    (case c8 => k_is)
    (case k8 => k_is)
    (case a9 => k_is)
    (case l9 => k_is)
    (case c9 => k_is)
    (case k9 => k_is)
    (case a10 => k_is)
    (case l10 => k_is)
    (case c10 => k_is)
    (case k10 => k_is)
    (case a11 => k_is)
    (case l11 => k_is)
    (case c11 => k_is)
    (case k11 => k_is)
    (case a12 => k_is)
    (case l12 => k_is)
    (case c12 => k_is)
    (case k12 => k_is)
    (case a13 => k_is)
    (case l13 => k_is)
    (case c13 => k_is)
    (case k13 => k_is)
    (case a14 => k_is)
    (case l14 => k_is)
    (case c14 => k_is)
    (case k14 => k_is)
    (case a15 => k_is)
    (case l15 => k_is)
    (case c15 => k_is)
    (case k15 => k_is)
    (case a16 => k_is)
    (case l16 => k_is)
    (case c16 => k_is)
    (case k16 => k_is)
    (case a17 => k_is)
    (case l17 => k_is)
    (case c17 => k_is)
    (case k17 => k_is)
    (case a18 => k_is)
    (case l18 => k_is)
    (case c18 => k_is)
    (case k18 => k_is)
    (case a19 => k_is)
    (case l19 => k_is)
    (case c19 => k_is)
    (case k19 => k_is)
    (case a20 => k_is)
    (case l20 => k_is)
    (case c20 => k_is)
    (case k20 => k_is)
    (case a21 => k_is)
    (case l21 => k_is)
    (case c21 => k_is)
    (case k21 => k_is)
    (case a22 => k_is)
    (case l22 => k_is)
    (case c22 => k_is)
    (case k22 => k_is)
    (case a23 => k_is)
    (case l23 => k_is)
    (case c23 => k_is)
    (case k23 => k_is)
    (case a24 => k_is)
    (case l24 => k_is)
    (case c24 => k_is)
    (case k24 => k_is)
    (case a25 => k_is)
    (case l25 => k_is)
    (case c25 => k_is)
    (case k25 => k_is)
    (case a26 => k_is)
    (case l26 => k_is)
    (case c26 => k_is)
    (case k26 => k_is)
    (case a27 => k_is)
    (case l27 => k_is)
    (case c27 => k_is)
    (case k27 => k_is)
    (case a28 => k_is)
    (case l28 => k_is)
    (case c28 => k_is)
    (case k28 => k_is)
    (case a29 => k_is)
    (case l29 => k_is)
    (case c29 => k_is)
    (case k29 => k_is)
    (case z_len => k_is)
    (case z_int => k_is)
    (case z_range => k_is)
    (case z_min => k_is)
    (case z_str => k_is)
    (case z_tuple => k_is)
    (case z_sorted => k_is)
    (case z_isinstance => k_is)
    (case z_any => k_is)
    (case z_all => k_is)
    (case z_list => k_is)
    (case z_bool => k_is)
    (case z_max => k_is)
    (case z_set => k_is)
    (case z_dict => k_is)
    (case z_ValueError => k_is)
    (case z_repr => k_is)
    (case z_sum => k_is)
    (case gi0 => k_is)
    (case gi1 => k_is)
    (case gi2 => k_is)
    (case gi3 => k_is)
    (case gi4 => k_is)
    (case gz0 => k_is)
    (case gz1 => k_is)
    (case gz2 => k_is)
    (case gz3 => k_is)
    (case gtaS => k_is)
    (case ltaS => k_is)
    (case gP => k_is)
    (case aCL => k_is)
    (case gE => k_is)
    (case nB => k_is)
    (case xB => k_is)
    (case saB => k_is)
    (case npB => k_is)
    (case aiB => k_is)
    (case kepB => k_is)
    (case eCB => k_is)
    (case tCB => k_is)
    (case nD => k_is)
    (case xD => k_is)
    (case saD => k_is)
    (case npD => k_is)
    (case aiD => k_is)
    (case kepD => k_is)
    (case eCD => k_is)
    (case tCD => k_is)
    (case nR => k_is)
    (case aM0 => k_is)
    (case iM0 => k_is)
    (case lM0 => k_is)
    (case cM0 => k_is)
    (case kM0 => k_is)
    (case aM1 => k_is)
    (case iM1 => k_is)
    (case lM1 => k_is)
    (case cM1 => k_is)
    (case kM1 => k_is)
    (case aM2 => k_is)
    (case iM2 => k_is)
    (case lM2 => k_is)
    (case cM2 => k_is)
    (case kM2 => k_is)
    (case aM3 => k_is)
    (case iM3 => k_is)
    (case lM3 => k_is)
    (case cM3 => k_is)
    (case kM3 => k_is)
    (case aM4 => k_is)
    (case iM4 => k_is)
    (case lM4 => k_is)
    (case cM4 => k_is)
    (case kM4 => k_is)
    (case pgR => k_is)
    (case hdR => k_is)
    (case poR => k_is)
    (case saR => k_is)
    (case mkR => k_is)
    (case kcR => k_is)
    (case nSR => k_is)
    (case nTR => k_is)
    (case nAR => k_is)
    (case xL => k_exc)
    (case kL => k_is)
    (case bL => k_is)
    (case tL => k_is)
    (case iL => k_is)
    (case sL => k_is)
    (case iP => k_is)
    (case tP => k_is)
    (case sLP => k_is)
    (case sLV => k_is)
    (case gaL => k_is)
    (case ggL => k_is)
    (case hCL => k_is)
    (case ccL => k_is)
    (case sp1 => k_is)
    (case sp2 => k_is)
    (case moL => k_is)
    (case tiT => k_is)
    (case liT => k_is)
    (case ciT => k_is)
    (case kiT => k_is)
    (case gaB => k_is)
    (case ggB => k_is)
    (case hCB => k_is)
    (case ccB => k_is)
    (case moB => k_is)
    (case iB => k_is)
    (case sBB => k_is)
    (case sBT => k_is)
    (case sBP => k_is)
    (case sBV => k_is)
    (case sBL => k_is)
    (case sLB => k_is)
    (case gaD => k_is)
    (case ggD => k_is)
    (case hCD => k_is)
    (case ccD => k_is)
    (case moD => k_is)
    (case iD => k_is)
    (case sDD => k_is)
    (case sDT => k_is)
    (case sDP => k_is)
    (case sDV => k_is)
    (case sDL => k_is)
    (case sLD => k_is)
    (case sBD => k_is)
    (case sDB => k_is)
    (case sLT => k_is)
    (case iT => k_is)
    (case tT => k_is)
#print axioms PySem.Challenge.cw_passproven_k02_refused_texts_holds
