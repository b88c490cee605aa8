import PyProof.Rows.All
import Wide.All
import OpenK.AllK
import Wide.FinOn
import HandS.ForMost
import HandS.Wide
import HandS.IsInst
import HandS.More
import HandS.Conv
import HandS.Codes
import HandS.ForExc
import HandS.ExcInit
import HandS.ExcField
import HandS.TryMany
import KE.GoesEnum
import KE.KExcIs
import HandS.ExcIs
import KE.KxText
import HandS.Walk
import HandS.Star
import PySem.Challenge.RW_passproven_k17_large_states
set_option Elab.async false
set_option linter.all false
set_option maxRecDepth 100000
namespace PKR
open PySem L2
/-! ### one of two walks, as it comes -/
theorem pi_or {X : Cx} {tg iter : Expr} {w1 w2 : TI} (a : PI X tg iter w1) (b : PI X tg iter w2) : PI X tg iter (fun σ H R => w1 σ H R ∨ w2 σ H R) :=
  ⟨fun pins s σ H R I h => h.elim (a.run pins s σ H R I) (b.run pins s σ H R I)⟩
/-! ### enumerate over a tuple -/
set_option maxHeartbeats 2000000 in
theorem meets_enum_any {v : Value} {o : Obj} {Hh : Heap → Prop} (B : Begins v o Hh) :
    Meets (Builtin.«enumerate.__new__» ⟨[.type "enumerate", v], []⟩) (fun _ R s => Hh s.heap ∧
      R (.ok (.ret (.ref (s.heap.push o).objs.size))) { s with heap := (s.heap.push o).push { cls := .type "enumerate", data := .fields #[.none, .bool false, .ref s.heap.objs.size, rawInt 0, .none, .none] } }) := by
  refine .of_wp fun prog w A R s h => ?_
  obtain ⟨hp, g, d, tk, os⟩ := s
  obtain ⟨hH, hR⟩ := h
  have sub_e := sub_enumerate
  have it_v : ∀ {A' : Around} {E Q : Value → Shared → Prop}, Q (.ref hp.objs.size) ⟨hp.push o, g, d, tk, os⟩ → wpAny (model prog w) A' (pyIter v) Q E ⟨hp, g, d, tk, os⟩ := fun z => B.iter prog w _ _ ⟨hp, g, d, tk, os⟩ _ hH z
  wp_walk using it_v
  refine wpAny_stack_any fun st => wpAny_pure ?_
  split
  · rename_i c _ _ _ _ _
    cases (c == Value.type "enumerate") <;> (wp_walk using it_v; exact ⟨_, rfl, hR⟩)
  · wp_walk using it_v
    exact ⟨_, rfl, hR⟩
theorem call_enum_any {prog : Program} {w : World} {A : Around} {E : Value → Shared → Prop} {s : Shared} {v : Value} {o : Obj} {Hh : Heap → Prop} {Q : Value → Shared → Prop} (B : Begins v o Hh) (hH : Hh s.heap)
    (hq : ∀ h', IsEnum h' (s.heap.objs.size + 1) s.heap.objs.size 0 .none → h'.get? s.heap.objs.size = some o → (∀ b u, s.heap.get? b = some u → h'.get? b = some u) → Q (.ref (s.heap.objs.size + 1)) { s with heap := h' }) :
    wpAny (model prog w) A (call (.type "enumerate") [v]) Q E s := by
  refine callType_new F.called_enumerate (by decide) (F.typeCall_enumerate_1 _) (F.newCall_enumerate_1 _) (fun obj => F.args_object_init_2 obj _) F.entry_enumerate_new (meets_enum_any B) ⟨hH, ?_⟩
  have sz : (s.heap.push o).objs.size = s.heap.objs.size + 1 := Heap.size_push ..
  show _ ∧ _
  rw [sz]
  have en : IsEnum ((s.heap.push o).push { cls := .type "enumerate", data := .fields #[.none, .bool false, .ref s.heap.objs.size, rawInt 0, .none, .none] }) (s.heap.objs.size + 1) s.heap.objs.size 0 .none := by
    have g := Heap.get?_push_size (s.heap.push o) (o := { cls := .type "enumerate", data := .fields #[.none, .bool false, .ref s.heap.objs.size, rawInt 0, .none, .none] }) rfl
    rw [sz] at g
    exact g
  exact ⟨⟨_, en, rfl⟩, hq _ en (Heap.get?_push_of_some _ (Heap.get?_push_size _ B.free)) fun b u z => Heap.get?_push_of_some _ (Heap.get?_push_of_some _ z)⟩
/-- the tuple at a, each item in a new pair with its number -/
def ItE (K : PySem.W.Frag) (a : Addr) : It :=
  ⟨fun i H => ∃ (xs : List V) (x : V), SqT K H a xs ∧ xs[i]? = some x, fun i H v H' => ∃ T x, v = .ref T ∧ H T = none ∧ H' = upd H T (.tup [.int (i : Nat), x]) ∧ ∀ xs, SqT K H a xs → xs[i]? = some x, fun i H => ∃ xs : List V, SqT K H a xs ∧ xs.length = i⟩
theorem pair_mem {b e it : Addr} (h : b ∈ [e, it]) : b = e ∨ b = it := by simpa using h
theorem turn_enumT {P : Program} {w : World} {K : PySem.W.Frag} {es : List Expr} {k : Nat} {pos : Pos} (a e it : Addr) :
    Turn P w K (.Tuple es k pos) (ItE K a) [e, it] e (fun i h => (∃ old, IsEnum h e it ((i : Nat) : Int) old) ∧ h.IsTupleIter it a i ∧ e ≠ it ∧ a ≠ it ∧ e ≠ a) where
  mem := List.mem_cons_self
  obj := fun i h st b hb => by
    obtain ⟨⟨old, he⟩, ⟨o, ho, _, hd⟩, _⟩ := st
    rcases pair_mem hb with rfl | rfl
    · exact ⟨_, he, fun v q => nomatch q⟩
    · exact ⟨o, ho, fun v q => by rw [hd] at q; cases q⟩
  keep := fun i h h' st k => by
    obtain ⟨⟨old, he⟩, hi, ne⟩ := st
    exact ⟨⟨old, k e List.mem_cons_self _ he⟩, hi.at fun o q => k it (List.mem_cons_of_mem _ List.mem_cons_self) o q, ne⟩
  item := by
    intro X eP ew eK calm i pins s σ H E I free st go
    subst eP ew eK
    obtain ⟨⟨old, he⟩, hi, ne, na, nea⟩ := st
    obtain ⟨xs, x, hx, gx⟩ := go
    obtain ⟨its, rv, pT, _⟩ := I.tuple hx
    obtain ⟨u, gu, ru⟩ := rv.get gx
    have hh : X.A.handled = none := I.ok.hd calm
    have D := Draws.tuple (prog := X.prog) (w := X.w) (A := X.A.in1) hh it a na its.toArray
    have lt : i < its.toArray.size := by
      have := (List.getElem?_eq_some_iff.mp gu).1
      simpa using this
    have be := Heap.lt_size he
    have bi : it < s.heap.objs.size := by obtain ⟨_, q, _⟩ := hi; exact Heap.lt_size q
    refine wpAny_pyNext_enum_itemD D he ⟨hi, show s.heap.IsTuple a its.toArray from pT⟩ lt ne (fun m => (pair_mem m).elim ne nea) fun y h1 tk hy out st1 hT _ old1 => ?_
    have ey : y = u := by
      have : its.toArray[i]? = some u := by simpa using gu
      rw [hy] at this
      exact Option.some.inj this
    subst ey
    refine ⟨_, rfl, wpAny_letOwnedTupleGo_enum (s := { s with heap := h1, toks := tk + 1 }) out fun h2 en sb => ?_⟩
    have hT2 := (sb.2 _ (Nat.ne_of_gt be)).trans hT
    have obj : ObjOk X.prog X.w (upd H s.heap.objs.size (.tup [.int (i : Nat), x])) h2 s.heap.objs.size (.tup [.int (i : Nat), x]) :=
      ⟨by show 2 ≤ sizeLine; decide, [.int i tk, y], .cons ⟨_, rfl⟩ (.cons ru .nil), ⟨_, hT2, rfl, _, rfl⟩⟩
    have J : Inv X pins σ (upd H s.heap.objs.size (.tup [.int (i : Nat), x])) { s with heap := h2, toks := tk + 1 } :=
      I.turnedNew (ch := [e, it]) (fun b ob nb q => by
        have n1 : b ≠ e := fun z => nb (by rw [z]; exact List.mem_cons_self)
        have n2 : b ≠ it := fun z => nb (by rw [z]; exact List.mem_cons_of_mem _ List.mem_cons_self)
        exact (sb.2 b n1).trans (old1 b ob n1 n2 q)) free (Nat.le_refl _) obj
    refine ⟨.ref s.heap.objs.size, _, J, rfl, ⟨_, x, rfl, I.hok.fresh (Nat.le_refl _), rfl, fun ys hy' => by rw [I.tuple_inj hy' hx]; exact gx⟩, ⟨⟨y, ?_⟩, st1.1.at fun o q => (sb.2 it ne.symm).trans q, ne, na, nea⟩, fun b hb => ?_⟩
    · rw [show ((i + 1 : Nat) : Int) = (i : Int) + 1 by omega]
      exact en
    · have lb : b < s.heap.objs.size := by
        rcases pair_mem hb with rfl | rfl
        · exact be
        · exact bi
      rw [upd_ne (Nat.ne_of_lt lb)]
      exact (free b hb).1
  done := by
    intro X eP ew eK calm i pins s σ H E I free st stop
    subst eP ew eK
    obtain ⟨⟨old, he⟩, hi, ne, na, nea⟩ := st
    obtain ⟨xs, hx, lx⟩ := stop
    obtain ⟨its, rv, pT, _⟩ := I.tuple hx
    have hh : X.A.handled = none := I.ok.hd calm
    have D := Draws.tuple (prog := X.prog) (w := X.w) (A := X.A.in1) hh it a na its.toArray
    have ei : its.toArray.size = i := by rw [List.size_toArray, ← rv.length, lx]
    obtain ⟨f0, f1, f2, f3, f4, f5⟩ := free it (List.mem_cons_of_mem _ List.mem_cons_self)
    exact wpAny_pyNext_enum_endD D he ⟨by rw [ei]; exact hi, show s.heap.IsTuple a its.toArray from pT⟩ fun h2 old1 => ⟨rfl, I.turned (t' := s.toks) (fun b o nb q => old1 b o nb q) f0 f1 f3 f4 f5⟩
  self := fun A i s Q E st h => by
    obtain ⟨⟨_, he⟩, _⟩ := st
    exact wpAny_pyIter_enum he h
def iEnumT (K : PySem.W.Frag) (ta : TA) : TI := fun σ H R => ta σ H fun vs H1 => ∃ a xs, vs = [.ref a] ∧ SqT K H1 a xs ∧ R (ItE K a) H1
theorem pi_enumT {X : Cx} {e : Expr} {ta : TA} {p pos tpos : Pos} {es : List Expr} {k : Nat} (hg : Gl X "enumerate") (hm : X.mg "enumerate" = none) (ha : PA X [e] ta) (hs : starEach [e] X.env = [(false, eval e X.env)] := by rfl) :
    PI X (.Tuple es k tpos) (.Call (.Name "enumerate" p) [e] [] pos) (iEnumT X.K ta) := by
  refine ⟨fun pins s σ H R I h => PyProof.Rows.Call_ (ld_blt I hg hm PyProof.Rows.boot_enumerate (PyProof.Rows.callWith_type1 (thn (ha.run pos pins s σ H _ I h) fun us s1 hz => ?_) hs rfl))⟩
  obtain ⟨vs, H1, I1, rs, a, xs, rfl, hx, q⟩ := hz
  cases rs with
  | cons r rest =>
    cases rest
    cases r
    obtain ⟨its, rv, pT, _⟩ := I1.tuple hx
    have la : a < s1.heap.objs.size := pT.lt
    refine call_enum_any (begins_tuple a its.toArray) (show s1.heap.IsTuple a its.toArray from pT) fun h2 en gi old => wpAny_pyIter_enum en ?_
    have J : Inv X pins σ H1 { s1 with heap := h2 } := I1.kept (t' := s1.toks) old
    have na : a ≠ s1.heap.objs.size := Nat.ne_of_lt la
    have nea : s1.heap.objs.size + 1 ≠ a := Nat.ne_of_gt (Nat.lt_succ_of_lt la)
    refine ⟨_, [s1.heap.objs.size + 1, s1.heap.objs.size], _, _, H1, rfl, J, turn_enumT a (s1.heap.objs.size + 1) s1.heap.objs.size, ⟨⟨.none, en⟩, ⟨_, gi, rfl, rfl⟩, Nat.succ_ne_self _, na, nea⟩, fun b hb => ?_, q⟩
    have lb : s1.heap.objs.size ≤ b := by
      rcases pair_mem hb with rfl | rfl
      · exact Nat.le_succ _
      · exact Nat.le_refl _
    exact I1.fpOk lb (I1.hok.fresh lb)
/-! ### an empty tuple and another one -/
def rCat0 (K : PySem.W.Frag) : R2 := fun x y H Q => ∃ a b ys, x = .ref a ∧ y = .ref b ∧ SqT K H a [] ∧ SqT K H b ys ∧ Q (.ref b) H
theorem op_cat0 {X : Cx} : OpR X (binaryOp .Add) (rCat0 X.K) := by
  intro pins s σ H x y v u Q I rx ry h
  obtain ⟨a, b, ys, rfl, rfl, ha, hb, q⟩ := h
  cases rx
  cases ry
  obtain ⟨i1, r1, p1, _⟩ := I.tuple ha
  obtain ⟨i2, r2, p2, _⟩ := I.tuple hb
  cases r1
  obtain ⟨⟨c1, d1, t1, l1⟩, g1, e1, n1, f1⟩ := id p1
  obtain ⟨⟨c2, d2, t2, l2⟩, g2, e2, n2, f2⟩ := id p2
  simp only at e1 f1 e2 f2
  subst e1 f1 e2 f2
  exact PySem.concat_meets ⟨_, g1, rfl⟩ ⟨_, g2, rfl⟩ PySem.noFill_tuple_add PySem.seq_tuple_add PySem.F.slot_tuple_add PySem.F.entry_tuple_add (PySem.F.args_tuple_add_2 _ _)
    (PyProof.Rows.tuple_addW0 a b #[] i2.toArray n1 n2 d1 d2 l1 l2 rfl) ⟨g1, g2, ⟨.ref b, H, I, rfl, q⟩⟩
/-- t + u -/
def rCatA (K : PySem.W.Frag) : R2 := fun x y H Q => rCatT K x y H Q ∨ rCat0 K x y H Q
theorem op_catA {X : Cx} : OpR X (binaryOp .Add) (rCatA X.K) := op_catT.or op_cat0
end PKR
/-! a try with several clauses 'except X as n', every one with its own suite -/
namespace L2.PKR
open PySem PySem.Spec PyProof.Rows
abbrev Suite := Addr → Value → Option Addr → TS
/-- the ends of a suite whose name is given back -/
def offEnds (i : Nat) (D : Ends) : Ends := ⟨fun p q => D.nx (p.set i none) q, D.rt, fun p q => D.bk (p.set i none) q, fun p q => D.ct (p.set i none) q⟩
/-- the wish of the clauses, in their order -/
def wRow (K : PySem.W.Frag) (Wout : WX) (D : Ends) : List (Value × Nat × Suite) → WX
  | [] => Wout
  | (c, i, ts) :: rest => fun cls d σ H =>
    ∃ yes, PySem.W.exmOne K cls c = some yes ∧ (yes = true → ∀ a, H a = none → ts a cls d (offEnds i D) (σ.set i (some (.ref a))) H) ∧ (yes = false → wRow K Wout D rest cls d σ H)
/-- the exception at a, caught and on the ground -/
structure Down (X : Cx) (pins : List (Addr × Obj)) (B : Heap) (a : Addr) (before : Shared) (σ : St) (H : Hp) (cls : Value) (d : Option Addr) (s : Shared) : Prop where
  inv : Inv X pins σ H before
  base : ∀ b o, before.heap.get? b = some o → b ∉ frs X.stack → B.get? b = some o
  slots : before.heap.UpToSlots s.heap
  fly : HandSPX.FlyingZ B (X.env :: X.outer) a (Zc cls d) s.heap
  out : H a = none
  os : s.os = before.os
  bare : AllBare s.gens
section
variable {X : Cx} {pins : List (Addr × Obj)} {B : Heap} {a : Addr} {before s : Shared} {σ : St} {H : Hp} {cls : Value} {d : Option Addr} {D : Ends} {Wout : WX}
theorem Down.here (z : Down X pins B a before σ H cls d s) : Inv X pins σ H s := z.inv.landed z.base z.fly.1 z.slots z.os z.bare
/-- its object, and that it is none of the frames' -/
theorem Down.obj (hf : X.env.frame = some X.env.locals) (z : Down X pins B a before σ H cls d s) : ∃ oe vs, s.heap.get? a = some oe ∧ Zc cls d oe ∧ oe.data = .fields vs ∧ a ≠ X.env.locals ∧ a ∉ X.fs := by
  obtain ⟨oe, vs, he, hz, hd⟩ := z.fly.there
  have nfr : a ∉ frs (X.env :: X.outer) := fun hm => by
    obtain ⟨_, o2, e2, no⟩ := z.fly.2.2.1.mem hm
    rw [he] at e2
    cases e2
    exact no _ hd
  refine ⟨oe, vs, he, hz, hd, fun q => nfr (List.mem_filterMap.mpr ⟨X.env, .head _, by rw [hf, q]⟩), fun q => ?_⟩
  obtain ⟨en, m, r⟩ := List.mem_filterMap.mp q
  exact nfr (List.mem_filterMap.mpr ⟨en, .tail _ m, r⟩)
theorem Down.more (z : Down X pins B a before σ H cls d s) {h : Heap} (fl : HandSPX.FlyingZ B (X.env :: X.outer) a (Zc cls d) h) (up : s.heap.UpToSlots h) : Down X pins B a before σ H cls d { s with heap := h } :=
  ⟨z.inv, z.base, z.slots.trans up, fl, z.out, z.os, z.bare⟩
/-- no clause is left -/
theorem row_nil (hs : X.stack = X.env :: X.outer) (hf : X.env.frame = some X.env.locals) (tk : Takes X Wout) (z : Down X pins B a before σ H cls d s) (w : Wout cls d σ H) :
    wpAny (model X.prog X.w) X.A (handleBy (.ref a) X.env []) (SP X pins D) X.xe s := by
  refine wpAny_handleBy_nil ?_
  obtain ⟨_, _, _, oe, vs, T, _, _, he, _, hd, h1, _⟩ := id z.fly
  unfold PySem.passOn
  refine wpAny_bind (wpAny_field he hd h1 ?_)
  rw [if_neg (show ¬ ((Value.ref T == Value.none) = true) by simp)]
  have last : wpAny (model X.prog X.w) X.A (setFlight (.ref a) X.env.frame) (fun _ s2 => wpAny (model X.prog X.w) X.A (throw (.ref a) : Sem Flow) (SP X pins D) X.xe s2) X.xe s := by
    rw [hf]
    refine HandSPX.setFlight_upZ z.fly fun h2 held up => wpAny_throw (tk _ _ ?_)
    exact ⟨a, B, before, pins, σ, H, cls, d, rfl, z.inv, z.base, z.slots.trans up, .inr (.inr (by rw [hs]; exact held)), z.out, z.os, z.bare, w⟩
  first
    | exact wpAny_bind (wpAny_pure (wpAny_bind last))
    | exact wpAny_bind last
/-- one clause -/
theorem row_cons {x n : Str} {c : Value} {i : Nat} {b₀ : Stmt} {more : List Stmt} {np pos : Pos} {ts : Suite} {hds : List ExceptHandler} {yes : Bool} (hf : X.env.frame = some X.env.locals) (hN : X.N.Nodup) (hi : X.N[i]? = some n)
    (hl : X.env.kindOf n = some .local) (hc : Names X x c)
    (body : ∀ (a : Addr) (oe : Obj) (cls : Value) (d : Option Addr) (pn : List (Addr × Obj)), Zc cls d oe → (∃ vs, oe.data = .fields vs) → PSs (X.suite a ((a, oe) :: pn)) (b₀ :: more) (ts a cls d))
    (z : Down X pins B a before σ H cls d s) (hy : PySem.W.exmOne X.K cls c = some yes) (t : yes = true → ts a cls d (offEnds i D) (σ.set i (some (.ref a))) H)
    (f : yes = false → wpAny (model X.prog X.w) X.A (handleBy (.ref a) X.env hds) (SP X pins D) X.xe s) :
    wpAny (model X.prog X.w) X.A (handleBy (.ref a) X.env (.ExceptHandler (some (.Name x np)) (some n) (b₀ :: more) pos :: hds)) (SP X pins D) X.xe s := by
  have ok := z.inv.ok
  obtain ⟨oe, vs, he, hz, hd, nL, nF⟩ := z.obj hf
  have S := z.here.suite he hd z.out nL nF
  refine wpAny_handleBy_cons (codeAny_handlers_test ?_) (fun q => nomatch q)
  have ty : PySem.W.Looks (model X.prog X.w) s.heap (typeOf (.ref a)) cls := fun _ _ _ _ k q => wpAny_typeOf_ref (k _ _ he) (by rw [hz.1]; exact q)
  have isIt := PySem.W.exm_one (M := model X.prog X.w) z.here.kIn ty hy
  have named : ∀ {Q E : Value → Shared → Prop}, Q c s → wpAny (model X.prog X.w) (X.A.mark (some (.ref a))) (eval (.Name x np) X.env) Q E s := fun {Q E} q => by
    obtain ⟨hg, nd, hm | ⟨hm, hv, hn⟩⟩ := hc
    · exact ld_glob (X := X.suite a ((a, oe) :: (X.pn ++ pins))) S hg hm q nd
    · exact ld_blt (X := X.suite a ((a, oe) :: (X.pn ++ pins))) S hg hm hv q hn nd
  refine named (isIt.here ?_)
  cases yes with
  | false => exact f rfl
  | true =>
    refine codeAny_handlers_suite_as (HandSPX.lands_againZ z.fly fun h2 fl up => ?_)
    have z2 := z.more fl up
    obtain ⟨oe2, vs2, he2, hz2, hd2, nL2, nF2⟩ := z2.obj hf
    refine store_ok (X := X.suite a ((a, oe2) :: (X.pn ++ pins))) (v := .ref a) (z2.here.suite he2 hd2 z.out nL2 nF2) hN hi (.inl hl) rfl (fun s3 S3 => ?_) (.inr hl)
    have run := (body a oe2 cls d (X.pn ++ pins) hz2 ⟨_, hd2⟩).run [] s3 (σ.set i (some (.ref a))) H (offEnds i D) S3 (t rfl)
    have gone : ∀ {p : St} {q : Hp} {s4 : Shared} {Q : Shared → Prop}, Inv (X.suite a ((a, oe2) :: (X.pn ++ pins))) [] p q s4 → (∀ s5, Inv X pins (p.set i none) q s5 → Q s5) →
        wpAny (model X.prog X.w) X.A (do bindName X.env n .none; unbindBehindTheSuite X.env n pos) (fun _ s5 => Q s5) X.xe s4 := fun S4 k => gone_ok (S4.unsuite ok) hN hi hl k
    refine wpAny_mono run (fun fl4 s4 done => ?_) (fun _ _ no => False.elim no)
    rcases fl4 with _ | _ | _ | u
    · obtain ⟨p, q, S4, k⟩ := done
      exact gone S4 fun s5 J => ⟨_, _, J, k⟩
    · obtain ⟨p, q, S4, k⟩ := done
      exact gone S4 fun s5 J => ⟨_, _, J, k⟩
    · obtain ⟨p, q, S4, k⟩ := done
      exact gone S4 fun s5 J => ⟨_, _, J, k⟩
    · obtain ⟨v, p, q, S4, r, k⟩ := done
      exact gone S4 fun s5 J => ⟨_, _, _, J, r, k⟩
end
/-- the clauses and their wishes -/
inductive Row (X : Cx) : List ExceptHandler → List (Value × Nat × Suite) → Prop
  | nil : Row X [] []
  | cons {x n : Str} {c : Value} {i : Nat} {b₀ : Stmt} {more : List Stmt} {np pos : Pos} {ts : Suite} {hds : List ExceptHandler} {l : List (Value × Nat × Suite)} (hi : X.N[i]? = some n) (hl : X.env.kindOf n = some .local) (hc : Names X x c)
      (body : ∀ (a : Addr) (oe : Obj) (cls : Value) (d : Option Addr) (pn : List (Addr × Obj)), Zc cls d oe → (∃ vs, oe.data = .fields vs) → PSs (X.suite a ((a, oe) :: pn)) (b₀ :: more) (ts a cls d)) (r : Row X hds l) :
      Row X (.ExceptHandler (some (.Name x np)) (some n) (b₀ :: more) pos :: hds) ((c, i, ts) :: l)
theorem row_runs {X : Cx} {pins : List (Addr × Obj)} {B : Heap} {a : Addr} {before s : Shared} {σ : St} {H : Hp} {cls : Value} {d : Option Addr} {D : Ends} {Wout : WX} (hs : X.stack = X.env :: X.outer) (hf : X.env.frame = some X.env.locals) (hN : X.N.Nodup) (tk : Takes X Wout)
    {hds : List ExceptHandler} {l : List (Value × Nat × Suite)} (hh : Row X hds l) (z : Down X pins B a before σ H cls d s) (w : wRow X.K Wout D l cls d σ H) : wpAny (model X.prog X.w) X.A (handleBy (.ref a) X.env hds) (SP X pins D) X.xe s := by
  induction hh with
  | nil => exact row_nil hs hf tk z w
  | cons hi hl hc body r ih =>
    obtain ⟨yes, hy, t, f⟩ := w
    exact row_cons hf hN hi hl hc body z hy (fun e => t e a z.out) fun e => ih (f e)
theorem ps_try_row {X : Cx} {body : List Stmt} {h₀ : ExceptHandler} {hds : List ExceptHandler} {l : List (Value × Nat × Suite)} {pos : Pos} {tb : WX → TS} {Wout : WX} (hs : X.stack = X.env :: X.outer) (hf : X.env.frame = some X.env.locals) (hN : X.N.Nodup) (tk : Takes X Wout)
    (hb : ∀ (W : WX) (pn : List (Addr × Obj)) (xe : Value → Shared → Prop), Takes (X.tr pn xe) W → PassesOwn (model X.prog X.w) X.A X.env xe → PSs (X.tr pn xe) body (tb W))
    (hh : Row X (h₀ :: hds) l) : PS X (.Try body (h₀ :: hds) [] [] pos) (fun D σ H => tb (wRow X.K Wout D l) D σ H) := by
  refine ⟨fun pins s σ H D I h => wpAny_Try_except ?_⟩
  have ok := I.ok
  have fr : X.A.frames = some (X.env :: X.outer) := by rw [ok.frames, hs]
  have inner := hb (wRow X.K Wout D l) (X.pn ++ pins)
    (fun e s1 => wpAny (model X.prog X.w) X.A (noteFrame e X.env) (fun _ s2 => wpAny (model X.prog X.w) X.A (setFlight e none) (fun _ s3 => wpAny (model X.prog X.w) X.A (handleBy e X.env (h₀ :: hds)) (SP X pins D) X.xe s3) X.xe s2) X.xe s1)
    (fun u s1 air => by
      obtain ⟨a, B, before, pins1, p, q, cls, d, rfl, J, base, up, sky, out, os, bare, w⟩ := air
      have J1 : Inv X pins p q before := J.ofTry ok
      refine Sky.land Zc.steady fr hf (show Sky B (X.env :: X.outer) a (Zc cls d) X.env.locals s1.heap by rw [← hs]; exact sky) fun h2 fl up2 => ?_
      exact row_runs hs hf hN tk hh (s := { s1 with heap := h2 }) ⟨J1, base, up.trans up2, fl, out, os, bare⟩ w)
    PassesOwn.looking
  refine wpAny_mono (inner.run [] s σ H D (I.toTry _) h) (fun f s1 done => ?_) (fun _ _ k => k)
  rcases f with _ | _ | _ | u
  · obtain ⟨p, q, J, k⟩ := done
    exact wpAny_execs_nil ⟨p, q, J.ofTry ok, k⟩
  · obtain ⟨p, q, J, k⟩ := done
    exact ⟨p, q, J.ofTry ok, k⟩
  · obtain ⟨p, q, J, k⟩ := done
    exact ⟨p, q, J.ofTry ok, k⟩
  · obtain ⟨v, p, q, J, r, k⟩ := done
    exact ⟨v, p, q, J.ofTry ok, r, k⟩
end L2.PKR
/-! isinstance(e, C), e a caught error of an own class with fields -/
namespace L2.PKR
open PySem PySem.Spec PyProof.Rows
def rIsX (K : PySem.W.Frag) (a : Addr) (cls : Value) (d : Option Addr) : List V → Hp → VK → Prop := fun xs H Q =>
  ∃ (c : V) (cv : Value) (yes : Bool) (D dd : Addr) (fs : List (Str × V)), xs = [.ref a, c] ∧ (∀ u, RelV c u → u = cv) ∧ cls = .ref D ∧ d = some dd ∧ H dd = some (.xd fs) ∧ ExcC K D ∧ PySem.W.kitOne K (.ref D) cv = some yes ∧ Q (.bl yes) H
theorem call_isX {X : Cx} {a : Addr} {oe : Obj} {cls : Value} {d : Option Addr} {pn : List (Addr × Obj)} (hz : Zc cls d oe) (hf : ∃ vs, oe.data = .fields vs) : CallR (X.suite a ((a, oe) :: pn)) (.builtin "isinstance") (rIsX X.K a cls d) := by
  intro pins s σ H xs us Q I r h
  obtain ⟨c, cv, yes, D, dd, fs, rfl, hcv, rfl, rfl, hx, C, hk, q⟩ := h
  rcases r with _ | ⟨rx, rr⟩
  rcases rr with _ | ⟨rc, rr⟩
  cases rr
  cases rx
  cases hcv _ rc
  have at_a := (I.pin (a, oe) (List.mem_append_left _ (.head _))).1
  obtain ⟨vs, hd⟩ := hf
  obtain ⟨mA, hns, _⟩ := (show ObjOk X.prog X.w H s.heap dd (.xd fs) from I.hok dd _ hx)
  obtain ⟨od, ho, _⟩ := lookIn_ns hns
  have J : PySem.W.InstAt s.heap a oe D (some od) := ⟨at_a, hz.1, by unfold PySem.W.notCls; rw [hd] <;> rfl, by rw [hz.2]; exact ho⟩
  obtain ⟨cd, hcd, _⟩ := PySem.W.any_some C.hd
  exact PySem.W.kia_one (PySem.W.kitx_exc (by rw [hcd]; rfl) C.hg C.hk C.hs C.ha C.hn C.ht C.hm) I.kIn J hk (fun e => nomatch e) fun tk => ⟨.bl yes, H, I.kept (t' := tk) fun _ _ k => k, rfl, q⟩
end L2.PKR
namespace PK
open PySem L2
def topS (i : Nat) : Stmt := PySem.Challenge.pw_passproven_k17_large_states.main.body.getD i (.Pass ⟨0, 0, 0, 0⟩)
/-- xs[j] of a name -/
theorem vIx {K : PySem.W.Frag} {σ : L2.St} {H : Hp} {Q : VK} {i : Nat} {p : Addr} {xs : List V} {j : Int} {v : V} (h : σ[i]? = some (some (.ref p))) (hl : H p = some (.lst xs)) (ha : atI xs j = some v) (q : Q v H) :
    tOp (rIxL K) (tVar i) (tC (.int j)) σ H Q := ⟨_, h, p, xs, j, v, rfl, rfl, SqL.of hl, ha, q⟩
structure Txt (K : PySem.W.Frag) (mg : Str → Option Value) : Prop where
  z_len : mg "len" = none
  z_int : mg "int" = none
  z_range : mg "range" = none
  z_min : mg "min" = none
  z_str : mg "str" = none
  z_tuple : mg "tuple" = none
  z_sorted : mg "sorted" = none
  z_isinstance : mg "isinstance" = none
  z_any : mg "any" = none
  z_all : mg "all" = none
  z_list : mg "list" = none
  z_bool : mg "bool" = none
/-- all but what stands at l is as it was -/
def Keep (l : Addr) (H H' : Hp) : Prop := ∀ b o, b ≠ l → H b = some o → H' b = some o
def PoolR (H : Hp) (l c : Addr) (pos : Prop) : Prop := ∃ (ns : List Int) (i r s : Int), H l = some (.lst [.ref c, .int i, .int r, .int s]) ∧ H c = some (.lst (ns.map V.int)) ∧ c ≠ l ∧ (∀ n ∈ ns, 0 ≤ n) ∧ 0 ≤ i ∧ 0 ≤ r ∧ 0 ≤ s ∧ s < 2147483647 ∧ (pos → 0 < r)
abbrev Pool (H : Hp) (l c : Addr) : Prop := PoolR H l c False
/-- from H to H' the pool at l was drawn from, all else is kept -/
structure Ext (l c : Addr) (H H' : Hp) : Prop where
  keep : Keep l H H'
  pool : Pool H' l c
theorem Pool.ne {H : Hp} {l c p : Addr} (P : Pool H l c) (h : H p = none) : p ≠ l ∧ p ≠ c := by
  obtain ⟨ns, i, r, s, hl, hc, _⟩ := P
  exact ⟨(ne_of_none hl h).symm, (ne_of_none hc h).symm⟩
theorem Pool.upd {H : Hp} {l c p : Addr} {o : HO} (P : Pool H l c) (h1 : p ≠ l) (h2 : p ≠ c) : Pool (upd H p o) l c := by
  obtain ⟨ns, i, r, s, hl, hc, z⟩ := P
  exact ⟨ns, i, r, s, by rw [upd_ne h1.symm]; exact hl, by rw [upd_ne h2.symm]; exact hc, z⟩
theorem Ext.refl {l c : Addr} {H : Hp} (P : Pool H l c) : Ext l c H H := ⟨fun _ _ _ h => h, P⟩
theorem Ext.trans {l c : Addr} {H H1 H2 : Hp} (x : Ext l c H H1) (y : Ext l c H1 H2) : Ext l c H H2 := ⟨fun b o hb h => y.keep b o hb (x.keep b o hb h), y.pool⟩
/-- what was free ahead of the draws was free -/
theorem Ext.free {l c p : Addr} {H H' : Hp} (x : Ext l c H H') (P : Pool H l c) (h : H' p = none) : H p = none := by
  cases e : H p with
  | none => rfl
  | some o =>
    by_cases hb : p = l
    · subst hb
      obtain ⟨ns, i, r, s, hl, _⟩ := x.pool
      rw [hl] at h; cases h
    · rw [x.keep p o hb e] at h; cases h
theorem Ext.upd {l c p : Addr} {H H' : Hp} {o : HO} (x : Ext l c H H') (P : Pool H l c) (h : H p = none) : Ext l c H (L2.upd H' p o) :=
  ⟨fun b u hb hu => by rw [upd_ne (ne_of_none hu h)]; exact x.keep b u hb hu, x.pool.upd (P.ne h).1 (P.ne h).2⟩
theorem Ext.new {l c p : Addr} {H H' : Hp} {o : HO} (x : Ext l c H H') (P : Pool H l c) (h : H' p = none) : Ext l c H (L2.upd H' p o) := x.upd P (x.free P h)
theorem Ext.seqT {l c a : Addr} {K : PySem.W.Frag} {H H' : Hp} {xs : List V} (x : Ext l c H H') (P : Pool H l c) (h : SqT K H a xs) : SqT K H' a xs := by
  have nl : ∀ {o : HO}, H a = some o → (∀ ys, o ≠ .lst ys) → a ≠ l := fun e d z => by
    subst z
    obtain ⟨ns, i, r, s, hl, _⟩ := P
    rw [hl] at e; cases e
    exact d _ rfl
  rcases h with (h | ⟨o, h⟩) | h
  · exact .inl (.inl (x.keep _ _ (nl h (fun _ => HO.noConfusion)) h))
  · exact .inl (.inr ⟨o, x.keep _ _ (nl h (fun _ => HO.noConfusion)) h⟩)
  · exact .inr h
def spTake (n : Nat) : Sp := fun vs H Q _ => ∃ (l c : Addr) (m : Int) (p : Prop), vs = [.ref l, .int m] ∧ PoolR H l c p ∧ 0 < m ∧ m < 18446744073709551616 ∧ (2 ≤ n ∨ (1 ≤ n ∧ p)) ∧
  ∀ (d : Int) (H' : Hp), 0 ≤ d → d < m → Ext l c H H' → Q (.int d) H'
theorem vTake {σ : L2.St} {H : Hp} {Q : VK} {i : Nat} {m : Int} {l c : Addr} (h : σ[i]? = some (some (.ref l))) (P : Pool H l c) (h0 : 0 < m) (hm : m < 18446744073709551616)
    (q : ∀ (d : Int) (H' : Hp), 0 ≤ d → d < m → Ext l c H H' → Q (.int d) H') : tCall (spTake 2) [] E0 (tCons (tVar i) (tCons (tC (.int m)) tNil)) σ H Q :=
  ⟨_, h, l, c, m, False, rfl, P, h0, hm, .inl (Nat.le_refl 2), q⟩
section
variable {P : Program} {w : World} {K : PySem.W.Frag} {mg : Str → Option Value} {base : Heap}
abbrev s_law_take : Stmt := topS 12
theorem sc_law_take : FnScope ["pool", "many", "digit", "cell", "mixed"] ["pool", "many"] (defScope s_law_take) := ⟨rfl, rfl, rfl, by decide +kernel, rfl, by decide +kernel, by decide +kernel⟩
-- slots: 0:pool 1:many 2:digit 3:cell 4:mixed
theorem ok_take {n : Nat} {f : Addr} {fd : FuncData} (F : Fun K "_law_take" "_law_take" s_law_take f fd) (T : Txt K mg) (C_law_take : C8.Cal P w K mg base n "_law_take" (spTake n) []) :
    FnOk P w K mg base CX0 (n + 1) f fd ["pool", "many"] (spTake (n + 1)) := by
  refine F.ok sc_law_take (fun vs H Q E h => ?_) (fun cdv A outer s H vs Q E hr h => ?_)
  · obtain ⟨l, c, m, p, rfl, _⟩ := h
    rfl
  obtain ⟨l, c, m, p, rfl, ⟨ns, i, r, st, hl, hc, hcl, hns, hi, h0r, hs, hs2, hp⟩, hm, hm2, hn, q⟩ := h
  have hk : n ≤ n := Nat.le_refl n
  refine ⟨_, (pss_cons (ps_if (pt_cmpR op_gt (pe_ix ix_list (pv 0) pe_int (fun _ _ => rfl)) pe_int (nomark _)) (pss_cons (ps_set (i := 2) sc_law_take.nd rfl (Or.inl rfl) (pe_op op_mod (pe_callTy call_int1 (by rfl) T.z_int (by decide +kernel) (pa_cons (pe_ix ix_list (pv 0) pe_int (fun _ _ => rfl)) pa_nil)) (pv 1)))
    (pss_cons (ps_asg (pe_op op_fdivW (pe_ix ix_list (pv 0) pe_int (fun _ _ => rfl)) (pv 1)) (pg_sub (pv 0) pe_int set_list))
    (pss_one (ps_ret (pv 2))))) pss_nil)
    (pss_cons (ps_set (i := 3) sc_law_take.nd rfl (Or.inl rfl) pe_int)
    (C8.pss_cut (ps_if (pt_cmpR op_lt (pe_ix ix_list (pv 0) pe_int (fun _ _ => rfl)) (pe_callB call_len_seq (by rfl) T.z_len (by decide +kernel) (pa_cons (pe_ix ix_list (pv 0) pe_int (fun _ _ => rfl)) pa_nil)) (nomark _)) (pss_one (ps_set (i := 3) sc_law_take.nd rfl (Or.inl rfl) (pe_ix ix_list (pe_ix ix_list (pv 0) pe_int (fun _ _ => rfl)) (pe_ix ix_list (pv 0) pe_int (fun _ _ => rfl)) (fun _ _ => rfl)))) pss_nil)
    (pss_cons (ps_asg (pe_op op_add (pe_ix ix_list (pv 0) pe_int (fun _ _ => rfl)) pe_int) (pg_sub (pv 0) pe_int set_list))
    (pss_cons (ps_if (pt_cmpR op_ge (pv 3) (pe_op op_pow pe_int pe_int) (nomark _)) (pss_cons (ps_asg (pe_op op_fdivW (pv 3) pe_int) (pg_sub (pv 0) pe_int set_list))
    (pss_one (ps_ret (C8.pe_c C_law_take hr hk rfl (pa_cons (pv 0) (pa_cons (pv 1) pa_nil)))))) pss_nil)
    (pss_cons (ps_asg (pe_op op_mod (pe_callTy call_int1 (by rfl) T.z_int (by decide +kernel) (pa_cons (pe_op op_add (pe_op op_add (pe_op op_mul (pe_ix ix_list (pv 0) pe_int (fun _ _ => rfl)) pe_int) (pe_op op_mul (pv 3) pe_int)) (pe_op op_mul (pe_ix ix_list (pv 0) pe_int (fun _ _ => rfl)) pe_int)) pa_nil)) pe_int) (pg_sub (pv 0) pe_int set_list))
    (pss_cons (ps_set (i := 4) sc_law_take.nd rfl (Or.inl rfl) (pe_op op_mod (pe_callTy call_int1 (by rfl) T.z_int (by decide +kernel) (pa_cons (pe_op op_add (pe_op op_add (pe_op op_mul (pe_ix ix_list (pv 0) pe_int (fun _ _ => rfl)) (pe_ix ix_list (pv 0) pe_int (fun _ _ => rfl))) (pe_op op_mul (pe_ix ix_list (pv 0) pe_int (fun _ _ => rfl)) pe_int)) pe_int) pa_nil)) pe_int))
    (pss_one (ps_ret (pe_op op_mod (pe_callTy call_int1 (by rfl) T.z_int (by decide +kernel) (pa_cons (pe_op op_fdivW (pv 4) pe_int) pa_nil)) (pv 1))))))))))), ?_⟩
  have lgm : m.natAbs.log2 < 9000 := (wide_div (i := 0) (b := 64) hm (by rw [show (2 : Nat) ^ 64 = 18446744073709551616 from rfl]; omega) (by decide) (by decide)).2
  have lg2 : (2 : Int).natAbs.log2 < 9000 := by decide
  have ext : ∀ i' r' s' : Int, 0 ≤ i' → 0 ≤ r' → 0 ≤ s' → s' < 2147483647 → ∀ pp : Prop, (pp → 0 < r') → Keep l H (upd H l (.lst [.ref c, .int i', .int r', .int s'])) ∧ PoolR (upd H l (.lst [.ref c, .int i', .int r', .int s'])) l c pp := fun i' r' s' h1 h2 h3 h4 pp hpp =>
    ⟨fun b o hb hbo => by rw [upd_ne hb]; exact hbo, ns, i', r', s', upd_same, by rw [upd_ne hcl]; exact hc, hcl, hns, h1, h2, h3, h4, hpp⟩
  -- pool[2] > 0
  refine vIx rfl hl rfl ⟨_, _, rfl, rfl, _, rfl, ?_⟩
  refine ite2 (fun e => ?_) (fun e => ?_)
  · have e' : 0 < r := of_decide_eq_true e
    refine ⟨_, rfl, l, _, _, _, rfl, rfl, SqL.of hl, rfl, .inl ⟨_, rfl, _, rfl, _, _, rfl, rfl, hm, ?_⟩⟩
    refine vIx rfl hl rfl ⟨_, rfl, _, _, rfl, rfl, ⟨hm, lgm⟩, ?_⟩
    refine ⟨_, rfl, l, _, 2, 2, rfl, rfl, hl, rfl, _, rfl, ?_⟩
    have z := ext i (r / m) st hi (Int.ediv_nonneg h0r (by omega)) hs hs2 False False.elim
    exact q _ _ (Int.emod_nonneg _ (by omega)) (Int.emod_lt_of_pos _ hm) ⟨z.1, z.2⟩
  · have e0 : r = 0 := by have := of_decide_eq_false (Bool.eq_false_iff.mpr e); omega
    subst e0
    have n2 : 1 ≤ n := by
      rcases hn with hn | ⟨_, hn⟩
      · omega
      · exact absurd (hp hn) (by omega)
    refine ⟨fun σ' H' => ∃ z : Int, 0 ≤ z ∧ σ' = [some (.ref l), some (.int m), none, some (.int z), none] ∧ H' = H, ?_, ?_⟩
    · refine vIx rfl hl rfl (vIx rfl hl rfl ⟨c, _, rfl, .inl (SqL.of hc), _, _, rfl, rfl, _, rfl, ?_⟩)
      refine ite2 (fun e1 => ?_) (fun e1 => ⟨0, by omega, rfl, rfl⟩)
      have e1' : i < ((ns.map V.int).length : Nat) := of_decide_eq_true e1
      rw [List.length_map] at e1'
      obtain ⟨j, rfl⟩ : ∃ j : Nat, i = j := ⟨i.toNat, by omega⟩
      have hj : j < ns.length := by omega
      have g : (ns.map V.int)[j]? = some (.int ns[j]) := by rw [List.getElem?_map, List.getElem?_eq_getElem hj]; rfl
      refine vIx rfl hl rfl (vIx rfl hl rfl ⟨c, _, _, _, rfl, rfl, SqL.of hc, atI_nat g, ?_⟩)
      exact ⟨_, hns _ (List.getElem_mem hj), rfl, rfl⟩
    · rintro σ' H' ⟨z, hz, rfl, rfl⟩
      refine vIx rfl hl rfl ⟨_, _, rfl, rfl, _, rfl, l, _, 1, 1, rfl, rfl, hl, rfl, ?_⟩
      refine ⟨_, rfl, _, _, rfl, rfl, ⟨by decide, by decide, by decide⟩, _, _, rfl, rfl, _, rfl, ?_⟩
      refine ite2 (fun e1 => ?_) (fun e1 => ?_)
      · have e1' : (10 : Int) ^ 18 ≤ z := of_decide_eq_true e1
        refine ⟨_, rfl, _, _, rfl, rfl, ⟨by decide, lg2⟩, _, rfl, l, _, 2, 2, rfl, rfl, upd_same, rfl, ?_⟩
        refine ⟨_, rfl, _, rfl, ?_⟩
        have zz := ext (i + 1) (z / 2) st (by omega) (Int.ediv_nonneg hz (by omega)) hs hs2 True (fun _ => by omega)
        refine ⟨l, c, m, True, rfl, ?_, hm, hm2, .inr ⟨n2, trivial⟩, fun d H' h1 h2 x => q d H' h1 h2 ⟨?_, x.pool⟩⟩
        · show PoolR (upd (upd H' l _) l _) l c True
          rw [upd_upd]
          exact zz.2
        · intro b o hb hbo
          refine x.keep b o hb ?_
          show upd (upd _ l _) l _ b = _
          rw [upd_upd, upd_ne hb]
          exact hbo
      · have c1 : CMul st 48271 := .inr ⟨by decide, by decide⟩
        have c2 : CMul z 69621 := .inr ⟨by decide, by decide⟩
        have c3 : CMul (i + 1) 613 := .inr ⟨by decide, by decide⟩
        refine vIx rfl upd_same rfl ⟨_, _, rfl, rfl, c1, _, rfl, _, _, rfl, rfl, c2, _, _, rfl, rfl, vIx rfl upd_same rfl ⟨_, _, rfl, rfl, c3, _, _, rfl, rfl, .inl ⟨_, rfl, _, _, rfl, rfl, (show (0 : Int) < 2147483647 by decide), ?_⟩⟩⟩
        refine ⟨_, rfl, l, _, 3, 3, rfl, rfl, upd_same, rfl, ?_⟩
        have b1 : 0 ≤ (st * 48271 + z * 69621 + (i + 1) * 613) % 2147483647 := Int.emod_nonneg _ (by decide)
        have b2 : (st * 48271 + z * 69621 + (i + 1) * 613) % 2147483647 < 2147483647 := Int.emod_lt_of_pos _ (by decide)
        have c4 : CMul ((st * 48271 + z * 69621 + (i + 1) * 613) % 2147483647) ((st * 48271 + z * 69621 + (i + 1) * 613) % 2147483647) := .inr ⟨by omega, by omega⟩
        have c5 : CMul ((st * 48271 + z * 69621 + (i + 1) * 613) % 2147483647) 7919 := .inr ⟨by decide, by decide⟩
        refine vIx rfl upd_same rfl (vIx rfl upd_same rfl ⟨_, _, rfl, rfl, c4, vIx rfl upd_same rfl ⟨_, _, rfl, rfl, c5, _, _, rfl, rfl, _, _, rfl, rfl, .inl ⟨_, rfl, _, _, rfl, rfl, (show (0 : Int) < 1000000007 by decide), ?_⟩⟩⟩)
        have c6 : CDivW ((((st * 48271 + z * 69621 + (i + 1) * 613) % 2147483647) * ((st * 48271 + z * 69621 + (i + 1) * 613) % 2147483647) + ((st * 48271 + z * 69621 + (i + 1) * 613) % 2147483647) * 7919 + 104729) % 1000000007) 3 := ⟨by decide, by decide⟩
        refine ⟨_, rfl, _, _, rfl, rfl, c6, .inl ⟨_, rfl, _, rfl, _, _, rfl, rfl, hm, ?_⟩⟩
        have zz := ext (i + 1) 0 ((st * 48271 + z * 69621 + (i + 1) * 613) % 2147483647) (by omega) (by omega) b1 b2 False False.elim
        refine q _ _ (Int.emod_nonneg _ (by omega)) (Int.emod_lt_of_pos _ hm) ⟨?_, ?_⟩
        · show Keep l _ (upd (upd _ l _) l _)
          rw [upd_upd]
          exact zz.1
        · show Pool (upd (upd _ l _) l _) l c
          rw [upd_upd]
          exact zz.2
end
end PK
namespace PK
open PySem L2
/-! ### words -/
abbrev LET : Str := "abcdefghijklmnopqrstuvwxyz"
abbrev OTH : Str := "abcdefghijklmnopqrstuvwxyz0123456789_"
abbrev BARRED : List Str := ["get", "set", "plus", "minus", "new", "read", "write", "put"]
theorem let_len : LET.cps.toList.length = 26 := by decide +kernel
theorem oth_len : OTH.cps.toList.length = 37 := by decide +kernel
theorem line_big : (16777216 : Nat) ≤ sizeLine := by rw [sizeLine_eq]; decide
theorem small {n : Nat} (h : n ≤ 16777216) : n ≤ sizeLine := Nat.le_trans h line_big
theorem smallL {n : Nat} (h : n < 16777216) : n < sizeLine := Nat.lt_of_lt_of_le h line_big
theorem len_list (z : Str) : z.length = z.cps.toList.length := by unfold Str.length; simp
theorem yes_ {A B : Hp → Prop} {σ : L2.St} {H : Hp} (h : A H) : tYes σ H fun b H3 => if b = true then A H3 else B H3 := by
  show if true = true then A H else B H
  exact iteT h
/-- a drawn sign of a text -/
theorem strAt (z : Str) {n : Nat} (hz : z.cps.toList.length = n) (hn : n ≤ 1000) {d : Int} {H : Hp} {Q : VK} (h0 : 0 ≤ d) (h1 : d < (n : Int)) (q : ∀ s : Nat, s ∈ z.cps.toList → Q (.str ⟨#[s]⟩) H) : rIxS (.str z) (.int d) H Q := by
  obtain ⟨j, rfl⟩ : ∃ j : Nat, d = j := ⟨d.toNat, by omega⟩
  have hj : j < z.cps.toList.length := by omega
  exact ⟨z, _, _, rfl, rfl, by rw [len_list, hz]; exact small (by omega), atI_nat (List.getElem?_eq_getElem hj), q _ (List.getElem_mem hj)⟩
/-- the j-th word that is tried for the k-th place -/
def cand (j k : Nat) : Str := ("w" : Str) ++ (toString (j : Int) : Str) ++ ("_" : Str) ++ (toString (k : Int) : Str)
def pre (j : Nat) : Str := ("w" : Str) ++ (toString (j : Int) : Str) ++ ("_" : Str)
theorem pre_len : ∀ j, j < 27 → (pre j).length ≤ 4 := by decide +kernel
theorem str_len : ∀ j : Nat, j < 27 → ((toString (j : Int) : String) : Str).length ≤ 2 := by decide +kernel
theorem pre_inj : ∀ i, i < 27 → ∀ j, j < 27 → pre i = pre j → i = j := by decide +kernel
theorem app_cancel {a b t : Str} (h : a ++ t = b ++ t) : a = b := by
  have e : a.cps ++ t.cps = b.cps ++ t.cps := congrArg Str.cps h
  have e2 : a.cps.toList ++ t.cps.toList = b.cps.toList ++ t.cps.toList := by
    have := congrArg Array.toList e
    simpa using this
  exact Str.ext' (Array.toList_inj.mp (List.append_cancel_right e2))
theorem cand_inj {i j k : Nat} (hi : i < 27) (hj : j < 27) (h : cand i k = cand j k) : i = j := pre_inj i hi j hj (app_cancel h)
theorem cand_len {j k : Nat} (hj : j < 27) (hk : k < 27) : (cand j k).length ≤ 6 := by
  have h1 := pre_len j hj
  have h2 := str_len k hk
  show (pre j ++ _).length ≤ 6
  rw [Str.length_append]
  omega
theorem cand_bar (j k : Nat) : cand j k ∉ BARRED := by
  have h1 : 95 ∈ (cand j k).cps.toList := by
    show 95 ∈ ((((("w" : Str).cps ++ ((toString (j : Int) : String) : Str).cps) ++ ("_" : Str).cps) ++ ((toString (k : Int) : String) : Str).cps)).toList
    have e : ("_" : Str).cps.toList = [95] := by decide +kernel
    simp only [Array.toList_append, e, List.mem_append, List.mem_singleton]
    exact .inl (.inr trivial)
  have h2 : ∀ b ∈ BARRED, 95 ∉ b.cps.toList := by decide +kernel
  exact fun m => h2 _ m h1
theorem inj_le : ∀ (l m : List Str), l.Nodup → (∀ x ∈ l, x ∈ m) → l.length ≤ m.length
  | [], _, _, _ => Nat.zero_le _
  | x :: r, m, hn, hm => by
    obtain ⟨h1, h2⟩ := List.nodup_cons.mp hn
    have hx := hm x List.mem_cons_self
    have ih := inj_le r (m.erase x) h2 fun y hy => (List.mem_erase_of_ne (fun e => h1 (by rw [← e]; exact hy))).mpr (hm y (List.mem_cons_of_mem _ hy))
    rw [List.length_erase_of_mem hx] at ih
    have : 0 < m.length := List.length_pos_of_mem hx
    rw [List.length_cons]
    omega
/-- not all of m tried words stand in a list of fewer than m -/
theorem pigeon {m k : Nat} {ws : List Str} (hm : m < 27) (hl : ws.length < m) (h : ∀ t, t < m → cand t k ∈ ws) : False := by
  have n : ((List.range m).map fun t => cand t k).Nodup := by
    rw [List.Nodup, List.pairwise_map]
    refine List.Pairwise.imp_of_mem ?_ List.nodup_range
    intro a b ha hb hab e
    exact hab (cand_inj (Nat.lt_trans (List.mem_range.mp ha) hm) (Nat.lt_trans (List.mem_range.mp hb) hm) e)
  have := inj_le _ ws n fun x hx => by
    obtain ⟨t, ht, rfl⟩ := List.mem_map.mp hx
    exact h t (List.mem_range.mp ht)
  rw [List.length_map, List.length_range] at this
  omega
theorem inV_str (u : Str) : ∀ ws : List Str, inV (.str u) (ws.map V.str) = decide (u ∈ ws)
  | [] => by simp [inV]
  | x :: r => by
    have ih := inV_str u r
    unfold inV at ih ⊢
    rw [List.map_cons, List.any_cons, ih]
    show ((x == u) || decide (u ∈ r)) = _
    by_cases e : x = u
    · subst e; simp
    · have e2 : (x == u) = false := by simpa using e
      rw [e2, Bool.false_or]
      by_cases h : u ∈ r
      · simp [h]
      · simp [h, Ne.symm e]
theorem flat_strs (ws : List Str) : (ws.map V.str).all flatV = true := by
  rw [List.all_eq_true]
  intro x hx
  obtain ⟨s, _, rfl⟩ := List.mem_map.mp hx
  rfl
/-- signs of words -/
def one (s : Nat) : Str := ⟨#[s]⟩
def Ones (ss : List Nat) : Prop := ∀ s ∈ ss, s ∈ OTH.cps.toList
theorem join_one : ∀ ss : List Nat, (Str.join "" (ss.map one)).cps.toList = ss
  | [] => rfl
  | [s] => rfl
  | s :: t :: r => by
    have ih := join_one (t :: r)
    have e : ("" : Str).cps.toList = [] := by decide +kernel
    show ((one s).cps ++ ("" : Str).cps ++ (Str.join "" ((t :: r).map one)).cps).toList = _
    rw [Array.toList_append, Array.toList_append, ih, e]
    rfl
theorem txt_join (ss : List Nat) : (Txt.join "" (ss.map one)).cps.toList = ss := by
  show (Builtin.Str.glued ("" : Str) (ss.map one)).cps.toList = ss
  rw [StrLaws.glued_eq_join]
  exact join_one ss
theorem one_sum (ss : List Nat) : ((ss.map one).map (·.length)).sum = ss.length := by
  induction ss with
  | nil => rfl
  | cons s r ih =>
    rw [List.map_cons, List.map_cons, List.sum_cons, ih, List.length_cons]
    show 1 + r.length = _
    omega
/-- a word: signs that words have, the first one a letter -/
structure Wd (x : Str) : Prop where
  lo : 1 ≤ x.length
  hi : x.length ≤ 12
  hd : ∃ s r, x.cps.toList = s :: r ∧ s ∈ LET.cps.toList
  al : ∀ s ∈ x.cps.toList, s ∈ OTH.cps.toList
theorem Wd.of {x : Str} {s : Nat} {r : List Nat} (e : x.cps.toList = s :: r) (hs : s ∈ LET.cps.toList) (ho : Ones r) (hl : r.length ≤ 11) : Wd x where
  lo := by rw [len_list, e, List.length_cons]; omega
  hi := by rw [len_list, e, List.length_cons]; omega
  hd := ⟨s, r, e, hs⟩
  al := fun z hz => by
    rw [e] at hz
    rcases List.mem_cons.mp hz with h | h
    · rw [h]
      have : ∀ s ∈ LET.cps.toList, s ∈ OTH.cps.toList := by decide +kernel
      exact this s hs
    · exact ho z h
theorem pre_wd : ∀ j, j < 27 → ∀ s ∈ (pre j).cps.toList, s ∈ OTH.cps.toList := by decide +kernel
theorem num_wd : ∀ j : Nat, j < 27 → ∀ s ∈ ((toString (j : Int) : String) : Str).cps.toList, s ∈ OTH.cps.toList := by decide +kernel
theorem pre_hd : ∀ j, j < 27 → (pre j).cps.toList[0]? = some 119 := by decide +kernel
theorem cand_wd {j k : Nat} (hj : j < 27) (hk : k < 27) : Wd (cand j k) := by
  have e : (cand j k).cps.toList = (pre j).cps.toList ++ ((toString (k : Int) : String) : Str).cps.toList := by
    show ((pre j).cps ++ ((toString (k : Int) : String) : Str).cps).toList = _
    rw [Array.toList_append]
  have h0 := pre_hd j hj
  cases e1 : (pre j).cps.toList with
  | nil => rw [e1] at h0; cases h0
  | cons s r =>
    rw [e1] at h0 e
    have hs : s = 119 := Option.some.inj h0
    refine Wd.of (s := s) (r := r ++ ((toString (k : Int) : String) : Str).cps.toList) e (by rw [hs]; decide +kernel) (fun z hz => ?_) ?_
    · rcases List.mem_append.mp hz with h | h
      · exact pre_wd j hj z (by rw [e1]; exact List.mem_cons_of_mem _ h)
      · exact num_wd k hk z h
    · have h1 := pre_len j hj
      have h2 := str_len k hk
      rw [len_list] at h1 h2
      rw [e1, List.length_cons] at h1
      rw [List.length_append]
      omega
theorem let_oth : ∀ s ∈ LET.cps.toList, s ∈ OTH.cps.toList := by decide +kernel
theorem ixN_of {n : Nat} {k : Int} (h0 : 0 ≤ k) (h1 : k < (n : Int)) : ixN n k = some k.toNat := by
  unfold ixN
  rw [if_pos h0, if_pos h1]
theorem Ones.set {row : List Nat} (h : Ones row) {s : Nat} (hs : s ∈ OTH.cps.toList) (j : Nat) : Ones (row.set j s) := fun x hx => by
  rcases List.mem_or_eq_of_mem_set hx with h1 | h1
  · exact h x h1
  · rw [h1]; exact hs
/-- the signs of a word, one of them another letter -/
theorem set_hd {s0 : Nat} {r : List Nat} (h0 : s0 ∈ LET.cps.toList) (hr : Ones r) {s : Nat} (hs : s ∈ LET.cps.toList) (j : Nat) : ∃ s1 r1, (s0 :: r).set j s = s1 :: r1 ∧ s1 ∈ LET.cps.toList ∧ Ones r1 ∧ r1.length = r.length := by
  cases j with
  | zero => exact ⟨s, r, rfl, hs, hr, rfl⟩
  | succ j => exact ⟨s0, r.set j s, rfl, h0, hr.set (let_oth _ hs) j, List.length_set ..⟩
end PK
namespace PK
open PySem L2
/-! ### data of tuples -/
mutual
inductive Dt (K : PySem.W.Frag) (H : Hp) : V → PyData → Prop
  | non : Dt K H .non .none
  | bl (b : Bool) : Dt K H (.bl b) (.bool b)
  | int (i : Int) : Dt K H (.int i) (.int i)
  | str (x : Str) : Dt K H (.str x) (.str x)
  | tup {a : Addr} {xs : List V} {ds : List PyData} : SqT K H a xs → DtAll K H xs ds → Dt K H (.ref a) (.tuple ds)
inductive DtAll (K : PySem.W.Frag) (H : Hp) : List V → List PyData → Prop
  | nil : DtAll K H [] []
  | cons {v : V} {vs : List V} {d : PyData} {ds : List PyData} : Dt K H v d → DtAll K H vs ds → DtAll K H (v :: vs) (d :: ds)
end
section
variable {K : PySem.W.Frag} {H H' : Hp}
mutual
theorem Dt.dp : ∀ (d : PyData) (v : V), Dt K H v d → Dp K H v d
  | .none, _, h => by cases h; exact .non
  | .bool _, _, h => by cases h; exact .bl _
  | .int _, _, h => by cases h; exact .int _
  | .str _, _, h => by cases h; exact .str _
  | .list _, _, h => by cases h
  | .dict _, _, h => by cases h
  | .tuple ds, _, h => by
    cases h with
    | tup s a => exact .tup s (DtAll.dp ds _ a)
theorem DtAll.dp : ∀ (ds : List PyData) (vs : List V), DtAll K H vs ds → DpAll K H vs ds
  | [], _, h => by cases h; exact .nil
  | d :: ds, _, h => by
    cases h with
    | cons h1 h2 => exact .cons (Dt.dp d _ h1) (DtAll.dp ds _ h2)
end
mutual
theorem Dt.mono (hT : ∀ a xs, SqT K H a xs → SqT K H' a xs) : ∀ (d : PyData) (v : V), Dt K H v d → Dt K H' v d
  | .none, _, h => by cases h; exact .non
  | .bool _, _, h => by cases h; exact .bl _
  | .int _, _, h => by cases h; exact .int _
  | .str _, _, h => by cases h; exact .str _
  | .list _, _, h => by cases h
  | .dict _, _, h => by cases h
  | .tuple ds, _, h => by
    cases h with
    | tup s a => exact .tup (hT _ _ s) (DtAll.mono hT ds _ a)
theorem DtAll.mono (hT : ∀ a xs, SqT K H a xs → SqT K H' a xs) : ∀ (ds : List PyData) (vs : List V), DtAll K H vs ds → DtAll K H' vs ds
  | [], _, h => by cases h; exact .nil
  | d :: ds, _, h => by
    cases h with
    | cons h1 h2 => exact .cons (Dt.mono hT d _ h1) (DtAll.mono hT ds _ h2)
end
theorem Same.seqT {a : Addr} {xs : List V} (e : Same H H') (h : SqT K H a xs) : SqT K H' a xs := by
  rcases h with (h | ⟨o, h⟩) | h
  · exact .inl (.inl (e _ _ h))
  · exact .inl (.inr ⟨o, e _ _ h⟩)
  · exact .inr h
theorem Dt.same {d : PyData} {v : V} (h : Dt K H v d) (e : Same H H') : Dt K H' v d := Dt.mono (fun _ _ q => Same.seqT e q) d v h
theorem Dt.ext {l c : Addr} {d : PyData} {v : V} (h : Dt K H v d) (P : Pool H l c) (x : Ext l c H H') : Dt K H' v d := Dt.mono (fun _ _ q => x.seqT P q) d v h
theorem same_new {p : Addr} {o : HO} (h : H p = none) : Same H (upd H p o) := fun b u e => by
  rw [upd_ne (ne_of_none e h)]
  exact e
theorem Dt.new {d : PyData} {v : V} {p : Addr} {o : HO} (h : Dt K H v d) (hp : H p = none) : Dt K (upd H p o) v d := h.same (same_new hp)
theorem Dt.s {v : V} {x : Str} (h : Dt K H v (.str x)) : v = .str x := by cases h; rfl
theorem Dt.i {v : V} {x : Int} (h : Dt K H v (.int x)) : v = .int x := by cases h; rfl
theorem Dt.t1 {v : V} {d : PyData} (h : Dt K H v (.tuple [d])) : ∃ a x, v = .ref a ∧ SqT K H a [x] ∧ Dt K H x d := by
  cases h with
  | tup s a => cases a with
    | cons h1 r => cases r; exact ⟨_, _, rfl, s, h1⟩
theorem Dt.t2 {v : V} {d e : PyData} (h : Dt K H v (.tuple [d, e])) : ∃ a x y, v = .ref a ∧ SqT K H a [x, y] ∧ Dt K H x d ∧ Dt K H y e := by
  cases h with
  | tup s a => cases a with
    | cons h1 r => cases r with
      | cons h2 r => cases r; exact ⟨_, _, _, rfl, s, h1, h2⟩
theorem Dt.t3 {v : V} {d e f : PyData} (h : Dt K H v (.tuple [d, e, f])) : ∃ a x y z, v = .ref a ∧ SqT K H a [x, y, z] ∧ Dt K H x d ∧ Dt K H y e ∧ Dt K H z f := by
  cases h with
  | tup s a => cases a with
    | cons h1 r => cases r with
      | cons h2 r => cases r with
        | cons h3 r => cases r; exact ⟨_, _, _, _, rfl, s, h1, h2, h3⟩
theorem Dt.tn {v : V} {ds : List PyData} (h : Dt K H v (.tuple ds)) : ∃ a xs, v = .ref a ∧ SqT K H a xs ∧ DtAll K H xs ds := by
  cases h with
  | tup s a => exact ⟨_, _, rfl, s, a⟩
theorem Dt.mk2 {p : Addr} {x y : V} {d e : PyData} (hp : H p = none) (h1 : Dt K H x d) (h2 : Dt K H y e) : Dt K (upd H p (.tup [x, y])) (.ref p) (.tuple [d, e]) :=
  .tup (SqT.of upd_same) (.cons (h1.new hp) (.cons (h2.new hp) .nil))
theorem Dt.mk3 {p : Addr} {x y z : V} {d e f : PyData} (hp : H p = none) (h1 : Dt K H x d) (h2 : Dt K H y e) (h3 : Dt K H z f) : Dt K (upd H p (.tup [x, y, z])) (.ref p) (.tuple [d, e, f]) :=
  .tup (SqT.of upd_same) (.cons (h1.new hp) (.cons (h2.new hp) (.cons (h3.new hp) .nil)))
theorem Dt.mk1 {p : Addr} {x : V} {d : PyData} (hp : H p = none) (h1 : Dt K H x d) : Dt K (upd H p (.tup [x])) (.ref p) (.tuple [d]) :=
  .tup (SqT.of upd_same) (.cons (h1.new hp) .nil)
end
/-- xs[j] of a name, a tuple -/
theorem vTx {K : PySem.W.Frag} {σ : L2.St} {H : Hp} {Q : VK} {i : Nat} {p : Addr} {xs : List V} {j : Int} {v : V} (h : σ[i]? = some (some (.ref p))) (hl : SqT K H p xs) (ha : atI xs j = some v) (q : Q v H) :
    tOp (rIxT K) (tVar i) (tC (.int j)) σ H Q := ⟨_, h, p, xs, j, v, rfl, rfl, hl, ha, q⟩
section
variable {s t : Str} {A B : Prop}
theorem sT (e : s = t) (h : A) : if decide (V.str s = V.str t) = true then A else B := by rw [decide_eq_true (by rw [e])]; exact iteT h
theorem sF (e : s ≠ t) (h : B) : if decide (V.str s = V.str t) = true then A else B := by rw [decide_eq_false (fun z => e (V.str.inj z))]; exact iteF h
theorem nT (e : s ≠ t) (h : A) : if (!decide (V.str s = V.str t)) = true then A else B := by rw [decide_eq_false (fun z => e (V.str.inj z))]; exact iteT h
theorem nF (e : s = t) (h : B) : if (!decide (V.str s = V.str t)) = true then A else B := by rw [decide_eq_true (by rw [e])]; exact iteF h
end
theorem Same.upd {H H' : Hp} {p : Addr} {o : HO} (e : Same H H') (h : H p = none) : Same H (L2.upd H' p o) := fun b u q => by
  rw [upd_ne (ne_of_none q h)]
  exact e _ _ q
/-- isinstance(x, T) of a name and a built-in class -/
theorem vIsi {σ : L2.St} {H : Hp} {Q : VK} {i : Nat} {v : V} {U Tn : String} {b : Bool} (h : σ[i]? = some (some v)) (ty : TyX K H v (.type U)) (kb : kitB U Tn = some b) (q : Q (.bl b) H) :
    tCB (rIsi K) (tCons (tVar i) (tCons (tC (.ty Tn)) tNil)) σ H Q := ⟨_, h, v, .ty Tn, _, _, b, rfl, .ty Tn, ty, kit_ty kb, q⟩
theorem ty_tup {H : Hp} {a : Addr} {xs : List V} (h : SqT K H a xs) : TyX K H (.ref a) (.type "tuple") := by
  rcases h with (h | ⟨o, h⟩) | ⟨o, its, n, h, hc, _⟩
  · exact .base (.tup h)
  · exact .fTuple h
  · exact .kTuple h hc
theorem ty_lst {H : Hp} {a : Addr} {xs : List V} (h : SqL K H a xs) : TyX K H (.ref a) (.type "list") := by
  rcases h with (h | ⟨o, h⟩) | ⟨o, its, n, h, hc, _⟩
  · exact .base (.lst h)
  · exact .base (.frz h)
  · exact .kList h hc
theorem DtAll.append {K : PySem.W.Frag} {H : Hp} : ∀ {xs ys : List V} {ds es : List PyData}, DtAll K H xs ds → DtAll K H ys es → DtAll K H (xs ++ ys) (ds ++ es)
  | _, _, _, _, .nil, h => h
  | _, _, _, _, .cons a b, h => .cons a (DtAll.append b h)
/-- a list that grows is no tuple -/
theorem seqT_upd {K : PySem.W.Frag} {H : Hp} {D a : Addr} {vs ws zs : List V} (h : SqT K H a zs) (hD : H D = some (.lst vs)) : SqT K (upd H D (.lst ws)) a zs := by
  rcases h with (h | ⟨o, h⟩) | h
  · exact .inl (.inl (by rw [upd_ne (ne_of h hD (fun z => by cases z))]; exact h))
  · exact .inl (.inr ⟨o, by rw [upd_ne (ne_of h hD (fun z => by cases z))]; exact h⟩)
  · exact .inr h
theorem seqT_updK {K : PySem.W.Frag} {H : Hp} {D a : Addr} {kvs kvs' : List (Key × V)} {zs : List V} (h : SqT K H a zs) (hD : H D = some (.dK kvs)) : SqT K (upd H D (.dK kvs')) a zs := by
  rcases h with (h | ⟨o, h⟩) | h
  · exact .inl (.inl (by rw [upd_ne (ne_of h hD (fun z => by cases z))]; exact h))
  · exact .inl (.inr ⟨o, by rw [upd_ne (ne_of h hD (fun z => by cases z))]; exact h⟩)
  · exact .inr h
theorem valV_hd {k : Key} {v : V} {r : List (Key × V)} : valV ((k, v) :: r) k = some v := by simp [valV]
theorem valV_tl {k k' : Key} {v : V} {r : List (Key × V)} (h : k' ≠ k) : valV ((k', v) :: r) k = valV r k := by simp [valV, h]
theorem Pool.same {H H' : Hp} {l c : Addr} (P : Pool H l c) (e : Same H H') : Pool H' l c := by
  obtain ⟨ns, i, r, s, hl, hc, z⟩ := P
  exact ⟨ns, i, r, s, e _ _ hl, e _ _ hc, z⟩
theorem Ext.same {H H1 H2 : Hp} {l c : Addr} (x : Ext l c H H1) (e : Same H1 H2) : Ext l c H H2 := ⟨fun b o hb h => e _ _ (x.keep b o hb h), x.pool.same e⟩
/-- a new tuple at the end of a list of data -/
theorem snoc_data {K : PySem.W.Frag} {H : Hp} {D t : Addr} {o : HO} {vs : List V} {ds : List PyData} {d : PyData} (da : DtAll K H vs ds) (hD : H D = some (.lst vs)) (ht : H t = none) (dt : Dt K (upd H t o) (.ref t) d) :
    (upd H t o) D = some (.lst vs) ∧ DtAll K (upd (upd H t o) D (.lst (vs ++ [.ref t]))) (vs ++ [.ref t]) (ds ++ [d]) := by
  have h1 : (upd H t o) D = some (.lst vs) := by rw [upd_ne (ne_of_none hD ht)]; exact hD
  refine ⟨h1, DtAll.mono (fun _ _ z => seqT_upd z h1) _ _ (DtAll.append (DtAll.mono (fun _ _ z => Same.seqT (same_new ht) z) _ _ da) (.cons dt .nil))⟩
theorem DtAll.ext {K : PySem.W.Frag} {H H' : Hp} {l c : Addr} {vs : List V} {ds : List PyData} (h : DtAll K H vs ds) (P : Pool H l c) (x : Ext l c H H') : DtAll K H' vs ds := DtAll.mono (fun _ _ z => x.seqT P z) _ _ h
theorem DtAll.same {K : PySem.W.Frag} {H H' : Hp} {vs : List V} {ds : List PyData} (h : DtAll K H vs ds) (x : Same H H') : DtAll K H' vs ds := DtAll.mono (fun _ _ z => Same.seqT x z) _ _ h
end PK
namespace PK
open PySem L2
/-! _law_same -/
section
variable {K : PySem.W.Frag} {H H' : Hp}
mutual
theorem Dp.mono (hT : ∀ a xs, SqT K H a xs → SqT K H' a xs) (hL : ∀ a xs, SqL K H a xs → SqL K H' a xs) : ∀ (d : PyData) (v : V), Dp K H v d → Dp K H' v d
  | .none, _, h => by cases h; exact .non
  | .bool _, _, h => by cases h; exact .bl _
  | .int _, _, h => by cases h; exact .int _
  | .str _, _, h => by cases h; exact .str _
  | .dict _, _, h => by cases h
  | .list ds, _, h => by
    cases h with
    | lst s a => exact .lst (hL _ _ s) (DpAll.mono hT hL ds _ a)
  | .tuple ds, _, h => by
    cases h with
    | tup s a => exact .tup (hT _ _ s) (DpAll.mono hT hL ds _ a)
theorem DpAll.mono (hT : ∀ a xs, SqT K H a xs → SqT K H' a xs) (hL : ∀ a xs, SqL K H a xs → SqL K H' a xs) : ∀ (ds : List PyData) (vs : List V), DpAll K H vs ds → DpAll K H' vs ds
  | [], _, h => by cases h; exact .nil
  | d :: ds, _, h => by
    cases h with
    | cons h1 h2 => exact .cons (Dp.mono hT hL d _ h1) (DpAll.mono hT hL ds _ h2)
end
theorem Dp.same {d : PyData} {v : V} (h : Dp K H v d) (e : Same H H') : Dp K H' v d := Dp.mono (fun _ _ q => Same.seqT e q) (fun _ _ q => e.seq q) d v h
theorem DpAll.length : ∀ {xs : List V} {ds : List PyData}, DpAll K H xs ds → xs.length = ds.length
  | _, _, .nil => rfl
  | _, _, .cons _ t => by rw [List.length_cons, List.length_cons, DpAll.length t]
theorem DpAll.get : ∀ {xs : List V} {ds : List PyData} {i : Nat} {d : PyData}, DpAll K H xs ds → ds[i]? = some d → ∃ x, xs[i]? = some x ∧ Dp K H x d
  | _, _, _, _, .nil, e => by simp at e
  | _, _, 0, _, .cons h _, e => by simp at e; subst e; exact ⟨_, rfl, h⟩
  | _, _, i + 1, _, .cons _ t, e => by
    obtain ⟨d, h1, h2⟩ := DpAll.get (i := i) t (by simpa using e)
    exact ⟨d, by simpa using h1, h2⟩
end
theorem depth_get : ∀ {ds : List PyData} {i : Nat} {d : PyData}, ds[i]? = some d → d.depth ≤ PyData.depthAll ds
  | [], _, _, e => by simp at e
  | x :: r, 0, d, e => by
    simp at e; subst e
    show _ ≤ max _ _
    exact Nat.le_max_left _ _
  | x :: r, i + 1, d, e => by
    have ih := depth_get (ds := r) (i := i) (d := d) (by simpa using e)
    show _ ≤ max _ _
    exact Nat.le_trans ih (Nat.le_max_right _ _)
mutual
/-- no list in it is long -/
def slim : PyData → Bool
  | .none | .bool _ | .int _ | .str _ => true
  | .list xs | .tuple xs => decide (xs.length ≤ 1000) && slimAll xs
  | .dict _ => false
def slimAll : List PyData → Bool
  | [] => true
  | x :: xs => slim x && slimAll xs
end
theorem slim_get : ∀ {ds : List PyData} {i : Nat} {d : PyData}, slimAll ds = true → ds[i]? = some d → slim d = true
  | [], _, _, _, e => by simp at e
  | x :: r, 0, d, h, e => by
    simp at e; subst e
    unfold slimAll at h
    exact (Bool.and_eq_true_iff.mp h).1
  | x :: r, i + 1, d, h, e => by
    unfold slimAll at h
    exact slim_get (ds := r) (i := i) (Bool.and_eq_true_iff.mp h).2 (by simpa using e)
theorem slim_seq {ds : List PyData} (h : slim (.tuple ds) = true) : ds.length ≤ 1000 ∧ slimAll ds = true := by
  unfold slim at h
  exact ⟨of_decide_eq_true (Bool.and_eq_true_iff.mp h).1, (Bool.and_eq_true_iff.mp h).2⟩
theorem slim_lst {ds : List PyData} (h : slim (.list ds) = true) : ds.length ≤ 1000 ∧ slimAll ds = true := by
  unfold slim at h
  exact ⟨of_decide_eq_true (Bool.and_eq_true_iff.mp h).1, (Bool.and_eq_true_iff.mp h).2⟩
def spSame (K : PySem.W.Frag) (n : Nat) : Sp := fun vs H Q _ => ∃ (x y : V) (d : PyData), vs = [x, y] ∧ Dp K H x d ∧ Dp K H y d ∧ d.depth < n ∧ slim d = true ∧ ∀ H', Same H H' → Q (.bl true) H'
theorem bF {b : Bool} {A B : Prop} (h : B) : if (!decide (V.bl b = V.bl b)) = true then A else B := by
  rw [decide_eq_true rfl]; exact iteF h
section
variable {P : Program} {w : World} {K : PySem.W.Frag} {mg : Str → Option Value} {base : Heap}
abbrev s_law_same : Stmt := topS 14
theorem sc_law_same : FnScope ["actual", "due", "k"] ["actual", "due"] (defScope s_law_same) := ⟨rfl, rfl, rfl, by decide +kernel, rfl, by decide +kernel, by decide +kernel⟩
-- slots: 0:actual(cell) 1:due(cell) 2:k(comp)
theorem ok_same {n : Nat} {f : Addr} {fd : FuncData} (F : Fun K "_law_same" "_law_same" s_law_same f fd) (T : Txt K mg) (C_law_same : C8.Cal P w K mg base n "_law_same" (spSame K n) []) :
    FnOk P w K mg base CX0 (n + 1) f fd ["actual", "due"] (spSame K (n + 1)) := by
  refine F.ok sc_law_same (fun vs H Q E h => ?_) (fun cdv A outer s H vs Q E hr h => ?_)
  · obtain ⟨x, y, d, rfl, _⟩ := h
    rfl
  obtain ⟨x, y, d, rfl, hx, hy, hd, hsl, q⟩ := h
  refine ⟨_, (pss_cons (ps_if (pt_cmpR op_isN (pv 1) pe_non (nomark _)) (pss_one (ps_ret (pe_cmpR op_isN (pv 0) pe_non (nomark _)))) pss_nil)
    (pss_cons (ps_if (PW.pt (pw_or (pt_cmpR op_ne (pe_callB call_isi (by rfl) T.z_isinstance (by decide +kernel) (pa_cons (pv 1) (pa_cons (pe_bltn (v := .ty "tuple") (by rfl) T.z_tuple (by decide +kernel) rfl) pa_nil))) (pe_callB call_isi (by rfl) T.z_isinstance (by decide +kernel) (pa_cons (pv 0) (pa_cons (pe_bltn (v := .ty "tuple") (by rfl) T.z_tuple (by decide +kernel) rfl) pa_nil))) (nomark _)) (pw_or1 (pt_cmpR op_ne (pe_callB call_isi (by rfl) T.z_isinstance (by decide +kernel) (pa_cons (pv 1) (pa_cons (pe_bltn (v := .ty "list") (by rfl) T.z_list (by decide +kernel) rfl) pa_nil))) (pe_callB call_isi (by rfl) T.z_isinstance (by decide +kernel) (pa_cons (pv 0) (pa_cons (pe_bltn (v := .ty "list") (by rfl) T.z_list (by decide +kernel) rfl) pa_nil))) (nomark _))))) (pss_one (ps_ret pe_bl)) pss_nil)
    (pss_cons (ps_if (PW.pt (pw_or (pt_val (pe_callB call_isi (by rfl) T.z_isinstance (by decide +kernel) (pa_cons (pv 1) (pa_cons (pe_bltn (v := .ty "tuple") (by rfl) T.z_tuple (by decide +kernel) rfl) pa_nil)))) (pw_or1 (pt_val (pe_callB call_isi (by rfl) T.z_isinstance (by decide +kernel) (pa_cons (pv 1) (pa_cons (pe_bltn (v := .ty "list") (by rfl) T.z_list (by decide +kernel) rfl) pa_nil))))))) (pss_one (ps_ret (pe_and (pe_cmpR op_eq (pe_callB call_len_seq (by rfl) T.z_len (by decide +kernel) (pa_cons (pv 0) pa_nil)) (pe_callB call_len_seq (by rfl) T.z_len (by decide +kernel) (pa_cons (pv 1) pa_nil)) (nomark _)) (pe_one (pe_callB (cr_all (by rfl)) (by rfl) T.z_all (by decide +kernel) (pa_cons (pe_lc (own := [("k", 2)]) (g := (gName 2)) (tt := tYes) (by rfl) sc_law_same.nd (pi_range1 (by rfl) T.z_range (pa_cons (pe_callB call_len_seq (by rfl) T.z_len (by decide +kernel) (pa_cons (pv 1) pa_nil)) pa_nil)) (blkOk_by (N := ["actual", "due", "k"]) (sc := defScope s_law_same) (by decide +kernel)) (fun _ _ _ _ _ => (pg_name (i := 2) sc_law_same.nd rfl (Or.inl rfl))) (fun _ _ _ _ _ => pts_nil) (fun _ _ _ _ _ => (C8.pe_c C_law_same hr (by omega) rfl (pa_cons (pe_ix (r := rIx K) ix_seq (pv 0) (pv 2) (fun _ _ => rfl)) (pa_cons (pe_ix (r := rIx K) ix_seq (pv 1) (pv 2) (fun _ _ => rfl)) pa_nil))))) pa_nil)))))) pss_nil)
    (pss_cons (ps_if (PW.pt (pw_or (pt_cmpR op_ne (pe_callB call_isi (by rfl) T.z_isinstance (by decide +kernel) (pa_cons (pv 1) (pa_cons (pe_bltn (v := .ty "bool") (by rfl) T.z_bool (by decide +kernel) rfl) pa_nil))) (pe_callB call_isi (by rfl) T.z_isinstance (by decide +kernel) (pa_cons (pv 0) (pa_cons (pe_bltn (v := .ty "bool") (by rfl) T.z_bool (by decide +kernel) rfl) pa_nil))) (nomark _)) (pw_or1 (pt_cmpR op_ne (pe_callB call_isi (by rfl) T.z_isinstance (by decide +kernel) (pa_cons (pv 1) (pa_cons (pe_bltn (v := .ty "str") (by rfl) T.z_str (by decide +kernel) rfl) pa_nil))) (pe_callB call_isi (by rfl) T.z_isinstance (by decide +kernel) (pa_cons (pv 0) (pa_cons (pe_bltn (v := .ty "str") (by rfl) T.z_str (by decide +kernel) rfl) pa_nil))) (nomark _))))) (pss_one (ps_ret pe_bl)) pss_nil)
    (pss_one (ps_ret (pe_and (pe_cmpR op_eq (pe_callB call_isi (by rfl) T.z_isinstance (by decide +kernel) (pa_cons (pv 1) (pa_cons (pe_bltn (v := .ty "int") (by rfl) T.z_int (by decide +kernel) rfl) pa_nil))) (pe_callB call_isi (by rfl) T.z_isinstance (by decide +kernel) (pa_cons (pv 0) (pa_cons (pe_bltn (v := .ty "int") (by rfl) T.z_int (by decide +kernel) rfl) pa_nil))) (nomark _)) (pe_one (pe_cmpR op_eq (pv 0) (pv 1) (nomark _)))))))))), ?_⟩
  have q0 := q H (Same.refl H)
  -- what is left for a scalar
  cases d with
  | none =>
    cases hx; cases hy
    exact ⟨_, rfl, rfl, _, rfl, iteT ⟨_, rfl, rfl, q0⟩⟩
  | bool b =>
    cases hx; cases hy
    have ty : TyX K H (.bl b) (.type "bool") := .base (.bl b)
    refine ⟨_, rfl, rfl, _, rfl, iteF (vIsi rfl ty (b := false) (by decide +kernel) (vIsi rfl ty (b := false) (by decide +kernel) ⟨rfl, _, rfl, bF (vIsi rfl ty (b := false) (by decide +kernel) (vIsi rfl ty (b := false) (by decide +kernel) ⟨rfl, _, rfl, bF ?_⟩))⟩))⟩
    refine vIsi rfl ty (b := false) (by decide +kernel) ⟨_, rfl, iteF (vIsi rfl ty (b := false) (by decide +kernel) ⟨_, rfl, iteF ?_⟩)⟩
    refine vIsi rfl ty (b := true) (by decide +kernel) (vIsi rfl ty (b := true) (by decide +kernel) ⟨rfl, _, rfl, bF (vIsi rfl ty (b := false) (by decide +kernel) (vIsi rfl ty (b := false) (by decide +kernel) ⟨rfl, _, rfl, bF ?_⟩))⟩)
    refine vIsi rfl ty (b := true) (by decide +kernel) (vIsi rfl ty (b := true) (by decide +kernel) ⟨rfl, _, rfl, ?_⟩)
    refine iteT ⟨_, rfl, _, rfl, rfl, ?_⟩
    rw [decide_eq_true rfl]
    exact q0
  | int b =>
    cases hx; cases hy
    have ty : TyX K H (.int b) (.type "int") := .base (.int b)
    refine ⟨_, rfl, rfl, _, rfl, iteF (vIsi rfl ty (b := false) (by decide +kernel) (vIsi rfl ty (b := false) (by decide +kernel) ⟨rfl, _, rfl, bF (vIsi rfl ty (b := false) (by decide +kernel) (vIsi rfl ty (b := false) (by decide +kernel) ⟨rfl, _, rfl, bF ?_⟩))⟩))⟩
    refine vIsi rfl ty (b := false) (by decide +kernel) ⟨_, rfl, iteF (vIsi rfl ty (b := false) (by decide +kernel) ⟨_, rfl, iteF ?_⟩)⟩
    refine vIsi rfl ty (b := false) (by decide +kernel) (vIsi rfl ty (b := false) (by decide +kernel) ⟨rfl, _, rfl, bF (vIsi rfl ty (b := false) (by decide +kernel) (vIsi rfl ty (b := false) (by decide +kernel) ⟨rfl, _, rfl, bF ?_⟩))⟩)
    refine vIsi rfl ty (b := true) (by decide +kernel) (vIsi rfl ty (b := true) (by decide +kernel) ⟨rfl, _, rfl, ?_⟩)
    refine iteT ⟨_, rfl, _, rfl, rfl, ?_⟩
    rw [decide_eq_true rfl]
    exact q0
  | str b =>
    cases hx; cases hy
    have ty : TyX K H (.str b) (.type "str") := .base (.str b)
    refine ⟨_, rfl, rfl, _, rfl, iteF (vIsi rfl ty (b := false) (by decide +kernel) (vIsi rfl ty (b := false) (by decide +kernel) ⟨rfl, _, rfl, bF (vIsi rfl ty (b := false) (by decide +kernel) (vIsi rfl ty (b := false) (by decide +kernel) ⟨rfl, _, rfl, bF ?_⟩))⟩))⟩
    refine vIsi rfl ty (b := false) (by decide +kernel) ⟨_, rfl, iteF (vIsi rfl ty (b := false) (by decide +kernel) ⟨_, rfl, iteF ?_⟩)⟩
    refine vIsi rfl ty (b := false) (by decide +kernel) (vIsi rfl ty (b := false) (by decide +kernel) ⟨rfl, _, rfl, bF (vIsi rfl ty (b := true) (by decide +kernel) (vIsi rfl ty (b := true) (by decide +kernel) ⟨rfl, _, rfl, bF ?_⟩))⟩)
    refine vIsi rfl ty (b := false) (by decide +kernel) (vIsi rfl ty (b := false) (by decide +kernel) ⟨rfl, _, rfl, ?_⟩)
    refine iteT ⟨_, rfl, _, rfl, rfl, ?_⟩
    rw [decide_eq_true rfl]
    exact q0
  | dict kvs => cases hx
  | tuple ds =>
    cases hx with
    | tup sx ax =>
    cases hy with
    | tup sy ay =>
    rename_i px xs py ys
    have tx := ty_tup sx
    have ty := ty_tup sy
    have lx := DpAll.length ax
    have ly := DpAll.length ay
    have hd' : PyData.depthAll ds + 1 < n + 1 := hd
    obtain ⟨hz, hsa⟩ := slim_seq hsl
    refine ⟨_, rfl, rfl, _, rfl, iteF (vIsi rfl ty (b := true) (by decide +kernel) (vIsi rfl tx (b := true) (by decide +kernel) ⟨rfl, _, rfl, bF (vIsi rfl ty (b := false) (by decide +kernel) (vIsi rfl tx (b := false) (by decide +kernel) ⟨rfl, _, rfl, bF ?_⟩))⟩))⟩
    refine vIsi rfl ty (b := true) (by decide +kernel) ⟨_, rfl, iteT (iteT ?_)⟩
    refine ⟨_, rfl, px, _, rfl, .inr sx, _, rfl, py, _, rfl, .inr sy, rfl, _, rfl, ?_⟩
    rw [show xs.length = ys.length by omega, decide_eq_true rfl]
    refine iteT ⟨_, rfl, py, _, rfl, .inr sy, _, rfl, by omega, by omega, fun D hD => lc_range (lo := 0) (n := ((ys.length : Nat) : Int).toNat) (fun i H' => i ≤ ys.length ∧ Same H H' ∧ H' D = some (.lst ((List.replicate i true).map V.bl))) ?_ ?_ ?_⟩
    · exact ⟨Nat.zero_le _, same_new hD, upd_same⟩
    · rintro i H' hi ⟨_, sm, hl⟩
      have hi' : i < ys.length := by omega
      have hi2 : i < ds.length := by omega
      have gd : ds[i]? = some ds[i] := List.getElem?_eq_getElem hi2
      obtain ⟨x1, gx, dx⟩ := DpAll.get ax gd
      obtain ⟨y1, gy, dy⟩ := DpAll.get ay gd
      have dd := depth_get gd
      have e0 : (0 : Int) + (i : Int) = (i : Int) := Int.zero_add _
      refine ⟨rfl, yes_ ⟨_, rfl, _, rfl, .inr (.inl ⟨px, xs, _, x1, rfl, rfl, Same.seqT sm sx, by rw [e0]; exact atI_nat gx, ?_⟩)⟩⟩
      refine ⟨_, rfl, _, rfl, .inr (.inl ⟨py, ys, _, y1, rfl, rfl, Same.seqT sm sy, by rw [e0]; exact atI_nat gy, ?_⟩)⟩
      refine ⟨x1, y1, ds[i], rfl, Dp.same dx sm, Dp.same dy sm, by omega, slim_get hsa gd, fun H2 s2 => ⟨_, s2 _ _ hl, ?_, hi', Same.upd (sm.trans s2) hD, ?_⟩⟩
      · rw [List.length_map, List.length_replicate]; exact smallL (by omega)
      · rw [upd_same, List.replicate_succ', List.map_append]; rfl
    · rintro H' ⟨_, sm, hl⟩
      refine ⟨D, _, rfl, SqL.of hl, ?_⟩
      have e2 : (List.replicate ((ys.length : Nat) : Int).toNat true).all id = true := by simp
      rw [e2]
      exact q H' sm
  | list ds =>
    cases hx with
    | lst sx ax =>
    cases hy with
    | lst sy ay =>
    rename_i px xs py ys
    have tx := ty_lst sx
    have ty := ty_lst sy
    have lx := DpAll.length ax
    have ly := DpAll.length ay
    have hd' : PyData.depthAll ds + 1 < n + 1 := hd
    obtain ⟨hz, hsa⟩ := slim_lst hsl
    refine ⟨_, rfl, rfl, _, rfl, iteF (vIsi rfl ty (b := false) (by decide +kernel) (vIsi rfl tx (b := false) (by decide +kernel) ⟨rfl, _, rfl, bF (vIsi rfl ty (b := true) (by decide +kernel) (vIsi rfl tx (b := true) (by decide +kernel) ⟨rfl, _, rfl, bF ?_⟩))⟩))⟩
    refine vIsi rfl ty (b := false) (by decide +kernel) ⟨_, rfl, iteF (vIsi rfl ty (b := true) (by decide +kernel) ⟨_, rfl, iteT ?_⟩)⟩
    refine ⟨_, rfl, px, _, rfl, .inl sx, _, rfl, py, _, rfl, .inl sy, rfl, _, rfl, ?_⟩
    rw [show xs.length = ys.length by omega, decide_eq_true rfl]
    refine iteT ⟨_, rfl, py, _, rfl, .inl sy, _, rfl, by omega, by omega, fun D hD => lc_range (lo := 0) (n := ((ys.length : Nat) : Int).toNat) (fun i H' => i ≤ ys.length ∧ Same H H' ∧ H' D = some (.lst ((List.replicate i true).map V.bl))) ?_ ?_ ?_⟩
    · exact ⟨Nat.zero_le _, same_new hD, upd_same⟩
    · rintro i H' hi ⟨_, sm, hl⟩
      have hi' : i < ys.length := by omega
      have hi2 : i < ds.length := by omega
      have gd : ds[i]? = some ds[i] := List.getElem?_eq_getElem hi2
      obtain ⟨x1, gx, dx⟩ := DpAll.get ax gd
      obtain ⟨y1, gy, dy⟩ := DpAll.get ay gd
      have dd := depth_get gd
      have e0 : (0 : Int) + (i : Int) = (i : Int) := Int.zero_add _
      refine ⟨rfl, yes_ ⟨_, rfl, _, rfl, .inl (id ⟨px, xs, _, x1, rfl, rfl, sm.seq sx, by rw [e0]; exact atI_nat gx, ?_⟩)⟩⟩
      refine ⟨_, rfl, _, rfl, .inl (id ⟨py, ys, _, y1, rfl, rfl, sm.seq sy, by rw [e0]; exact atI_nat gy, ?_⟩)⟩
      refine ⟨x1, y1, ds[i], rfl, Dp.same dx sm, Dp.same dy sm, by omega, slim_get hsa gd, fun H2 s2 => ⟨_, s2 _ _ hl, ?_, hi', Same.upd (sm.trans s2) hD, ?_⟩⟩
      · rw [List.length_map, List.length_replicate]; exact smallL (by omega)
      · rw [upd_same, List.replicate_succ', List.map_append]; rfl
    · rintro H' ⟨_, sm, hl⟩
      refine ⟨D, _, rfl, SqL.of hl, ?_⟩
      have e2 : (List.replicate ((ys.length : Nat) : Int).toNat true).all id = true := by simp
      rw [e2]
      exact q H' sm
end
end PK
namespace PK
open PySem L2
/-! the pool -/
def enc (z : Int) : Int := if 0 ≤ z then 2 * z else -2 * z - 1
def spPool (K : PySem.W.Frag) : Sp := fun vs H Q _ => ∃ (a : Addr) (ns : List Int), vs = [.ref a] ∧ SqL K H a (ns.map V.int) ∧ ns.length ≤ 63 ∧
  ∀ (H' : Hp) (l c : Addr), Same H H' → H l = none → Pool H' l c → Q (.ref l) H'
section
variable {P : Program} {w : World} {K : PySem.W.Frag} {mg : Str → Option Value} {base : Heap}
abbrev s_law_pool : Stmt := topS 11
theorem sc_law_pool : FnScope ["script", "cell"] ["script"] (defScope s_law_pool) := ⟨rfl, rfl, rfl, by decide +kernel, rfl, by decide +kernel, by decide +kernel⟩
-- slots: 0:script 1:cell(comp)
theorem ok_pool {f : Addr} {fd : FuncData} (F : Fun K "_law_pool" "_law_pool" s_law_pool f fd) :
    FnOk P w K mg base CX0 1 f fd ["script"] (spPool K) := by
  refine F.ok sc_law_pool (fun vs H Q E h => ?_) (fun cdv A outer s H vs Q E hr h => ?_)
  · obtain ⟨a, ns, rfl, _⟩ := h
    rfl
  obtain ⟨a, ns, rfl, hS, hlen, q⟩ := h
  refine ⟨_, (pss_one (ps_ret (pe_lst (pa_cons (pe_lc (own := [("cell", 1)]) (g := (gName 1)) (tt := tYes) (by rfl) sc_law_pool.nd (pi_list (pv 0)) (blkOk_by (N := ["script", "cell"]) (sc := defScope s_law_pool) (by decide +kernel)) (fun _ _ _ _ _ => (pg_name (i := 1) sc_law_pool.nd rfl (Or.inl rfl))) (fun _ _ _ _ _ => pts_nil) (fun _ _ _ _ _ => (pe_ifExp (pt_cmpR op_ge (pv 1) pe_int (nomark _)) (pe_op op_mul pe_int (pv 1)) (pe_op op_sub (pe_op op_mul (pe_un un_neg pe_int) (pv 1)) pe_int)))) (pa_cons pe_int (pa_cons pe_int (pa_cons pe_int pa_nil))))))), ?_⟩
  refine ⟨_, rfl, a, rfl, ⟨_, hS⟩, fun D hD => lc_list (K := K) (a := a) (xs := ns.map V.int) (fun i H' => i ≤ ns.length ∧ Same H H' ∧ H' D = some (.lst (((ns.take i).map enc).map V.int))) ⟨Nat.zero_le _, same_new hD, upd_same⟩ (fun i H' _ h => h.2.1.seq hS) ?_ ?_⟩
  · rintro i x H' hi ⟨_, sm, hd⟩
    have hi2 : i < ns.length := by
      have := (List.getElem?_eq_some_iff.mp hi).1
      rw [List.length_map] at this
      exact this
    rw [List.getElem?_map, List.getElem?_eq_getElem hi2] at hi
    cases hi
    have fin : ∀ z : Int, z = enc ns[i] → upd H' D (.lst (((ns.take i).map enc).map V.int ++ [V.int z])) D = some (.lst (((ns.take (i + 1)).map enc).map V.int)) := fun z e => by
      rw [upd_same, List.take_add_one, List.getElem?_eq_getElem hi2, List.map_append, List.map_append, e]
      rfl
    have ll : (((ns.take i).map enc).map V.int).length < sizeLine := by
      rw [List.length_map, List.length_map, List.length_take]
      exact smallL (by omega)
    refine ⟨rfl, yes_ ⟨_, rfl, _, _, rfl, rfl, _, rfl, ite2 (fun e => ?_) (fun e => ?_)⟩⟩
    · have e' : ns[i] ≥ 0 := of_decide_eq_true e
      exact ⟨_, rfl, _, _, rfl, rfl, .inl ⟨by decide, by decide⟩, _, hd, ll, hi2, Same.upd sm hD, fin _ (by unfold enc; rw [if_pos e'])⟩
    · have e' : ¬ ns[i] ≥ 0 := fun z => e (decide_eq_true z)
      exact ⟨_, rfl, _, rfl, _, _, rfl, rfl, .inl ⟨by decide, by decide⟩, _, _, rfl, rfl, _, hd, ll, hi2, Same.upd sm hD, fin _ (by unfold enc; rw [if_neg (by omega)])⟩
  · rintro H' ⟨_, sm, hd⟩
    rw [List.length_map, List.take_of_length_le (Nat.le_refl _)] at hd
    refine ⟨small (by show 4 ≤ _; decide), fun p hp => ?_⟩
    refine q _ p D (Same.upd sm (sm.free hp)) (sm.free hp) ⟨ns.map enc, 0, 0, 17, upd_same, by rw [upd_ne (ne_of_none hd hp)]; exact hd, ne_of_none hd hp, fun n hn => ?_, by decide, by decide, by decide, by decide, False.elim⟩
    obtain ⟨z, _, rfl⟩ := List.mem_map.mp hn
    unfold enc
    split <;> omega
end
/-! slim data -/
theorem slim_tup {ds : List PyData} (h : ds.length ≤ 1000) (h2 : slimAll ds = true) : slim (.tuple ds) = true := by
  unfold slim
  exact Bool.and_eq_true_iff.mpr ⟨decide_eq_true h, h2⟩
theorem slim_list {ds : List PyData} (h : ds.length ≤ 1000) (h2 : slimAll ds = true) : slim (.list ds) = true := by
  unfold slim
  exact Bool.and_eq_true_iff.mpr ⟨decide_eq_true h, h2⟩
theorem slim_all : ∀ {ds : List PyData}, (∀ d ∈ ds, slim d = true) → slimAll ds = true
  | [], _ => by unfold slimAll; rfl
  | d :: r, h => by
    unfold slimAll
    exact Bool.and_eq_true_iff.mpr ⟨h d List.mem_cons_self, slim_all fun x hx => h x (List.mem_cons_of_mem _ hx)⟩
theorem slim_str (x : Str) : slim (.str x) = true := by unfold slim; rfl
theorem depth_all : ∀ {ds : List PyData} {n : Nat}, (∀ d ∈ ds, d.depth ≤ n) → PyData.depthAll ds ≤ n
  | [], _, _ => Nat.zero_le _
  | d :: r, n, h => by
    show max _ _ ≤ n
    have h1 := h d List.mem_cons_self
    have h2 := depth_all (ds := r) fun x hx => h x (List.mem_cons_of_mem _ hx)
    omega
/-! the dict of what is found -/
end PK
namespace PK
open PySem L2
theorem DtAll.lenD {K : PySem.W.Frag} {H : Hp} : ∀ {xs : List V} {ds : List PyData}, DtAll K H xs ds → xs.length = ds.length
  | _, _, .nil => rfl
  | _, _, .cons _ t => by rw [List.length_cons, List.length_cons, DtAll.lenD t]
theorem DtAll.getX {K : PySem.W.Frag} {H : Hp} : ∀ {xs : List V} {ds : List PyData} {i : Nat} {x : V}, DtAll K H xs ds → xs[i]? = some x → ∃ d, ds[i]? = some d ∧ Dt K H x d
  | _, _, _, _, .nil, e => by simp at e
  | _, _, 0, _, .cons h _, e => by simp at e; subst e; exact ⟨_, rfl, h⟩
  | _, _, i + 1, _, .cons _ t, e => by
    obtain ⟨d, h1, h2⟩ := DtAll.getX (i := i) t (by simpa using e)
    exact ⟨d, by simpa using h1, h2⟩
theorem DtAll.getD {K : PySem.W.Frag} {H : Hp} : ∀ {xs : List V} {ds : List PyData} {i : Nat} {d : PyData}, DtAll K H xs ds → ds[i]? = some d → ∃ x, xs[i]? = some x ∧ Dt K H x d
  | _, _, _, _, .nil, e => by simp at e
  | _, _, 0, _, .cons h _, e => by simp at e; subst e; exact ⟨_, rfl, h⟩
  | _, _, i + 1, _, .cons _ t, e => by
    obtain ⟨d, h1, h2⟩ := DtAll.getD (i := i) t (by simpa using e)
    exact ⟨d, by simpa using h1, h2⟩
theorem DtAll.splitR {K : PySem.W.Frag} {H : Hp} : ∀ {xs : List V} {ds es : List PyData}, DtAll K H xs (ds ++ es) → ∃ ys zs, xs = ys ++ zs ∧ DtAll K H ys ds ∧ DtAll K H zs es
  | xs, [], es, h => ⟨[], xs, rfl, .nil, h⟩
  | _, d :: ds, es, h => by
    cases h with
    | cons h t =>
      obtain ⟨ys, zs, rfl, h1, h2⟩ := DtAll.splitR (ds := ds) t
      exact ⟨_ :: ys, zs, rfl, .cons h h1, h2⟩
theorem DtAll.ints {K : PySem.W.Frag} {H : Hp} : ∀ ns : List Int, DtAll K H (ns.map V.int) (ns.map PyData.int)
  | [] => .nil
  | n :: r => .cons (.int n) (DtAll.ints r)
theorem DtAll.intsE {K : PySem.W.Frag} {H : Hp} : ∀ {xs : List V} {ns : List Int}, DtAll K H xs (ns.map PyData.int) → xs = ns.map V.int
  | _, [], h => by cases h; rfl
  | _, n :: r, h => by
    cases h with
    | cons h t => rw [h.i, DtAll.intsE t]; rfl
theorem DtAll.upd {K : PySem.W.Frag} {H : Hp} {D : Addr} {vs us xs : List V} {ds : List PyData} (h : DtAll K H xs ds) (hD : H D = some (.lst vs)) : DtAll K (L2.upd H D (.lst us)) xs ds := DtAll.mono (fun _ _ z => seqT_upd z hD) _ _ h
theorem Dt.updL {K : PySem.W.Frag} {H : Hp} {D : Addr} {vs us : List V} {x : V} {d : PyData} (h : Dt K H x d) (hD : H D = some (.lst vs)) : Dt K (L2.upd H D (.lst us)) x d := Dt.mono (fun _ _ z => seqT_upd z hD) _ _ h
section
variable {K : PySem.W.Frag} {It : It} {n : Nat} {G : Hp → Prop} {Y : Nat → Hp → V → Hp → Prop}
/-- a comprehension of data, all else kept -/
theorem lcS (wk : Walk It n G Y) {g : TG} {te : TE} {vs : List Nat} {σ : L2.St} {H1 : Hp} {D : Addr} {Qd : Hp → Prop} (hD : H1 D = none) (hn : n ≤ 10000000) (Jv : List PyData → Prop) (j0 : Jv []) (hG : ∀ H', Same H1 H' → G H')
    (hs : ∀ i x H H' ds (R : V → Hp → Prop), i < n → Same H1 H → Y i H x H' → Jv ds → ds.length = i → (∀ d y H4, Same H H4 → Dt K H4 y d → Jv (ds ++ [d]) → R y H4) → g x (wipe σ vs) H' fun σ2 H2 => wipe σ2 vs = wipe σ vs ∧ te σ2 H2 R)
    (hd : ∀ H' ws ds, Same H1 H' → H' D = some (.lst ws) → DtAll K H' ws ds → ds.length = n → Jv ds → Qd H') :
    ∃ W : Nat → Nat → Hp → Prop, (∃ m, W 0 m (upd H1 D (.lst []))) ∧ ∀ i m H, W i m H →
      (It.stop i H ∧ Qd H) ∨ (It.go i H ∧ ∃ Nx : Hp → Prop, (∀ H', Nx H' → ∃ m', m' < m ∧ W (i + 1) m' H') ∧ ∀ x H', It.yld i H x H' → g x (wipe σ vs) H' fun σ2 H2 => wipe σ2 vs = wipe σ vs ∧ tYes σ2 H2 fun b H3 =>
        if b = true then te σ2 H3 fun y H4 => ∃ acc, H4 D = some (.lst acc) ∧ acc.length < sizeLine ∧ Nx (upd H4 D (.lst (acc ++ [y]))) else Nx H3) := by
  refine lc_it wk (fun i H' => ∃ (ws : List V) (ds : List PyData), Same H1 H' ∧ H' D = some (.lst ws) ∧ DtAll K H' ws ds ∧ ds.length = i ∧ Jv ds) ⟨[], [], same_new hD, upd_same, .nil, rfl, j0⟩ (fun i H' _ h => ?_) (fun i x H H' hi h y => ?_) (fun H' h => ?_)
  · obtain ⟨_, _, s, _⟩ := h
    exact hG _ s
  · obtain ⟨ws, ds, s, hw, da, len, j⟩ := h
    refine hs i x H H' ds (fun y H4 => ∃ acc, H4 D = some (.lst acc) ∧ acc.length < sizeLine ∧ ∃ (ws : List V) (ds : List PyData), Same H1 (upd H4 D (.lst (acc ++ [y]))) ∧ (upd H4 D (.lst (acc ++ [y]))) D = some (.lst ws) ∧ DtAll K (upd H4 D (.lst (acc ++ [y]))) ws ds ∧ ds.length = i + 1 ∧ Jv ds) hi s y j len fun d y H4 s4 dy j4 => ?_
    have hw4 := s4 _ _ hw
    refine ⟨ws, hw4, smallL (by rw [da.lenD, len]; omega), ws ++ [y], ds ++ [d], Same.upd (s.trans s4) hD, upd_same, ?_, by rw [List.length_append, len]; rfl, j4⟩
    exact ((da.same s4).append (.cons dy .nil)).upd hw4
  · obtain ⟨ws, ds, s, hw, da, len, j⟩ := h
    exact hd _ ws ds s hw da len j
/-- a comprehension of data that draws from the pool -/
theorem lcX (wk : Walk It n G Y) {g : TG} {te : TE} {vs : List Nat} {σ : L2.St} {H1 : Hp} {D l c : Addr} {Qd : Hp → Prop} (P : Pool H1 l c) (hD : H1 D = none) (hn : n ≤ 10000000) (Jv : List PyData → Prop) (j0 : Jv []) (hG : ∀ H', Ext l c H1 H' → G H')
    (hs : ∀ i x H H' ds (R : V → Hp → Prop), i < n → Ext l c H1 H → Y i H x H' → Jv ds → ds.length = i → (∀ d y H4, Ext l c H H4 → Dt K H4 y d → Jv (ds ++ [d]) → R y H4) → g x (wipe σ vs) H' fun σ2 H2 => wipe σ2 vs = wipe σ vs ∧ te σ2 H2 R)
    (hd : ∀ H' ws ds, Ext l c H1 H' → H' D = some (.lst ws) → DtAll K H' ws ds → ds.length = n → Jv ds → Qd H') :
    ∃ W : Nat → Nat → Hp → Prop, (∃ m, W 0 m (upd H1 D (.lst []))) ∧ ∀ i m H, W i m H →
      (It.stop i H ∧ Qd H) ∨ (It.go i H ∧ ∃ Nx : Hp → Prop, (∀ H', Nx H' → ∃ m', m' < m ∧ W (i + 1) m' H') ∧ ∀ x H', It.yld i H x H' → g x (wipe σ vs) H' fun σ2 H2 => wipe σ2 vs = wipe σ vs ∧ tYes σ2 H2 fun b H3 =>
        if b = true then te σ2 H3 fun y H4 => ∃ acc, H4 D = some (.lst acc) ∧ acc.length < sizeLine ∧ Nx (upd H4 D (.lst (acc ++ [y]))) else Nx H3) := by
  have nD := (P.ne hD).1
  refine lc_it wk (fun i H' => ∃ (ws : List V) (ds : List PyData), Ext l c H1 H' ∧ H' D = some (.lst ws) ∧ DtAll K H' ws ds ∧ ds.length = i ∧ Jv ds) ⟨[], [], (Ext.refl P).new P hD, upd_same, .nil, rfl, j0⟩ (fun i H' _ h => ?_) (fun i x H H' hi h y => ?_) (fun H' h => ?_)
  · obtain ⟨_, _, s, _⟩ := h
    exact hG _ s
  · obtain ⟨ws, ds, s, hw, da, len, j⟩ := h
    refine hs i x H H' ds (fun y H4 => ∃ acc, H4 D = some (.lst acc) ∧ acc.length < sizeLine ∧ ∃ (ws : List V) (ds : List PyData), Ext l c H1 (upd H4 D (.lst (acc ++ [y]))) ∧ (upd H4 D (.lst (acc ++ [y]))) D = some (.lst ws) ∧ DtAll K (upd H4 D (.lst (acc ++ [y]))) ws ds ∧ ds.length = i + 1 ∧ Jv ds) hi s y j len fun d y H4 s4 dy j4 => ?_
    have hw4 := s4.keep _ _ nD hw
    refine ⟨ws, hw4, smallL (by rw [da.lenD, len]; omega), ws ++ [y], ds ++ [d], (s.trans s4).upd P hD, upd_same, ?_, by rw [List.length_append, len]; rfl, j4⟩
    exact ((da.ext s.pool s4).append (.cons dy .nil)).upd hw4
  · obtain ⟨ws, ds, s, hw, da, len, j⟩ := h
    exact hd _ ws ds s hw da len j
end
end PK
namespace PK
open PySem L2
/-! terms, with the forms of results -/
inductive Fm where | get | set | plus | minus
deriving DecidableEq
def Fm.s : Fm → Str
  | .get => "get" | .set => "set" | .plus => "plus" | .minus => "minus"
inductive Tm where
  | int (n : Int)
  | name (s : Str)
  | addr (n : Int)
  | var (s : Str)
  | node (c : Str) (ts : List Tm)
  | map (es : List (Str × Tm))
  | form (f : Fm) (ts : List Tm)
mutual
def Tm.d : Tm → PyData
  | .int n => .tuple [.str "int", .int n]
  | .name s => .tuple [.str "name", .str s]
  | .addr n => .tuple [.str "addr", .int n]
  | .var s => .tuple [.str "meta", .str s]
  | .node c ts => .tuple [.str "node", .str c, .tuple (Tm.ds ts)]
  | .map es => .tuple [.str "map", .tuple (Tm.es es)]
  | .form f ts => .tuple (.str f.s :: Tm.ds ts)
def Tm.ds : List Tm → List PyData
  | [] => []
  | t :: r => t.d :: Tm.ds r
def Tm.es : List (Str × Tm) → List PyData
  | [] => []
  | (w, t) :: r => .tuple [.str w, t.d] :: Tm.es r
end
theorem Tm.ds_map : ∀ ts : List Tm, Tm.ds ts = ts.map Tm.d
  | [] => by unfold Tm.ds; rfl
  | t :: r => by unfold Tm.ds; rw [Tm.ds_map r]; rfl
def Tm.ent (e : Str × Tm) : PyData := .tuple [.str e.1, e.2.d]
theorem Tm.es_map : ∀ es : List (Str × Tm), Tm.es es = es.map Tm.ent
  | [] => by unfold Tm.es; rfl
  | (w, t) :: r => by unfold Tm.es; rw [Tm.es_map r]; rfl
def Tm.kids : Tm → List Tm
  | .node _ ts => ts
  | .form _ ts => ts
  | .map es => es.map Prod.snd
  | _ => []
def Tm.hd : Tm → Str
  | .int _ => "int" | .name _ => "name" | .addr _ => "addr" | .var _ => "meta" | .node _ _ => "node" | .map _ => "map" | .form f _ => f.s
theorem Tm.kid_lt {t k : Tm} (h : k ∈ t.kids) : sizeOf k < sizeOf t := by
  cases t with
  | node c ts => have := List.sizeOf_lt_of_mem (as := ts) h; simp only [Tm.node.sizeOf_spec]; omega
  | form c ts => have := List.sizeOf_lt_of_mem (as := ts) h; simp only [Tm.form.sizeOf_spec]; omega
  | map es =>
    obtain ⟨e, he, rfl⟩ := List.mem_map.mp h
    have := List.sizeOf_lt_of_mem he
    have e2 : sizeOf e = 1 + sizeOf e.1 + sizeOf e.2 := by cases e; rfl
    simp only [Tm.map.sizeOf_spec]
    omega
  | int _ => cases h
  | name _ => cases h
  | addr _ => cases h
  | var _ => cases h
/-- induction over the direct parts -/
theorem Tm.ind {p : Tm → Prop} (h : ∀ t : Tm, (∀ k ∈ t.kids, p k) → p t) (t : Tm) : p t := by
  have : ∀ n (t : Tm), sizeOf t ≤ n → p t := by
    intro n
    induction n with
    | zero => intro t ht; cases t <;> simp at ht
    | succ n ih => exact fun t ht => h t fun k hk => ih k (by have := Tm.kid_lt hk; omega)
  exact this _ t (Nat.le_refl _)
def Tm.size (t : Tm) : Nat := 1 + (t.kids.attach.map fun k => k.1.size).sum
termination_by sizeOf t
decreasing_by exact Tm.kid_lt k.2
theorem Tm.size_eq (t : Tm) : t.size = 1 + (t.kids.map Tm.size).sum := by
  rw [Tm.size, List.attach_map_val (f := Tm.size)]
/-- the first data of the tuple of a term -/
theorem Tm.d_hd (t : Tm) : ∃ r, t.d = .tuple (.str t.hd :: r) := by
  cases t <;> exact ⟨_, by unfold Tm.d; rfl⟩
def longI (n : Int) : Bool := decide (10 ^ 15 ≤ (if n < 0 then -n else n))
def Tm.long : Tm → Bool
  | .int n => longI n
  | _ => false
/-- too deep, or a long integer, in a term at a depth -/
def Tm.bad (t : Tm) (d : Nat) : Bool := decide (100 < d) || t.long || t.kids.attach.any fun k => k.1.bad (d + 1)
termination_by sizeOf t
decreasing_by exact Tm.kid_lt k.2
theorem any_attach {α : Type} (l : List α) (p : α → Bool) : (l.attach.any fun k => p k.1) = l.any p := by
  exact (List.any_map (l := l.attach) (f := Subtype.val) (p := p)).symm.trans (by rw [List.attach_map_subtype_val])
theorem Tm.bad_eq (t : Tm) (d : Nat) : t.bad d = (decide (100 < d) || t.long || t.kids.any fun k => k.bad (d + 1)) := by
  rw [Tm.bad, any_attach t.kids (fun k => k.bad (d + 1))]
/-- the kids as data -/
theorem Tm.dt_parts {K : PySem.W.Frag} {H : Hp} {v : V} {t : Tm} (h : Dt K H v t.d) : ∃ (a : Addr) (r : List V), v = .ref a ∧ SqT K H a (.str t.hd :: r) := by
  obtain ⟨r, e⟩ := t.d_hd
  rw [e] at h
  obtain ⟨a, xs, rfl, s, da⟩ := Dt.tn h
  cases da with
  | cons h1 r1 => rw [h1.s] at s; exact ⟨a, _, rfl, s⟩
structure TxtT (K : PySem.W.Frag) (mg : Str → Option Value) (aF : Addr) : Prop extends Txt K mg where
  g_FO : mg "_FORMS" = some (.ref aF)
  forms : ∀ H, SqT K H aF [.str "get", .str "set", .str "plus", .str "minus"]
def spKids (K : PySem.W.Frag) : Sp := fun vs H Q _ => ∃ (v : V) (t : Tm), vs = [v] ∧ Dt K H v t.d ∧ t.kids.length ≤ 10000000 ∧
  ∀ (H' : Hp) (p : Addr) (ws : List V), Same H H' → SqT K H' p ws → DtAll K H' ws (t.kids.map Tm.d) → Q (.ref p) H'
theorem Fm.ne_node (f : Fm) : f.s ≠ "node" := by cases f <;> decide +kernel
theorem Fm.ne_map (f : Fm) : f.s ≠ "map" := by cases f <;> decide +kernel
theorem Fm.inF (f : Fm) : inV (.str f.s) [V.str "get", V.str "set", V.str "plus", V.str "minus"] = true := by cases f <;> decide +kernel
section
variable {P : Program} {w : World} {K : PySem.W.Frag} {mg : Str → Option Value} {base : Heap} {aF : Addr}
abbrev s_children : Stmt := topS 2
theorem sc_children : FnScope ["term", "_", "entry"] ["term"] (defScope s_children) := ⟨rfl, rfl, rfl, by decide +kernel, rfl, by decide +kernel, by decide +kernel⟩
-- slots: 0:term 1:_(comp) 2:entry(comp)
theorem ok_kids {f : Addr} {fd : FuncData} (F : Fun K "children" "children" s_children f fd) (T : TxtT K mg aF) : FnOk P w K mg base CX0 1 f fd ["term"] (spKids K) := by
  refine F.ok sc_children (fun vs H Q E h => ?_) (fun cdv A outer s H vs Q E hr h => ?_)
  · obtain ⟨v, t, rfl, _⟩ := h
    rfl
  obtain ⟨v, t, rfl, hv, hn, q⟩ := h
  refine ⟨_, (pss_cons (ps_if (pt_cmpR op_eq (pe_ix ix_tup (pv 0) pe_int (fun _ _ => rfl)) pe_str (nomark _)) (pss_one (ps_ret (pe_ix ix_tup (pv 0) pe_int (fun _ _ => rfl)))) pss_nil)
    (pss_cons (ps_if (pt_cmpR op_eq (pe_ix ix_tup (pv 0) pe_int (fun _ _ => rfl)) pe_str (nomark _)) (pss_one (ps_ret (pe_callTy call_tuple_of (by rfl) T.z_tuple (by decide +kernel) (pa_cons (pe_lc (own := [("_", 1), ("entry", 2)]) (g := (gTup K 2 (gCons (gName 1) (gCons (gName 2) gNil)))) (tt := tYes) (by rfl) sc_children.nd (pi_tup (pe_ix ix_tup (pv 0) pe_int (fun _ _ => rfl))) (blkOk_by (N := ["term", "_", "entry"]) (sc := defScope s_children) (by decide +kernel)) (fun _ _ _ _ _ => (pg_tup (by rfl) (pgs_cons (pg_name (i := 1) sc_children.nd rfl (Or.inl rfl)) (pgs_cons (pg_name (i := 2) sc_children.nd rfl (Or.inl rfl)) pgs_nil)))) (fun _ _ _ _ _ => pts_nil) (fun _ _ _ _ _ => (pv 2))) pa_nil)))) pss_nil)
    (pss_cons (ps_if (pt_cmpR op_in_seq (pe_ix ix_tup (pv 0) pe_int (fun _ _ => rfl)) (pe_glob (v := .ref aF) rfl T.g_FO rfl) rfl) (pss_one (ps_ret (pe_slice sl_tup (pv 0) (po_some pe_int) po_none))) pss_nil)
    (pss_one (ps_ret (pe_tup pa_nil)))))), ?_⟩
  cases t with
  | node c ts =>
    unfold Tm.d at hv
    obtain ⟨a, x, y, z, rfl, hs, h1, h2, h3⟩ := Dt.t3 hv
    obtain rfl := h1.s
    obtain ⟨b, ys, rfl, hb, hys⟩ := Dt.tn h3
    refine vTx rfl hs rfl ⟨rfl, _, rfl, sT rfl (vTx rfl hs rfl ?_)⟩
    exact q H b ys (Same.refl H) hb (by rw [Tm.ds_map] at hys; exact hys)
  | map es =>
    unfold Tm.d at hv
    obtain ⟨a, x, y, rfl, hs, h1, h2⟩ := Dt.t2 hv
    obtain rfl := h1.s
    obtain ⟨b, ys, rfl, hb, hys⟩ := Dt.tn h2
    rw [Tm.es_map] at hys
    have ly : ys.length = es.length := by rw [hys.lenD, List.length_map]
    have hn' : es.length ≤ 10000000 := by rw [show (Tm.map es).kids = es.map Prod.snd from rfl, List.length_map] at hn; exact hn
    refine vTx rfl hs rfl ⟨rfl, _, rfl, sF (by decide +kernel) (vTx rfl hs rfl ⟨rfl, _, rfl, sT rfl ?_⟩)⟩
    refine vTx rfl hs rfl ⟨b, rfl, ⟨_, hb⟩, fun D hD => lcS (K := K) (walk_tup (xs := ys)) hD (by omega) (fun ds => ds = (es.take ds.length).map fun e => e.2.d) rfl (fun H' s => Same.seqT s hb) ?_ ?_⟩
    · rintro i x H1 H2 ds R hi s ⟨rfl, gx⟩ jd len r
      obtain ⟨e, ge, dx⟩ := DtAll.getX hys gx
      rw [List.getElem?_map] at ge
      cases e0 : es[i]? with
      | none => rw [e0] at ge; cases ge
      | some en =>
        rw [e0] at ge
        cases ge
        obtain ⟨a1, x1, y1, rfl, hs1, k1, k2⟩ := Dt.t2 (dx.same s)
        refine ⟨a1, _, rfl, hs1, rfl, _, _, rfl, _, _, rfl, rfl, rfl, _, rfl, r en.2.d y1 _ (Same.refl _) k2 ?_⟩
        rw [List.length_append, len, show i + [en.2.d].length = i + 1 from rfl, List.take_add_one, e0, List.map_append]
        rw [len] at jd
        rw [← jd]; rfl
    · rintro H' ws ds s hw da len jd
      rw [len, ly, List.take_length] at jd
      refine ⟨D, _, rfl, .inl ⟨SqL.of hw, fun p hp => ?_⟩⟩
      refine q _ p ws (Same.upd s ((Same.refl H).trans s |>.free hp)) (SqT.of upd_same) ?_
      rw [jd] at da
      rw [show (Tm.map es).kids.map Tm.d = es.map fun e => e.2.d from by unfold Tm.kids; rw [List.map_map]; rfl]
      exact da.same (same_new hp)
  | form g ts =>
    unfold Tm.d at hv
    obtain ⟨a, xs, rfl, hs, da⟩ := Dt.tn hv
    cases da with
    | cons h1 dr =>
    obtain rfl := h1.s
    rename_i vs1
    refine vTx rfl hs (atI_nat (j := 0) rfl) ⟨rfl, _, rfl, sF g.ne_node (vTx rfl hs (atI_nat (j := 0) rfl) ⟨rfl, _, rfl, sF g.ne_map (vTx (v := .str g.s) rfl hs (atI_nat (j := 0) rfl) ⟨aF, _, rfl, .inr (T.forms H), rfl, rfl, _, rfl, ?_⟩)⟩)⟩
    rw [if_neg Bool.false_ne_true, g.inF]
    refine iteT ⟨_, rfl, _, rfl, a, _, rfl, hs, fun z => ?_, fun p hp => ?_⟩
    · have e := z.1
      revert e
      show (HT.sIx (vs1.length + 1) 0 (some 1) = 0) → False
      unfold HT.sIx
      intro e
      simp at e
    · have ec : cutV (V.str g.s :: vs1) (some 1) none = vs1 := by
        unfold cutV HT.sIx
        simp
      rw [ec]
      refine q _ p vs1 (same_new hp) (SqT.of upd_same) ?_
      rw [Tm.ds_map] at dr
      exact dr.same (same_new hp)
  | int n =>
    unfold Tm.d at hv
    obtain ⟨a, x, y, rfl, hs, h1, h2⟩ := Dt.t2 hv
    obtain rfl := h1.s
    refine vTx rfl hs rfl ⟨rfl, _, rfl, sF (by decide +kernel) (vTx rfl hs rfl ⟨rfl, _, rfl, sF (by decide +kernel) (vTx (v := .str "int") rfl hs rfl ⟨aF, _, rfl, .inr (T.forms H), rfl, rfl, _, rfl, ?_⟩)⟩)⟩
    rw [if_neg Bool.false_ne_true, show inV (.str "int") [V.str "get", V.str "set", V.str "plus", V.str "minus"] = false by decide +kernel]
    exact iteF ⟨Nat.zero_le _, fun p hp => q _ p [] (same_new hp) (SqT.of upd_same) .nil⟩
  | name n =>
    unfold Tm.d at hv
    obtain ⟨a, x, y, rfl, hs, h1, h2⟩ := Dt.t2 hv
    obtain rfl := h1.s
    refine vTx rfl hs rfl ⟨rfl, _, rfl, sF (by decide +kernel) (vTx rfl hs rfl ⟨rfl, _, rfl, sF (by decide +kernel) (vTx (v := .str "name") rfl hs rfl ⟨aF, _, rfl, .inr (T.forms H), rfl, rfl, _, rfl, ?_⟩)⟩)⟩
    rw [if_neg Bool.false_ne_true, show inV (.str "name") [V.str "get", V.str "set", V.str "plus", V.str "minus"] = false by decide +kernel]
    exact iteF ⟨Nat.zero_le _, fun p hp => q _ p [] (same_new hp) (SqT.of upd_same) .nil⟩
  | addr n =>
    unfold Tm.d at hv
    obtain ⟨a, x, y, rfl, hs, h1, h2⟩ := Dt.t2 hv
    obtain rfl := h1.s
    refine vTx rfl hs rfl ⟨rfl, _, rfl, sF (by decide +kernel) (vTx rfl hs rfl ⟨rfl, _, rfl, sF (by decide +kernel) (vTx (v := .str "addr") rfl hs rfl ⟨aF, _, rfl, .inr (T.forms H), rfl, rfl, _, rfl, ?_⟩)⟩)⟩
    rw [if_neg Bool.false_ne_true, show inV (.str "addr") [V.str "get", V.str "set", V.str "plus", V.str "minus"] = false by decide +kernel]
    exact iteF ⟨Nat.zero_le _, fun p hp => q _ p [] (same_new hp) (SqT.of upd_same) .nil⟩
  | var n =>
    unfold Tm.d at hv
    obtain ⟨a, x, y, rfl, hs, h1, h2⟩ := Dt.t2 hv
    obtain rfl := h1.s
    refine vTx rfl hs rfl ⟨rfl, _, rfl, sF (by decide +kernel) (vTx rfl hs rfl ⟨rfl, _, rfl, sF (by decide +kernel) (vTx (v := .str "meta") rfl hs rfl ⟨aF, _, rfl, .inr (T.forms H), rfl, rfl, _, rfl, ?_⟩)⟩)⟩
    rw [if_neg Bool.false_ne_true, show inV (.str "meta") [V.str "get", V.str "set", V.str "plus", V.str "minus"] = false by decide +kernel]
    exact iteF ⟨Nat.zero_le _, fun p hp => q _ p [] (same_new hp) (SqT.of upd_same) .nil⟩
end
end PK
namespace PK
open PySem L2
section
variable {X : Cx} {x : Str} {p : Pos}
theorem pe_glI {n : Int} (hg : Gl X x) (h : ∃ t, X.mg x = some (.int n t)) (hd : (x == ("__debug__" : Str)) = false := by decide) : PE X (.Name x p) (tC (.int n)) := by
  obtain ⟨t, h⟩ := h
  exact pe_glob hg h ⟨_, rfl⟩ hd
end
structure TxtL (K : PySem.W.Frag) (mg : Str → Option Value) (aF : Addr) : Prop extends TxtT K mg aF where
  g_MT : ∃ t, mg "MOST_TERMS" = some (.int 400 t)
  g_MN : ∃ t, mg "MOST_NESTED" = some (.int 100 t)
  g_FL : ∃ t, mg "_FIRST_LONG" = some (.int 1000000000000000 t)
  z_abs : mg "abs" = none
  z_sum : mg "sum" = none
  z_max : mg "max" = none
def stD (c : Tm) (s : List Tm) (o : List Int) : PyData := .tuple [c.d, .tuple (s.map Tm.d), .tuple (o.map PyData.int)]
def total (ts : List Tm) : Nat := (ts.map Tm.size).sum
def largeB (ts : List Tm) (o : List Int) : Bool := o.any longI || (decide (400 < total ts) || ts.any fun t => t.bad 0)
def spLong : Sp := fun vs H Q _ => ∃ n : Int, vs = [.int n] ∧ Q (.bl (longI n)) H
def spLarge (K : PySem.W.Frag) : Sp := fun vs H Q _ => ∃ (v : V) (c : Tm) (s : List Tm) (o : List Int), vs = [v] ∧ Dt K H v (stD c s o) ∧ total (c :: s) ≤ 1000000 ∧ o.length ≤ 1000000 ∧
  ∀ H', Same H H' → Q (.bl (largeB (c :: s) o)) H'
theorem Tm.size_pos (t : Tm) : 1 ≤ t.size := by rw [t.size_eq]; omega
theorem DtAll.boolsE {K : PySem.W.Frag} {H : Hp} : ∀ {xs : List V} {ns : List Bool}, DtAll K H xs (ns.map PyData.bool) → xs = ns.map V.bl
  | _, [], h => by cases h; rfl
  | _, n :: r, h => by
    cases h with
    | cons h t => cases h; rw [DtAll.boolsE t]; rfl
def tot (s : List (Tm × Nat)) : Nat := (s.map fun p => p.1.size).sum
def anyb (s : List (Tm × Nat)) : Bool := s.any fun p => p.1.bad p.2
theorem tot_app (a b : List (Tm × Nat)) : tot (a ++ b) = tot a + tot b := by unfold tot; rw [List.map_append, List.sum_append]
theorem anyb_app (a b : List (Tm × Nat)) : anyb (a ++ b) = (anyb a || anyb b) := by unfold anyb; rw [List.any_append]
theorem tot_len (s : List (Tm × Nat)) : s.length ≤ tot s := by
  induction s with
  | nil => exact Nat.le_refl _
  | cons t r ih =>
    have := t.1.size_pos
    show r.length + 1 ≤ t.1.size + tot r
    omega
theorem tot_kids (t : Tm) (d : Nat) : tot (t.kids.map fun k => (k, d + 1)) + 1 = t.size := by
  rw [t.size_eq]; unfold tot; rw [List.map_map]
  show (t.kids.map Tm.size).sum + 1 = _
  omega
theorem anyb_kids (t : Tm) (d : Nat) : t.bad d = (decide (100 < d) || t.long || anyb (t.kids.map fun k => (k, d + 1))) := by
  rw [t.bad_eq]; unfold anyb; rw [List.any_map]; rfl
theorem total_len : ∀ ts : List Tm, ts.length ≤ total ts
  | [] => Nat.le_refl _
  | t :: r => by
    have := total_len r
    have := t.size_pos
    show r.length + 1 ≤ t.size + total r
    omega
theorem Tm.of_int {t : Tm} (h : t.hd = "int") : ∃ n, t = .int n := by
  cases t with
  | int n => exact ⟨n, rfl⟩
  | form f _ => cases f with
    | get => exact absurd h (show ("get" : Str) ≠ "int" by decide +kernel)
    | set => exact absurd h (show ("set" : Str) ≠ "int" by decide +kernel)
    | plus => exact absurd h (show ("plus" : Str) ≠ "int" by decide +kernel)
    | minus => exact absurd h (show ("minus" : Str) ≠ "int" by decide +kernel)
  | name _ => exact absurd h (show ("name" : Str) ≠ "int" by decide +kernel)
  | addr _ => exact absurd h (show ("addr" : Str) ≠ "int" by decide +kernel)
  | var _ => exact absurd h (show ("meta" : Str) ≠ "int" by decide +kernel)
  | node _ _ => exact absurd h (show ("node" : Str) ≠ "int" by decide +kernel)
  | map _ => exact absurd h (show ("map" : Str) ≠ "int" by decide +kernel)
theorem and_long {K : PySem.W.Frag} {σ : L2.St} {i : Nat} {H : Hp} {R : Bool → Hp → Prop} {v : V} {t : Tm} (h : σ[i]? = some (some v)) (dt : Dt K H v t.d) (q : R t.long H) :
    tAnd (tTest (tOp rEq (tOp (rIxT K) (tVar i) (tC (.int 0))) (tC (.str "int")))) (tB (tCall spLong [] C8.E0 (tCons (tOp (rIxT K) (tVar i) (tC (.int 1))) tNil))) σ H R := by
  obtain ⟨a, r, rfl, hs⟩ := Tm.dt_parts dt
  refine vTx (v := .str t.hd) h hs (atI_nat (j := 0) rfl) ⟨rfl, _, rfl, ?_⟩
  by_cases e : t.hd = "int"
  · obtain ⟨n, rfl⟩ := Tm.of_int e
    unfold Tm.d at dt
    obtain ⟨b, x, y, eb, hs2, h1, h2⟩ := Dt.t2 dt
    cases eb
    refine sT e (vTx h hs2 (atI_nat (j := 1) rfl) ⟨n, by rw [h2.i]; rfl, _, rfl, q⟩)
  · have : t.long = false := by
      cases t with
      | int n => exact absurd rfl e
      | _ => rfl
    rw [this] at q
    exact sF e q
def pairD (p : Tm × Nat) : PyData := .tuple [p.1.d, .int (p.2 : Nat)]
section
variable {P : Program} {w : World} {K : PySem.W.Frag} {mg : Str → Option Value} {base : Heap} {aF : Addr}
abbrev s_is_long : Stmt := topS 7
theorem sc_is_long : FnScope ["number"] ["number"] (defScope s_is_long) := ⟨rfl, rfl, rfl, by decide +kernel, rfl, by decide +kernel, by decide +kernel⟩
-- slots: 0:number
abbrev s_is_large : Stmt := topS 8
theorem sc_is_large : FnScope ["state", "control", "store", "out", "many", "waiting", "part", "depth", "term", "number", "child"] ["state"] (defScope s_is_large) := ⟨rfl, rfl, rfl, by decide +kernel, rfl, by decide +kernel, by decide +kernel⟩
-- slots: 0:state 1:control 2:store 3:out 4:many 5:waiting 6:part 7:depth(cell) 8:term(comp) 9:number(comp) 10:child(comp)
theorem ok_long {f : Addr} {fd : FuncData} (F : Fun K "_is_long" "_is_long" s_is_long f fd) (T : TxtL K mg aF) : FnOk P w K mg base CX0 1 f fd ["number"] spLong := by
  refine F.ok sc_is_long (fun vs H Q E h => ?_) (fun cdv A outer s H vs Q E hr h => ?_)
  · obtain ⟨v, rfl, _⟩ := h
    rfl
  obtain ⟨n, rfl, q⟩ := h
  refine ⟨_, (pss_one (ps_ret (pe_cmpR op_ge (pe_callB call_abs (by rfl) T.z_abs (by decide +kernel) (pa_cons (pv 0) pa_nil)) (pe_glI (n := 1000000000000000) rfl T.g_FL) (nomark _)))), ?_⟩
  refine ⟨_, rfl, n, rfl, _, _, rfl, rfl, ?_⟩
  exact q
theorem ok_large {f : Addr} {fd : FuncData} (F : Fun K "is_large" "is_large" s_is_large f fd) (T : TxtL K mg aF) (C_is_long : C8.Cal P w K mg base 1 "_is_long" spLong []) (C_children : C8.Cal P w K mg base 1 "children" (spKids K) []) :
    FnOk P w K mg base CX0 2 f fd ["state"] (spLarge K) := by
  refine F.ok sc_is_large (fun vs H Q E h => ?_) (fun cdv A outer s H vs Q E hr h => ?_)
  · obtain ⟨v, _, _, _, rfl, _⟩ := h
    rfl
  obtain ⟨v, c, st, o, rfl, hv, ht, ho, q⟩ := h
  refine ⟨_, (pss_cons (ps_asg (pv 0) (pg_tup (by rfl) (pgs_cons (pg_name (i := 1) sc_is_large.nd rfl (Or.inl rfl)) (pgs_cons (pg_name (i := 2) sc_is_large.nd rfl (Or.inl rfl)) (pgs_cons (pg_name (i := 3) sc_is_large.nd rfl (Or.inl rfl)) pgs_nil)))))
    (pss_cons (ps_if (pt_val (pe_callB (cr_any (by rfl)) (by rfl) T.z_any (by decide +kernel) (pa_cons (pe_lc (own := [("number", 9)]) (g := (gName 9)) (tt := tYes) (by rfl) sc_is_large.nd (pi_tup (pv 3)) (blkOk_by (N := ["state", "control", "store", "out", "many", "waiting", "part", "depth", "term", "number", "child"]) (sc := defScope s_is_large) (by decide +kernel)) (fun _ _ _ _ _ => (pg_name (i := 9) sc_is_large.nd rfl (Or.inl rfl))) (fun _ _ _ _ _ => pts_nil) (fun _ _ _ _ _ => (C8.pe_c C_is_long hr (by decide) rfl (pa_cons (pv 9) pa_nil)))) pa_nil))) (pss_one (ps_ret pe_bl)) pss_nil)
    (pss_cons (ps_set (i := 4) sc_is_large.nd rfl (Or.inl rfl) pe_int)
    (pss_cons (ps_setLc (i := 5) (own := [("term", 8)]) (g := (gName 8)) (tt := tYes) (by rfl) sc_is_large.nd rfl rfl (sw_true rfl rfl rfl (by decide +kernel)) (pi_tup (pe_tup (pa_cons (pv 1) (StX.pa_star (pv 2) pa_nil)))) (blkOk_by (N := ["state", "control", "store", "out", "many", "waiting", "part", "depth", "term", "number", "child"]) (sc := defScope s_is_large) (by decide +kernel)) (fun _ _ _ _ _ => (pg_name (i := 8) sc_is_large.nd rfl (Or.inl rfl))) (fun _ _ _ _ _ => pts_nil) (fun _ _ _ _ _ => (pe_tup (pa_cons (pv 8) (pa_cons pe_int pa_nil)))))
    (pss_cons (ps_while PassesOwn.never (pt_truth (pv 5) (by intro _; rfl)) (pss_cons (ps_asg (pe_bm0 PySem.F.plainAttrs_list PySem.F.slot_list_pop PySem.F.type_list_pop mt_pop (pv 5)) (pg_tup (by rfl) (pgs_cons (pg_name (i := 6) sc_is_large.nd rfl (Or.inl rfl)) (pgs_cons (pg_name (i := 7) sc_is_large.nd rfl (Or.inr rfl)) pgs_nil))))
    (pss_cons (ps_aug (i := 4) sc_is_large.nd rfl (Or.inl rfl) pe_int ip_add)
    (pss_cons (ps_if (PW.pt (pw_or (pt_cmpR op_gt (pv 4) (pe_glI (n := 400) rfl T.g_MT) (nomark _)) (pw_or (pt_cmpR op_gt (pv 7) (pe_glI (n := 100) rfl T.g_MN) (nomark _)) (pw_or1 (PW.pt (pw_and (pt_cmpR op_eq (pe_ix ix_tup (pv 6) pe_int (fun _ _ => rfl)) pe_str (nomark _)) (pw_and1 (pt_val (C8.pe_c C_is_long hr (by decide) rfl (pa_cons (pe_ix ix_tup (pv 6) pe_int (fun _ _ => rfl)) pa_nil)))))))))) (pss_one (ps_ret pe_bl)) pss_nil)
    (pss_one (ps_expr (pe_bm PySem.F.plainAttrs_list PySem.F.slot_list_extend PySem.F.type_list_extend mt_extend (pv 5) (pa_cons (pe_lc (own := [("child", 10)]) (g := (gName 10)) (tt := tYes) (by rfl) sc_is_large.nd (pi_tup (C8.pe_c C_children hr (by decide) rfl (pa_cons (pv 6) pa_nil))) (blkOk_by (N := ["state", "control", "store", "out", "many", "waiting", "part", "depth", "term", "number", "child"]) (sc := defScope s_is_large) (by decide +kernel)) (fun _ _ _ _ _ => (pg_name (i := 10) sc_is_large.nd rfl (Or.inl rfl))) (fun _ _ _ _ _ => pts_nil) (fun _ _ _ _ _ => (pe_tup (pa_cons (pv 10) (pa_cons (pe_op op_add (pv 7) pe_int) pa_nil))))) pa_nil))))))))
    (pss_one (ps_ret pe_bl))))))), ?_⟩
  unfold stD at hv
  obtain ⟨a, x, y, z, rfl, hs, h1, h2, h3⟩ := Dt.t3 hv
  obtain ⟨b, ys, rfl, hb, hys⟩ := Dt.tn h2
  obtain ⟨e, zs, rfl, he, hzs⟩ := Dt.tn h3
  obtain rfl := hzs.intsE
  refine ⟨_, rfl, a, _, rfl, hs, rfl, _, _, rfl, _, _, rfl, _, _, rfl, rfl, ?_⟩
  refine ⟨_, rfl, e, rfl, ⟨_, he⟩, fun D hD => lcS (K := K) (walk_tup (xs := o.map V.int)) hD (by rw [List.length_map]; omega) (fun ds => ds = (o.take ds.length).map fun n => PyData.bool (longI n)) rfl (fun H' s => Same.seqT s he) ?_ ?_⟩
  · rintro i x1 H1 H2 ds R hi s1 ⟨rfl, gx⟩ jd len r
    rw [List.getElem?_map] at gx
    cases e0 : o[i]? with
    | none => rw [e0] at gx; cases gx
    | some n =>
      rw [e0] at gx
      cases gx
      refine ⟨rfl, _, rfl, n, rfl, r (.bool (longI n)) _ _ (Same.refl _) (.bl _) ?_⟩
      rw [List.length_append, len, show i + [PyData.bool (longI n)].length = i + 1 from rfl, List.take_add_one, e0, List.map_append]
      rw [len] at jd
      rw [← jd]; rfl
  rintro H1 ws ds s1 hw da len jd
  rw [len, List.length_map, List.take_length] at jd
  have ew : ws = (o.map longI).map V.bl := DtAll.boolsE (K := K) (H := H1) (by rw [List.map_map]; rw [jd] at da; exact da)
  rw [ew] at hw
  refine ⟨D, o.map longI, rfl, SqL.of hw, _, rfl, ?_⟩
  have ea : (o.map longI).any id = o.any longI := by rw [List.any_map]; rfl
  rw [ea]
  clear da jd len ew ds ea
  cases ol : o.any longI with
  | true =>
    have := q H1 s1
    unfold largeB at this
    rw [ol, Bool.true_or] at this
    exact iteT this
  | false =>
  have q2 : ∀ H', Same H H' → Q (.bl (decide (400 < total (c :: st)) || (c :: st).any fun t => t.bad 0)) H' := fun H' s => by
    have := q H' s
    unfold largeB at this
    rwa [ol, Bool.false_or] at this
  clear q
  have lt := total_len (c :: st)
  have ls : ys.length = st.length := by rw [hys.lenD, List.length_map]
  have lt' : st.length + 1 ≤ total (c :: st) := lt
  refine iteF ⟨_, rfl, _, rfl, b, ys, rfl, .inl (Same.seqT s1 hb), small (by rw [List.length_cons, List.length_append, ls]; show st.length + 0 + 1 ≤ _; omega), fun tq htq => ⟨tq, rfl, ⟨_, SqT.of upd_same⟩, fun D2 hD2 => lcS (K := K) (walk_tup (xs := x :: (ys ++ []))) hD2 (by rw [List.length_cons, List.length_append, ls]; show st.length + 0 + 1 ≤ _; omega) (fun ds => ds = ((c :: st).take ds.length).map fun t => pairD (t, 0)) rfl (fun H' s => Same.seqT s (SqT.of upd_same)) ?_ ?_⟩⟩
  · rintro i x1 H2 H3 ds R hi s2 ⟨rfl, gx⟩ jd len r
    have dall : DtAll K H (x :: (ys ++ [])) ((c :: st).map Tm.d) := by rw [List.append_nil]; exact .cons h1 hys
    obtain ⟨d, gd, dx⟩ := DtAll.getX dall gx
    rw [List.getElem?_map] at gd
    cases e0 : (c :: st)[i]? with
    | none => rw [e0] at gd; cases gd
    | some t =>
      rw [e0] at gd
      cases gd
      refine ⟨rfl, _, rfl, small (by show 2 ≤ _; decide), fun p hp => r (pairD (t, 0)) _ _ (same_new hp) ?_ ?_⟩
      · exact Dt.mk2 hp (((dx.same s1).same (same_new htq)).same s2) (.int _)
      · rw [List.length_append, len, show i + [pairD (t, 0)].length = i + 1 from rfl, List.take_add_one, e0, List.map_append]
        rw [len] at jd
        rw [← jd]; rfl
  rintro H4 ws4 ds4 s4 hw4 da4 len4 jd4
  have sH4 : Same H H4 := s1.trans ((same_new htq).trans s4)
  rw [len4, List.length_cons, List.length_append, ls, show st.length + ([] : List V).length + 1 = (c :: st).length from rfl, List.take_length] at jd4
  have ej : ds4 = ((c :: st).map fun t => (t, 0)).map pairD := by rw [jd4, List.map_map]; rfl
  rw [ej] at da4
  clear jd4 ej len4
  refine ⟨fun m σ H' => ∃ (stk : List (Tm × Nat)) (vs : List V) (many : Nat) (p6 p7 : Option V), σ = [some (.ref a), some x, some (.ref b), some (.ref e), some (.int (many : Nat)), some (.ref D2), p6, p7, none, none, none] ∧ Same H H' ∧ H' D2 = some (.lst vs) ∧ DtAll K H' vs (stk.map pairD) ∧
    many + tot stk = total (c :: st) ∧ many ≤ 400 ∧ m = tot stk ∧ anyb stk = (c :: st).any (fun t => t.bad 0), ⟨_, (c :: st).map fun t => (t, 0), ws4, 0, none, none, rfl, sH4, hw4, da4, ?_, Nat.zero_le _, rfl, ?_⟩, ?_⟩
  · unfold tot total; rw [List.map_map, Nat.zero_add]; rfl
  · unfold anyb; rw [List.any_map]; rfl
  have hD2n : H D2 = none := s1.free ((same_new htq).free hD2)
  rintro m σ H5 ⟨stk, vs, many, p6, p7, rfl, s5, hw5, da5, et, hm, rfl, eb⟩
  refine ⟨_, rfl, !vs.isEmpty, .inl ⟨vs, SqL.of hw5, rfl⟩, ?_⟩
  rcases List.eq_nil_or_concat stk with rfl | ⟨ini, ⟨t, d⟩, rfl⟩
  · cases da5
    refine iteF ?_
    have h5 := q2 H5 s5
    rw [← eb, decide_eq_false (show ¬ 400 < total (c :: st) by rw [← et]; show ¬ 400 < many + 0; omega)] at h5
    exact h5
  rw [List.concat_eq_append] at da5 et eb ⊢
  rw [List.map_append] at da5
  obtain ⟨us, zs', rfl, du, dz⟩ := DtAll.splitR da5
  obtain ⟨y1, rfl, dy⟩ : ∃ y1, zs' = [y1] ∧ Dt K H5 y1 (pairD (t, d)) := by
    cases dz with
    | cons h t => cases t; exact ⟨_, rfl, h⟩
  have ttt : tot (ini ++ [(t, d)]) = tot ini + t.size := by rw [tot_app]; rfl
  have tk := tot_kids t d
  rw [ttt] at et
  rw [anyb_app, show anyb [(t, d)] = t.bad d from by unfold anyb; simp, anyb_kids] at eb
  rw [show (!(us ++ [y1]).isEmpty) = true by cases us <;> rfl]
  have tl : t.kids.length ≤ t.size := by
    have := tot_len (t.kids.map fun k => (k, d + 1))
    rw [List.length_map] at this
    omega
  refine iteT ⟨fun σ H' => ∃ (stk : List (Tm × Nat)) (vs : List V) (many : Nat) (p6 p7 : Option V), σ = [some (.ref a), some x, some (.ref b), some (.ref e), some (.int (many : Nat)), some (.ref D2), p6, p7, none, none, none] ∧ Same H H' ∧ H' D2 = some (.lst vs) ∧ DtAll K H' vs (stk.map pairD) ∧
    many + tot stk = total (c :: st) ∧ many ≤ 400 ∧ tot stk < tot (ini ++ [(t, d)]) ∧ anyb stk = (c :: st).any (fun t => t.bad 0), fun σ' H' ⟨stk, vs, many, p6, p7, e1, e2, e3, e4, e5, e6, e7, e8⟩ => ⟨tot stk, e7, stk, vs, many, p6, p7, e1, e2, e3, e4, e5, e6, rfl, e8⟩, ?_⟩
  refine ⟨_, rfl, .inl ⟨rfl, _, SqL.of hw5⟩, D2, _, y1, rfl, rfl, hw5, by simp, ?_⟩
  rw [List.dropLast_concat]
  have s6 : Same H (upd H5 D2 (.lst us)) := Same.upd s5 hD2n
  have du6 := du.upd (us := us) hw5
  have dy6 := dy.updL (us := us) hw5
  have hw6 : (upd H5 D2 (.lst us)) D2 = some (.lst us) := upd_same
  generalize upd H5 D2 (.lst us) = H6 at s6 du6 dy6 hw6 ⊢
  unfold pairD at dy6
  obtain ⟨a1, yt, yd, rfl, hs6, k1, k2⟩ := Dt.t2 dy6
  obtain rfl := k2.i
  refine ⟨a1, _, rfl, hs6, rfl, _, _, rfl, _, _, rfl, rfl, ?_⟩
  refine ⟨_, rfl, _, _, rfl, rfl, ?_⟩
  refine ⟨_, rfl, _, _, rfl, rfl, _, rfl, ?_⟩
  by_cases h4 : 400 < many + 1
  · rw [decide_eq_true (show (400 : Int) < (many : Int) + 1 by omega)]
    have h5 := q2 H6 s6
    rw [decide_eq_true (show 400 < total (c :: st) by have := t.size_pos; omega), Bool.true_or] at h5
    exact iteT (iteT h5)
  rw [decide_eq_false (show ¬ (400 : Int) < (many : Int) + 1 by omega)]
  refine iteF ⟨_, rfl, _, _, rfl, rfl, _, rfl, ?_⟩
  by_cases h5 : 100 < d
  · rw [decide_eq_true (show (100 : Int) < (d : Int) by omega)]
    have h9 := q2 H6 s6
    rw [← eb, decide_eq_true h5, Bool.true_or, Bool.true_or, Bool.or_true, Bool.or_true] at h9
    exact iteT (iteT h9)
  rw [decide_eq_false (show ¬ (100 : Int) < (d : Int) by omega)]
  refine iteF (and_long rfl k1 ?_)
  rw [decide_eq_false h5, Bool.false_or] at eb
  cases hl : t.long with
  | true =>
    have h5 := q2 H6 s6
    rw [← eb, hl, Bool.true_or, Bool.or_true, Bool.or_true] at h5
    exact iteT h5
  | false =>
  rw [hl, Bool.false_or] at eb
  refine iteF ⟨_, rfl, .inl ⟨rfl, _, SqL.of hw6⟩, ⟨_, rfl, yt, t, rfl, k1, by omega, fun H7 p7' ws7 s7 hp7 da7 => ⟨p7', rfl, ⟨_, hp7⟩, fun D3 hD3 => lcS (K := K) (walk_tup (xs := ws7)) hD3 (by rw [da7.lenD, List.length_map]; omega) (fun ds => ds = (t.kids.take ds.length).map fun k => pairD (k, d + 1)) rfl (fun H' s => Same.seqT s hp7) ?_ ?_⟩⟩⟩
  · rintro i x1 H2 H3 ds R hi s2 ⟨rfl, gx⟩ jd len r
    obtain ⟨dd, gd, dx⟩ := DtAll.getX da7 gx
    rw [List.getElem?_map] at gd
    cases e0 : t.kids[i]? with
    | none => rw [e0] at gd; cases gd
    | some k =>
      rw [e0] at gd
      cases gd
      refine ⟨rfl, _, rfl, _, rfl, _, _, rfl, rfl, small (by show 2 ≤ _; decide), fun p hp => r (pairD (k, d + 1)) _ _ (same_new hp) ?_ ?_⟩
      · exact Dt.mk2 hp (dx.same s2) (.int _)
      · rw [List.length_append, len, show i + [pairD (k, d + 1)].length = i + 1 from rfl, List.take_add_one, e0, List.map_append]
        rw [len] at jd
        rw [← jd]; rfl
  rintro H8 ws8 ds8 s8 hw8 da8 len8 jd8
  have l7 : ws7.length = t.kids.length := by rw [da7.lenD, List.length_map]
  rw [len8, l7, List.take_length] at jd8
  have s78 := s7.trans s8
  have hw68 := s78 _ _ hw6
  have ej : ds8 = (t.kids.map fun k => (k, d + 1)).map pairD := by rw [jd8, List.map_map]; rfl
  rw [ej] at da8
  have lu : us.length = ini.length := by rw [du.lenD, List.length_map]
  have lw8 : ws8.length = t.kids.length := by rw [da8.lenD, List.length_map, List.length_map]
  have li := tot_len ini
  refine ⟨D2, D3, _, _, rfl, rfl, hw68, hw8, small (by omega), ini ++ t.kids.map (fun k => (k, d + 1)), us ++ ws8, many + 1, _, _, rfl, Same.upd (s6.trans s78) hD2n, upd_same, ?_, ?_, by omega, ?_, ?_⟩
  · rw [List.map_append]
    exact ((du6.same s78).append da8).upd hw68
  · rw [tot_app]; omega
  · rw [tot_app, ttt]; omega
  · rw [anyb_app]; exact eb
end
end PK
namespace PK
open PySem L2
def spNum : Sp := fun vs H Q _ => ∃ (l c : Addr), vs = [.ref l] ∧ Pool H l c ∧ ∀ (i : Int) (H' : Hp), Ext l c H H' → -(10 ^ 15) < i → i < 10 ^ 15 → Q (.int i) H'
def spGreat : Sp := fun vs H Q _ => ∃ (l c : Addr), vs = [.ref l] ∧ Pool H l c ∧ ∀ (i : Int) (H' : Hp), Ext l c H H' → Q (.int i) H'
abbrev nm (k : Nat) : Str := ("n" : Str) ++ (toString (1000 + (k : Int)) : Str)
def wideE (ns : List Int) (k : Nat) : Str × Tm := (nm k, .int (ns.getD k (k : Nat)))
def wideT (many : Nat) (ns : List Int) : Tm := .map ((List.range many).map (wideE ns))
def spWide (K : PySem.W.Frag) : Sp := fun vs H Q _ => ∃ (many : Nat) (np : Addr) (ns : List Int), vs = [.int (many : Nat), .ref np] ∧ many ≤ 404 ∧ ns.length ≤ 404 ∧ H np = some (.lst (ns.map V.int)) ∧
  ∀ (H' : Hp) (v : V), Same H H' → Dt K H' v (wideT many ns).d → Q v H'
def nat (n : Nat) : V := .int (n : Nat)
def spSizes (K : PySem.W.Frag) : Sp := fun vs H Q _ => ∃ (l c : Addr) (count : Nat), vs = [.ref l, .int (count : Nat)] ∧ Pool H l c ∧ count ≤ 3 ∧
  ∀ (H' : Hp) (p : Addr) (ns : List Nat), Ext l c H H' → H p = none → H' p = some (.lst (ns.map nat)) → ns.length = count + 1 → (∀ n ∈ ns, n ≤ 404) → Q (.ref p) H'
def spFirst (K : PySem.W.Frag) : Sp := fun vs H Q _ => ∃ (v : V) (d : PyData), vs = [v] ∧ Dt K H v d ∧ ∀ (H' : Hp) (p : V), Same H H' → Dt K H' p (.tuple [d, .tuple [], .tuple []]) → Q p H'
theorem nm_len : ∀ k : Nat, k < 404 → ((toString (1000 + (k : Int)) : String) : Str).length ≤ 4 := by decide +kernel
section
variable {P : Program} {w : World} {K : PySem.W.Frag} {mg : Str → Option Value} {base : Heap} {aF : Addr}
abbrev s_law_number : Stmt := topS 13
theorem sc_law_number : FnScope ["pool"] ["pool"] (defScope s_law_number) := ⟨rfl, rfl, rfl, by decide +kernel, rfl, by decide +kernel, by decide +kernel⟩
-- slots: 0:pool
theorem ok_number {f : Addr} {fd : FuncData} (F : Fun K "_law_number" "_law_number" s_law_number f fd) (C_law_take : C8.Cal P w K mg base 2 "_law_take" (spTake 2) []) :
    FnOk P w K mg base CX0 3 f fd ["pool"] spNum := by
  refine F.ok sc_law_number (fun vs H Q E h => ?_) (fun cdv A outer s H vs Q E hr h => ?_)
  · obtain ⟨l, c, rfl, _⟩ := h
    rfl
  obtain ⟨l, c, rfl, P0, q⟩ := h
  refine ⟨_, (pss_cons (ps_if (pt_cmpR op_eq (C8.pe_c C_law_take hr (by decide) rfl (pa_cons (pv 0) (pa_cons pe_int pa_nil))) pe_int (nomark _)) (pss_one (ps_ret (pe_op op_mul (pe_op op_add (pe_op op_mul (C8.pe_c C_law_take hr (by decide) rfl (pa_cons (pv 0) (pa_cons (pe_op op_pow pe_int pe_int) pa_nil))) (pe_op op_pow pe_int pe_int)) (C8.pe_c C_law_take hr (by decide) rfl (pa_cons (pv 0) (pa_cons (pe_op op_pow pe_int pe_int) pa_nil)))) (pe_ix ix_tup (pe_tup (pa_cons pe_int (pa_cons (pe_un un_neg pe_int) pa_nil))) (C8.pe_c C_law_take hr (by decide) rfl (pa_cons (pv 0) (pa_cons pe_int pa_nil))) (fun _ _ => rfl))))) pss_nil)
    (pss_one (ps_ret (pe_op op_sub (C8.pe_c C_law_take hr (by decide) rfl (pa_cons (pv 0) (pa_cons pe_int pa_nil))) pe_int)))), ?_⟩
  have p9 : CPow 10 9 := ⟨by decide, by decide, by decide⟩
  have p6 : CPow 10 6 := ⟨by decide, by decide, by decide⟩
  refine vTake rfl P0 (by decide) (by decide) fun d H1 d0 d1 x1 => ⟨rfl, _, rfl, ?_⟩
  refine ite2 (fun _ => ?_) (fun _ => ?_)
  · refine ⟨_, rfl, _, _, rfl, rfl, p9, l, c, 10 ^ 9, False, rfl, x1.pool, by decide, by decide, .inl (Nat.le_refl 2), fun a H2 a0 a1 x2 => ?_⟩
    refine ⟨_, _, rfl, rfl, p6, _, _, rfl, rfl, .inr ⟨by decide, by decide⟩, ?_⟩
    refine ⟨_, rfl, _, _, rfl, rfl, p6, l, c, 10 ^ 6, False, rfl, x2.pool, by decide, by decide, .inl (Nat.le_refl 2), fun b H3 b0 b1 x3 => ?_⟩
    refine ⟨_, _, rfl, rfl, _, rfl, small (by show 2 ≤ _; decide), fun p hp => ?_⟩
    have x4 := (x1.trans (x2.trans x3)).new (o := .tup [.int 1, .int (-1)]) P0 hp
    refine vTake rfl x4.pool (by decide) (by decide) fun e H4 e0 e1 x5 => ?_
    have hs : SqT K H4 p [.int 1, .int (-1)] := x5.seqT x4.pool (SqT.of upd_same)
    rcases (by omega : e = 0 ∨ e = 1) with rfl | rfl
    · exact ⟨p, _, _, _, rfl, rfl, hs, rfl, _, _, rfl, rfl, .inr ⟨by decide, by decide⟩, q _ _ (x4.trans x5) (by rw [show (10 : Int) ^ Int.toNat 6 = 1000000 by decide]; omega) (by rw [show (10 : Int) ^ Int.toNat 6 = 1000000 by decide]; omega)⟩
    · exact ⟨p, _, _, _, rfl, rfl, hs, rfl, _, _, rfl, rfl, .inr ⟨by decide, by decide⟩, q _ _ (x4.trans x5) (by rw [show (10 : Int) ^ Int.toNat 6 = 1000000 by decide]; omega) (by rw [show (10 : Int) ^ Int.toNat 6 = 1000000 by decide]; omega)⟩
  · refine vTake rfl x1.pool (by decide) (by decide) fun e H2 e0 e1 x2 => ⟨_, _, rfl, rfl, q _ _ (x1.trans x2) (by omega) (by omega)⟩

abbrev s_law_great : Stmt := topS 15
theorem sc_law_great : FnScope ["pool", "sign", "kind"] ["pool"] (defScope s_law_great) := ⟨rfl, rfl, rfl, by decide +kernel, rfl, by decide +kernel, by decide +kernel⟩
-- slots: 0:pool 1:sign 2:kind
abbrev s_law_wide : Stmt := topS 16
theorem sc_law_wide : FnScope ["many", "numbers", "entries", "k"] ["many", "numbers"] (defScope s_law_wide) := ⟨rfl, rfl, rfl, by decide +kernel, rfl, by decide +kernel, by decide +kernel⟩
-- slots: 0:many 1:numbers 2:entries 3:k
abbrev s_law_sizes : Stmt := topS 17
theorem sc_law_sizes : FnScope ["pool", "count", "sizes", "total", "k"] ["pool", "count"] (defScope s_law_sizes) := ⟨rfl, rfl, rfl, by decide +kernel, rfl, by decide +kernel, by decide +kernel⟩
-- slots: 0:pool(cell) 1:count(cell) 2:sizes 3:total 4:k(comp)
abbrev s_first_state : Stmt := topS 9
theorem sc_first_state : FnScope ["program"] ["program"] (defScope s_first_state) := ⟨rfl, rfl, rfl, by decide +kernel, rfl, by decide +kernel, by decide +kernel⟩
-- slots: 0:program
theorem ok_great {f : Addr} {fd : FuncData} (F : Fun K "_law_great" "_law_great" s_law_great f fd) (C_law_take : C8.Cal P w K mg base 2 "_law_take" (spTake 2) []) :
    FnOk P w K mg base CX0 3 f fd ["pool"] spGreat := by
  refine F.ok sc_law_great (fun vs H Q E h => ?_) (fun cdv A outer s H vs Q E hr h => ?_)
  · obtain ⟨l, c, rfl, _⟩ := h
    rfl
  obtain ⟨l, c, rfl, P0, q⟩ := h
  refine ⟨_, (pss_cons (ps_set (i := 1) sc_law_great.nd rfl (Or.inl rfl) (pe_ix ix_tup (pe_tup (pa_cons pe_int (pa_cons (pe_un un_neg pe_int) pa_nil))) (C8.pe_c C_law_take hr (by decide) rfl (pa_cons (pv 0) (pa_cons pe_int pa_nil))) (fun _ _ => rfl)))
    (pss_cons (ps_set (i := 2) sc_law_great.nd rfl (Or.inl rfl) (C8.pe_c C_law_take hr (by decide) rfl (pa_cons (pv 0) (pa_cons pe_int pa_nil))))
    (pss_cons (ps_if (pt_cmpR op_lt (pv 2) pe_int (nomark _)) (pss_one (ps_ret (pe_op op_mul (pv 1) (pe_op op_sub (pe_op op_pow pe_int pe_int) (pv 2))))) pss_nil)
    (pss_one (ps_ret (pe_op op_mul (pe_op op_mul (pv 1) (C8.pe_c C_law_take hr (by decide) rfl (pa_cons (pv 0) (pa_cons (pe_op op_pow pe_int pe_int) pa_nil)))) (pe_ix ix_tup (pe_tup (pa_cons pe_int (pa_cons (pe_op op_pow pe_int pe_int) (pa_cons (pe_op op_pow pe_int pe_int) (pa_cons (pe_op op_pow pe_int pe_int) (pa_cons (pe_op op_pow pe_int pe_int) (pa_cons (pe_op op_pow pe_int pe_int) pa_nil))))))) (C8.pe_c C_law_take hr (by decide) rfl (pa_cons (pv 0) (pa_cons pe_int pa_nil))) (fun _ _ => rfl)))))))), ?_⟩
  have pw : ∀ n : Int, 0 ≤ n → n ≤ 1000000 → CPow 10 n := fun n h h2 => ⟨h, h2, by decide⟩
  refine ⟨_, rfl, small (by show 2 ≤ _; decide), fun p hp => ?_⟩
  have x0 := (Ext.refl P0).new (o := .tup [.int 1, .int (-1)]) P0 hp
  refine vTake rfl x0.pool (by decide) (by decide) fun e H1 e0 e1 x1 => ?_
  have hs : SqT K H1 p [.int 1, .int (-1)] := x1.seqT x0.pool (SqT.of upd_same)
  have x1' := x0.trans x1
  obtain ⟨sg, hsg, hsg2⟩ : ∃ sg : Int, atI [V.int 1, V.int (-1)] e = some (.int sg) ∧ (sg = 1 ∨ sg = -1) := by
    rcases (by omega : e = 0 ∨ e = 1) with rfl | rfl
    · exact ⟨1, rfl, .inl rfl⟩
    · exact ⟨-1, rfl, .inr rfl⟩
  refine ⟨p, _, _, _, rfl, rfl, hs, hsg, ?_⟩
  refine vTake rfl x1'.pool (by decide) (by decide) fun kd H2 k0 k1 x2 => ?_
  have x2' := x1'.trans x2
  refine ⟨_, rfl, _, _, rfl, rfl, _, rfl, ite2 (fun _ => ?_) (fun _ => ?_)⟩
  · refine ⟨_, rfl, _, _, rfl, rfl, pw _ (by decide) (by decide), _, rfl, _, _, rfl, rfl, _, _, rfl, rfl, .inr ?_, q _ _ x2'⟩
    rw [show (10 : Int) ^ Int.toNat 15 = 1000000000000000 by decide]; omega
  · refine ⟨_, rfl, _, rfl, _, _, rfl, rfl, pw _ (by decide) (by decide), l, c, 10 ^ 9, False, rfl, x2'.pool, by decide, by decide, .inl (Nat.le_refl 2), fun a H3 a0 a1 x3 => ⟨_, _, rfl, rfl, .inl ?_, ?_⟩⟩
    · rcases hsg2 with rfl | rfl <;> exact ⟨by decide, by decide⟩
    refine ⟨_, _, rfl, rfl, pw _ (by decide) (by decide), _, _, rfl, rfl, pw _ (by decide) (by decide), _, _, rfl, rfl, pw _ (by decide) (by decide), _, _, rfl, rfl, pw _ (by decide) (by decide), _, _, rfl, rfl, pw _ (by decide) (by decide), small (by show 6 ≤ _; decide), fun p2 hp2 => ?_⟩
    have x3' := x2'.trans x3
    have x4 := x3'.new (o := .tup [.int 1, .int (10 ^ Int.toNat 5), .int (10 ^ Int.toNat 6), .int (10 ^ Int.toNat 7), .int (10 ^ Int.toNat 14), .int (10 ^ Int.toNat 21)]) P0 hp2
    refine vTake rfl x4.pool (by decide) (by decide) fun g H4 g0 g1 x5 => ?_
    have hs4 := x5.seqT x4.pool (SqT.of (K := K) (upd_same (H := H3) (a := p2) (o := .tup [.int 1, .int (10 ^ Int.toNat 5), .int (10 ^ Int.toNat 6), .int (10 ^ Int.toNat 7), .int (10 ^ Int.toNat 14), .int (10 ^ Int.toNat 21)])))
    obtain ⟨z, hz⟩ : ∃ z : Int, atI [V.int 1, .int (10 ^ Int.toNat 5), .int (10 ^ Int.toNat 6), .int (10 ^ Int.toNat 7), .int (10 ^ Int.toNat 14), .int (10 ^ Int.toNat 21)] g = some (.int z) := by
      rcases (by omega : g = 0 ∨ g = 1 ∨ g = 2 ∨ g = 3 ∨ g = 4 ∨ g = 5) with rfl | rfl | rfl | rfl | rfl | rfl <;> exact ⟨_, rfl⟩
    have b1 : a < 1000000000 := by rw [show (1000000000 : Int) = 10 ^ 9 by decide]; exact a1
    refine ⟨p2, _, _, _, rfl, rfl, hs4, hz, _, _, rfl, rfl, .inl ?_, q _ _ (x4.trans x5)⟩
    rcases hsg2 with rfl | rfl <;> omega
theorem wide_at {ns : List Int} {many k : Nat} (h : k < many) : ((List.range many).map (wideE ns))[k]? = some (wideE ns k) := by
  rw [List.getElem?_map, List.getElem?_range h]; rfl
theorem ok_wide {f : Addr} {fd : FuncData} (F : Fun K "_law_wide" "_law_wide" s_law_wide f fd) (T : TxtL K mg aF) :
    FnOk P w K mg base CX0 1 f fd ["many", "numbers"] (spWide K) := by
  refine F.ok sc_law_wide (fun vs H Q E h => ?_) (fun cdv A outer s H vs Q E hr h => ?_)
  · obtain ⟨_, _, _, rfl, _⟩ := h
    rfl
  obtain ⟨many, np, ns, rfl, hm, hn, hl, q⟩ := h
  refine ⟨_, (pss_cons (ps_set (i := 2) sc_law_wide.nd rfl (Or.inl rfl) (pe_lst pa_nil))
    (pss_cons (ps_for PassesOwn.never rfl (pi_range1 (by rfl) T.z_range (pa_cons (pv 0) pa_nil)) (pg_name (i := 3) sc_law_wide.nd rfl (Or.inl rfl)) (pss_one (ps_expr (pe_bm PySem.F.plainAttrs_list PySem.F.slot_list_append PySem.F.type_list_append mt_append (pv 2) (pa_cons (pe_tup (pa_cons (pe_op op_add_str pe_str (pe_callTy call_str_int (by rfl) T.z_str (by decide +kernel) (pa_cons (pe_op op_add pe_int (pv 3)) pa_nil))) (pa_cons (pe_tup (pa_cons pe_str (pa_cons (pe_ifExp (pt_cmpR op_lt (pv 3) (pe_callB call_len_seq (by rfl) T.z_len (by decide +kernel) (pa_cons (pv 1) pa_nil)) (nomark _)) (pe_ix ix_list (pv 1) (pv 3) (fun _ _ => rfl)) (pv 3)) pa_nil))) pa_nil))) pa_nil)))))
    (pss_one (ps_ret (pe_tup (pa_cons pe_str (pa_cons (pe_callTy call_tuple_of (by rfl) T.z_tuple (by decide +kernel) (pa_cons (pv 2) pa_nil)) pa_nil))))))), ?_⟩
  refine ⟨Nat.zero_le _, fun D hD => ?_⟩
  refine ⟨_, rfl, (many : Int), rfl, by omega, by omega, for_range (lo := 0) (n := (many : Int).toNat) (fun i σ H' => ∃ (vs : List V) (k' : Option V), σ = [some (.int (many : Nat)), some (.ref np), some (.ref D), k'] ∧ Same H H' ∧ H' D = some (.lst vs) ∧ DtAll K H' vs (((List.range i).map (wideE ns)).map Tm.ent)) ?_ ?_ ?_⟩
  · exact ⟨[], none, rfl, same_new hD, upd_same, .nil⟩
  · rintro i σ H' hi ⟨vs, k', rfl, s1, hw, da⟩
    have hi' : i < many := hi
    have n4 := nm_len i (by omega)
    have hl' := s1 _ _ hl
    have lgi : (1000 + (0 + (i : Int))).natAbs.log2 < 1920 := Nat.lt_of_lt_of_le (PySem.Flt.log2_lt_of (k := 12) (by decide) (by show (1000 + (0 + (i : Int))).natAbs < 4096; omega)) (by decide)
    rw [Int.zero_add (i : Int)] at lgi ⊢
    have lv : vs.length = i := by rw [da.lenD, List.length_map, List.length_map, List.length_range]
    have key : ∀ (t1 t2 : Addr) (z : Int), z = ns.getD i (i : Nat) → H' t1 = none → (upd H' t1 (.tup [.str "int", .int z])) t2 = none →
        (upd (upd H' t1 (.tup [.str "int", .int z])) t2 (.tup [.str (nm i), .ref t1])) D = some (.lst vs) ∧ Same H (upd (upd (upd H' t1 (.tup [.str "int", .int z])) t2 (.tup [.str (nm i), .ref t1])) D (.lst (vs ++ [.ref t2]))) ∧
        DtAll K (upd (upd (upd H' t1 (.tup [.str "int", .int z])) t2 (.tup [.str (nm i), .ref t1])) D (.lst (vs ++ [.ref t2]))) (vs ++ [.ref t2]) (((List.range (i + 1)).map (wideE ns)).map Tm.ent) := fun t1 t2 z ez h1 h2 => by
      have s2 : Same H' (upd (upd H' t1 (.tup [.str "int", .int z])) t2 (.tup [.str (nm i), .ref t1])) := (same_new h1).trans (same_new h2)
      have hw2 := s2 _ _ hw
      refine ⟨hw2, Same.upd (s1.trans s2) hD, ?_⟩
      rw [List.range_succ, List.map_append, List.map_append]
      refine ((da.same s2).append (.cons ?_ .nil)).upd hw2
      refine Dt.mk2 h2 (.str _) ?_
      show Dt K _ _ (Tm.int (ns.getD i (i : Nat))).d
      rw [← ez]
      unfold Tm.d
      exact Dt.mk2 h1 (.str _) (.int z)
    refine ⟨_, rfl, .inl ⟨rfl, _, SqL.of hw⟩, _, rfl, _, _, rfl, rfl, _, rfl, lgi, _, _, rfl, rfl, small (by show 1 + _ ≤ _; omega), _, rfl, _, rfl, np, _, rfl, .inl (SqL.of hl'), _, _, rfl, rfl, _, rfl, ?_⟩
    rw [List.length_map]
    by_cases e : i < ns.length
    · rw [decide_eq_true (show (i : Int) < (ns.length : Int) by omega)]
      refine iteT ⟨_, rfl, _, rfl, np, _, _, .int ns[i], rfl, rfl, SqL.of hl', atI_nat (by rw [List.getElem?_map, List.getElem?_eq_getElem e]; rfl), small (by show 2 ≤ _; decide), fun t1 h1 => ⟨small (by show 2 ≤ _; decide), fun t2 h2 => ?_⟩⟩
      obtain ⟨k1, k2, k3⟩ := key t1 t2 ns[i] (by rw [List.getD_eq_getElem?_getD, List.getElem?_eq_getElem e]; rfl) h1 h2
      exact ⟨D, _, _, rfl, rfl, k1, smallL (by omega), _, _, rfl, k2, upd_same, k3⟩
    · rw [decide_eq_false (show ¬ (i : Int) < (ns.length : Int) by omega)]
      refine iteF ⟨_, rfl, small (by show 2 ≤ _; decide), fun t1 h1 => ⟨small (by show 2 ≤ _; decide), fun t2 h2 => ?_⟩⟩
      obtain ⟨k1, k2, k3⟩ := key t1 t2 i (by rw [List.getD_eq_getElem?_getD, List.getElem?_eq_none (by omega)]; rfl) h1 h2
      exact ⟨D, _, _, rfl, rfl, k1, smallL (by omega), _, _, rfl, k2, upd_same, k3⟩
  · rintro σ H' ⟨vs, k', rfl, s1, hw, da⟩
    refine ⟨_, rfl, D, _, rfl, .inl ⟨SqL.of hw, fun t1 h1 => ⟨small (by show 2 ≤ _; decide), fun t2 h2 => ?_⟩⟩⟩
    refine q _ _ ((s1.trans (same_new h1)).trans (same_new h2)) ?_
    unfold wideT Tm.d
    refine Dt.mk2 h2 (.str _) (.tup (SqT.of upd_same) ?_)
    rw [Tm.es_map]
    exact da.same (same_new h1)
theorem ok_first {f : Addr} {fd : FuncData} (F : Fun K "first_state" "first_state" s_first_state f fd) : FnOk P w K mg base CX0 1 f fd ["program"] (spFirst K) := by
  refine F.ok sc_first_state (fun vs H Q E h => ?_) (fun cdv A outer s H vs Q E hr h => ?_)
  · obtain ⟨_, _, rfl, _⟩ := h
    rfl
  obtain ⟨v, d, rfl, hv, q⟩ := h
  refine ⟨_, (pss_one (ps_ret (pe_tup (pa_cons (pv 0) (pa_cons (pe_tup pa_nil) (pa_cons (pe_tup pa_nil) pa_nil)))))), ?_⟩
  refine ⟨_, rfl, Nat.zero_le _, fun t1 h1 => ⟨Nat.zero_le _, fun t2 h2 => ⟨small (by show 3 ≤ _; decide), fun t3 h3 => ?_⟩⟩⟩
  have s12 := (same_new (o := .tup []) h1).trans (same_new (o := .tup []) h2)
  refine q _ _ (s12.trans (same_new h3)) (Dt.mk3 h3 (hv.same s12) ?_ ?_)
  · exact (Dt.tup (SqT.of upd_same) .nil).new h2
  · exact .tup (SqT.of upd_same) .nil
theorem sum_nat : ∀ ns : List Nat, (ns.map fun n => ((n : Nat) : Int)).sum = ((ns.sum : Nat) : Int)
  | [] => rfl
  | n :: r => by rw [List.map_cons, List.sum_cons, sum_nat r, List.sum_cons]; omega
theorem ok_sizes {f : Addr} {fd : FuncData} (F : Fun K "_law_sizes" "_law_sizes" s_law_sizes f fd) (T : TxtL K mg aF) (C_law_take : C8.Cal P w K mg base 2 "_law_take" (spTake 2) []) :
    FnOk P w K mg base CX0 3 f fd ["pool", "count"] (spSizes K) := by
  refine F.ok sc_law_sizes (fun vs H Q E h => ?_) (fun cdv A outer s H vs Q E hr h => ?_)
  · obtain ⟨_, _, _, rfl, _⟩ := h
    rfl
  obtain ⟨l, c, count, rfl, P0, hc, q⟩ := h
  refine ⟨_, (pss_cons (ps_setLc (i := 2) (own := [("k", 4)]) (g := (gName 4)) (tt := tYes) (by rfl) sc_law_sizes.nd rfl rfl (sw_true rfl rfl rfl (by decide +kernel)) (pi_range1 (by rfl) T.z_range (pa_cons (pe_op op_add (pv 1) pe_int) pa_nil)) (blkOk_by (N := ["pool", "count", "sizes", "total", "k"]) (sc := defScope s_law_sizes) (by decide +kernel)) (fun _ _ _ _ _ => (pg_name (i := 4) sc_law_sizes.nd rfl (Or.inl rfl))) (fun _ _ _ _ _ => pts_nil) (fun _ _ _ _ _ => (C8.pe_c C_law_take hr (by decide) rfl (pa_cons (pv 0) (pa_cons (pe_op op_fdivW pe_int (pe_op op_add (pv 1) pe_int)) pa_nil)))))
    (C8.pss_cut (ps_if (pt_cmpR op_gt (C8.pe_c C_law_take hr (by decide) rfl (pa_cons (pv 0) (pa_cons pe_int pa_nil))) pe_int (nomark _)) (pss_cons (ps_set (i := 3) sc_law_sizes.nd rfl (Or.inl rfl) (pe_op op_add pe_int (C8.pe_c C_law_take hr (by decide) rfl (pa_cons (pv 0) (pa_cons pe_int pa_nil)))))
    (pss_one (ps_asg (pe_callB (call_max2 (by rfl)) (by rfl) T.z_max (by decide +kernel) (pa_cons pe_int (pa_cons (pe_op op_sub (pe_op op_sub (pe_op op_sub (pv 3) (pv 1)) pe_int) (pe_callB (cr_sum (by rfl)) (by rfl) T.z_sum (by decide +kernel) (pa_cons (pe_slice sl_list (pv 2) po_none (po_some (pv 1))) pa_nil))) pa_nil))) (pg_sub (pv 2) (pv 1) set_list)))) pss_nil)
    (pss_one (ps_ret (pv 2))))), ?_⟩
  have cd : ∀ i : Int, CDivW i ((count : Int) + 1) := fun i => by
    refine ⟨by omega, ?_⟩
    exact (wide_div (i := 0) (b := 64) (by omega) (by rw [show (2 : Nat) ^ 64 = 18446744073709551616 from rfl]; omega) (by decide) (by decide)).2
  have hq : (404 : Int) / ((count : Int) + 1) ≤ 404 ∧ 0 < (404 : Int) / ((count : Int) + 1) := by
    rcases (by omega : count = 0 ∨ count = 1 ∨ count = 2 ∨ count = 3) with rfl | rfl | rfl | rfl <;> decide
  refine ⟨_, rfl, _, _, rfl, rfl, (count : Int) + 1, rfl, by omega, by omega, fun D hD => lcX (K := K) (walk_range (lo := 0) (n := ((count : Int) + 1).toNat)) P0 hD (by omega) (fun ds => ∃ ns : List Nat, ds = (ns.map fun n => ((n : Nat) : Int)).map PyData.int ∧ ∀ n ∈ ns, n ≤ 404) ⟨[], rfl, fun _ h => nomatch h⟩ (fun _ _ => trivial) ?_ ?_⟩
  · rintro i x1 H1 H2 ds R hi x2 ⟨rfl, rfl⟩ ⟨ns, rfl, hn⟩ len r
    refine ⟨rfl, _, rfl, _, rfl, _, _, rfl, rfl, _, _, rfl, rfl, cd _, l, c, _, False, rfl, x2.pool, hq.2, by omega, .inl (Nat.le_refl 2), fun d H4 d0 d1 x4 => ?_⟩
    obtain ⟨d, rfl⟩ : ∃ n : Nat, d = n := ⟨d.toNat, by omega⟩
    refine r (.int (d : Nat)) _ _ x4 (.int _) ⟨ns ++ [d], by rw [List.map_append, List.map_append]; rfl, fun n hn' => ?_⟩
    rcases List.mem_append.mp hn' with h | h
    · exact hn n h
    · rw [List.mem_singleton.mp h]; omega
  rintro H1 ws ds x1 hw da len ⟨ns, rfl, hn⟩
  obtain rfl := da.intsE
  rw [List.length_map, List.length_map] at len
  have ln : ns.length = count + 1 := by omega
  rw [List.map_map] at hw
  have hw : H1 D = some (.lst (ns.map nat)) := hw
  have nD := (P0.ne hD).1
  refine ⟨fun σ H' => ∃ (ms : List Nat) (t : Option V), σ = [some (.ref l), some (.int (count : Nat)), some (.ref D), t, none] ∧ Ext l c H H' ∧ H' D = some (.lst (ms.map nat)) ∧ ms.length = count + 1 ∧ ∀ n ∈ ms, n ≤ 404, ?_, ?_⟩
  · refine vTake rfl x1.pool (by decide) (by decide) fun d H2 d0 d1 x2 => ⟨_, _, rfl, rfl, _, rfl, ite2 (fun _ => ?_) (fun _ => ?_)⟩
    · have x2' := x1.trans x2
      refine vTake rfl x2'.pool (by decide) (by decide) fun g H3 g0 g1 x3 => ⟨_, _, rfl, rfl, ?_⟩
      have x3' := x2'.trans x3
      have hw3 := (x2.trans x3).keep _ _ nD hw
      have ec : cutV (ns.map nat) none (some (count : Int)) = ((ns.take count).map fun n => ((n : Nat) : Int)).map V.int := by
        unfold cutV
        rw [HT.sIx_nat, List.length_map, ln, Nat.min_eq_left (by omega), HT.sIx_none, List.drop_zero, Nat.sub_zero, List.map_map, ← List.map_take]
        rfl
      refine ⟨_, rfl, _, rfl, _, _, rfl, rfl, _, _, rfl, rfl, _, rfl, _, rfl, _, rfl, D, _, rfl, SqL.of hw3, fun p hp => ⟨p, ((ns.take count).map fun n => ((n : Nat) : Int)), rfl, by rw [← ec]; exact SqL.of upd_same, ?_⟩⟩
      rw [sum_nat, ec]
      obtain ⟨zn, ez, hz⟩ : ∃ zn : Nat, (if (398 + g - (count : Int) - 1 - (((ns.take count).sum : Nat) : Int)) > 0 then (398 + g - (count : Int) - 1 - (((ns.take count).sum : Nat) : Int)) else 0) = zn ∧ zn ≤ 404 := by
        split
        · exact ⟨(398 + g - (count : Int) - 1 - (((ns.take count).sum : Nat) : Int)).toNat, by omega, by omega⟩
        · exact ⟨0, rfl, by omega⟩
      have x4 := x3'.new (o := .lst (((ns.take count).map fun n => ((n : Nat) : Int)).map V.int)) P0 hp
      have hw4 : (upd H3 p (.lst (((ns.take count).map fun n => ((n : Nat) : Int)).map V.int))) D = some (.lst (ns.map nat)) := by rw [upd_ne (ne_of_none hw3 hp)]; exact hw3
      refine ⟨_, _, rfl, rfl, _, _, rfl, _, rfl, _, rfl, D, _, _, count, rfl, rfl, hw4, ixN_of (by omega) (by rw [List.length_map, ln]; omega), ns.set count zn, _, rfl, x4.upd P0 hD, ?_, by rw [List.length_set]; exact ln, fun n hn' => ?_⟩
      · rw [upd_same, List.map_set]
        show some (HO.lst ((ns.map nat).set count (.int _))) = _
        rw [ez]; rfl
      · rcases List.mem_or_eq_of_mem_set hn' with h | h
        · exact hn n h
        · rw [h]; exact hz
    · exact ⟨ns, none, rfl, x1.trans x2, x2.keep _ _ nD hw, ln, hn⟩
  · rintro σ H' ⟨ms, t, rfl, x2, hw2, lm, hm⟩
    exact ⟨_, rfl, q _ D ms x2 hD hw2 lm hm⟩
end
end PK
namespace PK
open PySem L2
theorem range_long {n : Nat} (h : n ≤ 1000) : ((List.range n).map fun k => ((k : Nat) : Int)).any longI = false := by
  rw [List.any_eq_false]
  intro x hx
  obtain ⟨k, hk, rfl⟩ := List.mem_map.mp hx
  have := List.mem_range.mp hk
  unfold longI
  rw [decide_eq_true_eq]
  split <;> omega
theorem wide_kids (m : Nat) (ns : List Int) : (wideT m ns).kids = (List.range m).map fun k => Tm.int (ns.getD k (k : Nat)) := by
  show List.map Prod.snd (List.map (wideE ns) (List.range m)) = _
  rw [List.map_map]; rfl
theorem int_size (n : Int) : (Tm.int n).size = 1 := by rw [Tm.size_eq]; rfl
theorem wide_size (m : Nat) (ns : List Int) : (wideT m ns).size = m + 1 := by
  rw [Tm.size_eq, wide_kids, List.map_map]
  have : (List.map (Tm.size ∘ fun k => Tm.int (ns.getD k (k : Nat))) (List.range m)) = List.replicate m 1 := by
    rw [List.eq_replicate_iff]
    refine ⟨by rw [List.length_map, List.length_range], fun b hb => ?_⟩
    obtain ⟨k, _, rfl⟩ := List.mem_map.mp hb
    exact int_size _
  rw [this, List.sum_replicate_nat]
  omega
theorem int_bad (n : Int) : (Tm.int n).bad 1 = longI n := by
  rw [Tm.bad_eq]
  show (decide (100 < 1) || longI n || [].any _) = _
  simp
theorem wide_bad {m : Nat} {ns : List Int} (h : ns.length ≤ m) (hm : m ≤ 404) : (wideT m ns).bad 0 = ns.any longI := by
  rw [Tm.bad_eq, wide_kids, List.any_map]
  have e0 : (decide (100 < 0) || (wideT m ns).long) = false := rfl
  rw [e0, Bool.false_or]
  apply Bool.eq_iff_iff.mpr
  rw [List.any_eq_true, List.any_eq_true]
  constructor
  · rintro ⟨k, hk, hb⟩
    have hb : (Tm.int (ns.getD k (k : Nat))).bad 1 = true := hb
    rw [int_bad] at hb
    by_cases hk2 : k < ns.length
    · rw [List.getD_eq_getElem?_getD, List.getElem?_eq_getElem hk2] at hb
      exact ⟨_, List.getElem_mem hk2, hb⟩
    · rw [List.getD_eq_getElem?_getD, List.getElem?_eq_none (by omega)] at hb
      have := List.mem_range.mp hk
      have hb : longI (k : Int) = true := hb
      unfold longI at hb
      have hb := of_decide_eq_true hb
      rw [if_neg (by omega)] at hb
      omega
  · rintro ⟨x, hx, hl⟩
    obtain ⟨k, hk, rfl⟩ := List.getElem_of_mem hx
    refine ⟨k, List.mem_range.mpr (by omega), ?_⟩
    show (Tm.int (ns.getD k (k : Nat))).bad 1 = true
    rw [int_bad, List.getD_eq_getElem?_getD, List.getElem?_eq_getElem hk]
    exact hl
theorem zip_total : ∀ (szs : List Nat) (pl : List (List Int)), pl.length = szs.length → total (List.zipWith wideT szs pl) = szs.sum + szs.length
  | [], _, _ => by unfold total; simp
  | s :: r, [], h => by cases h
  | s :: r, p :: q, h => by
    have ih := zip_total r q (Nat.succ.inj h)
    show (wideT s p).size + total (List.zipWith wideT r q) = _
    rw [ih, wide_size, List.sum_cons, List.length_cons]
    omega
theorem zip_bad : ∀ (szs : List Nat) (pl : List (List Int)), pl.length = szs.length → (∀ (i m : Nat) (ns : List Int), szs[i]? = some m → pl[i]? = some ns → ns.length ≤ m) → (∀ m ∈ szs, m ≤ 404) → ((List.zipWith wideT szs pl).any fun t => t.bad 0) = pl.any fun ns => ns.any longI
  | [], [], _, _, _ => rfl
  | [], _ :: _, h, _, _ => by cases h
  | s :: r, [], h, _, _ => by cases h
  | s :: r, p :: q, h, b, m => by
    have ih := zip_bad r q (Nat.succ.inj h) (fun i m ns h1 h2 => b (i + 1) m ns (by simpa using h1) (by simpa using h2)) fun x hx => m x (List.mem_cons_of_mem _ hx)
    show ((wideT s p).bad 0 || (List.zipWith wideT r q).any fun t => t.bad 0) = (p.any longI || q.any fun ns => ns.any longI)
    rw [ih, wide_bad (b 0 s p rfl rfl) (m s List.mem_cons_self)]
theorem set_any : ∀ (n j : Nat) (row : List Int), j < n → ((List.replicate n ([] : List Int)).set j row).any (fun ns => ns.any longI) = row.any longI
  | 0, j, row, h => absurd h (Nat.not_lt_zero _)
  | n + 1, 0, row, _ => by
    rw [List.replicate_succ, List.set_cons_zero]
    show (row.any longI || (List.replicate n ([] : List Int)).any fun ns => ns.any longI) = _
    have : ((List.replicate n ([] : List Int)).any fun ns => ns.any longI) = false := by
      rw [List.any_eq_false]; intro x hx; rw [List.eq_of_mem_replicate hx]; exact Bool.false_ne_true
    rw [this, Bool.or_false]
  | n + 1, j + 1, row, h => by
    rw [List.replicate_succ, List.set_cons_succ]
    show ([].any longI || _) = _
    exact set_any n j row (Nat.lt_of_succ_lt_succ h)
theorem rep_any (n : Nat) : (List.replicate n ([] : List Int)).any (fun ns => ns.any longI) = false := by
  rw [List.any_eq_false]; intro x hx; rw [List.eq_of_mem_replicate hx]; exact Bool.false_ne_true
def PlR (H : Hp) (l : Addr) (as : List Addr) (pl : List (List Int)) : Prop := as.length = pl.length ∧ ∀ (i : Nat) (a : Addr) (ns : List Int), as[i]? = some a → pl[i]? = some ns → H a = some (.lst (ns.map V.int)) ∧ a ≠ l
theorem PlR.ext {H H' : Hp} {l c : Addr} {as : List Addr} {pl : List (List Int)} (h : PlR H l as pl) (x : Ext l c H H') : PlR H' l as pl := ⟨h.1, fun i a ns h1 h2 => ⟨x.keep _ _ (h.2 i a ns h1 h2).2 (h.2 i a ns h1 h2).1, (h.2 i a ns h1 h2).2⟩⟩
theorem PlR.setR {H H' : Hp} {l r : Addr} {j : Nat} {row : List Int} {as : List Addr} {pl : List (List Int)} (h : PlR H l as pl) (hk : ∀ a ∈ as, ∀ o, H a = some o → H' a = some o) (hr : H' r = some (.lst (row.map V.int))) (nr : r ≠ l) : PlR H' l (as.set j r) (pl.set j row) := by
  refine ⟨by rw [List.length_set, List.length_set]; exact h.1, fun i a ns h1 h2 => ?_⟩
  by_cases e : j = i
  · subst e
    rw [List.getElem?_set_self' (l := as)] at h1
    rw [List.getElem?_set_self' (l := pl)] at h2
    cases e1 : as[j]? with
    | none => rw [e1] at h1; cases h1
    | some a0 =>
      cases e2 : pl[j]? with
      | none => rw [e2] at h2; cases h2
      | some n0 =>
        rw [e1] at h1; rw [e2] at h2
        cases h1; cases h2
        exact ⟨hr, nr⟩
  · rw [List.getElem?_set_ne e] at h1 h2
    obtain ⟨k1, k2⟩ := h.2 i a ns h1 h2
    exact ⟨hk a (List.mem_of_getElem? h1) _ k1, k2⟩
theorem PlR.keep {H H' : Hp} {l : Addr} {as : List Addr} {pl : List (List Int)} (h : PlR H l as pl) (hk : ∀ a ∈ as, ∀ o, H a = some o → H' a = some o) : PlR H' l as pl :=
  ⟨h.1, fun i a ns h1 h2 => ⟨hk a (List.mem_of_getElem? h1) _ (h.2 i a ns h1 h2).1, (h.2 i a ns h1 h2).2⟩⟩
def spLaw (K : PySem.W.Frag) : Sp := fun vs H Q _ => ∃ (a : Addr) (ns : List Int), vs = [.ref a] ∧ SqL K H a (ns.map V.int) ∧ ns.length ≤ 63 ∧ ∀ H', Q (.bl true) H'
section
variable {P : Program} {w : World} {K : PySem.W.Frag} {mg : Str → Option Value} {base : Heap} {aF : Addr}
abbrev s_law : Stmt := topS 18
theorem sc_law : FnScope ["script", "pool", "count", "sizes", "places", "out", "is_long", "number", "chosen", "row", "terms", "state", "due", "k"] ["script"] (defScope s_law) := ⟨rfl, rfl, rfl, by decide +kernel, rfl, by decide +kernel, by decide +kernel⟩
-- slots: 0:script 1:pool(cell) 2:count 3:sizes(cell) 4:places(cell) 5:out 6:is_long 7:number 8:chosen 9:row 10:terms 11:state 12:due 13:k(comp)
set_option maxHeartbeats 4000000 in
theorem ok_law {f : Addr} {fd : FuncData} (F : Fun K "law" "law" s_law f fd) (T : TxtL K mg aF) (C_law_pool : C8.Cal P w K mg base 1 "_law_pool" (spPool K) []) (C_law_take : C8.Cal P w K mg base 2 "_law_take" (spTake 2) [])
    (C_law_number : C8.Cal P w K mg base 3 "_law_number" spNum []) (C_law_great : C8.Cal P w K mg base 3 "_law_great" spGreat []) (C_law_wide : C8.Cal P w K mg base 1 "_law_wide" (spWide K) []) (C_law_sizes : C8.Cal P w K mg base 3 "_law_sizes" (spSizes K) [])
    (C_is_large : C8.Cal P w K mg base 2 "is_large" (spLarge K) []) (C_first_state : C8.Cal P w K mg base 1 "first_state" (spFirst K) []) (C_law_same : C8.Cal P w K mg base 10 "_law_same" (spSame K 10) []) :
    FnOk P w K mg base CX0 11 f fd ["script"] (spLaw K) := by
  refine F.ok sc_law (fun vs H Q E h => ?_) (fun cdv A outer s H vs Q E hr h => ?_)
  · obtain ⟨_, _, rfl, _⟩ := h
    rfl
  obtain ⟨sa, ns, rfl, hS, hlen, q⟩ := h
  refine ⟨_, (pss_cons (ps_set (i := 1) sc_law.nd rfl (Or.inr rfl) (C8.pe_c C_law_pool hr (by decide) rfl (pa_cons (pv 0) pa_nil)))
    (pss_cons (ps_set (i := 2) sc_law.nd rfl (Or.inl rfl) (C8.pe_c C_law_take hr (by decide) rfl (pa_cons (pv 1) (pa_cons pe_int pa_nil))))
    (pss_cons (ps_set (i := 3) sc_law.nd rfl (Or.inr rfl) (C8.pe_c C_law_sizes hr (by decide) rfl (pa_cons (pv 1) (pa_cons (pv 2) pa_nil))))
    (pss_cons (ps_set (i := 4) sc_law.nd rfl (Or.inr rfl) (pe_lc (own := [("k", 13)]) (g := (gName 13)) (tt := tYes) (by rfl) sc_law.nd (pi_range1 (by rfl) T.z_range (pa_cons (pe_op op_add (pv 2) pe_int) pa_nil)) (blkOk_by (N := ["script", "pool", "count", "sizes", "places", "out", "is_long", "number", "chosen", "row", "terms", "state", "due", "k"]) (sc := defScope s_law) (by decide +kernel)) (fun _ _ _ _ _ => (pg_name (i := 13) sc_law.nd rfl (Or.inl rfl))) (fun _ _ _ _ _ => pts_nil) (fun _ _ _ _ _ => (pe_lst pa_nil))))
    (pss_cons (ps_setLc (i := 5) (own := [("k", 13)]) (g := (gName 13)) (tt := tYes) (by rfl) sc_law.nd rfl rfl (sw_true rfl rfl rfl (by decide +kernel)) (pi_range1 (by rfl) T.z_range (pa_cons (C8.pe_c C_law_take hr (by decide) rfl (pa_cons (pv 1) (pa_cons pe_int pa_nil))) pa_nil)) (blkOk_by (N := ["script", "pool", "count", "sizes", "places", "out", "is_long", "number", "chosen", "row", "terms", "state", "due", "k"]) (sc := defScope s_law) (by decide +kernel)) (fun _ _ _ _ _ => (pg_name (i := 13) sc_law.nd rfl (Or.inl rfl))) (fun _ _ _ _ _ => pts_nil) (fun _ _ _ _ _ => (C8.pe_c C_law_number hr (by decide) rfl (pa_cons (pv 1) pa_nil))))
    (pss_cons (ps_set (i := 6) sc_law.nd rfl (Or.inl rfl) pe_bl)
    (C8.pss_cut (ps_if (pt_cmpR op_eq (C8.pe_c C_law_take hr (by decide) rfl (pa_cons (pv 1) (pa_cons pe_int pa_nil))) pe_int (nomark _)) (pss_cons (ps_set (i := 7) sc_law.nd rfl (Or.inl rfl) (C8.pe_c C_law_great hr (by decide) rfl (pa_cons (pv 1) pa_nil)))
    (pss_cons (ps_set (i := 8) sc_law.nd rfl (Or.inl rfl) (C8.pe_c C_law_take hr (by decide) rfl (pa_cons (pv 1) (pa_cons (pe_op op_add (pv 2) pe_int) pa_nil))))
    (pss_one (ps_if (pt_cmpR op_gt (pv 8) (pv 2) (nomark _)) (pss_cons (ps_expr (pe_bm PySem.F.plainAttrs_list PySem.F.slot_list_append PySem.F.type_list_append mt_append (pv 5) (pa_cons (pv 7) pa_nil)))
    (pss_one (ps_set (i := 6) sc_law.nd rfl (Or.inl rfl) (pe_cmpR op_ge (pe_callB call_abs (by rfl) T.z_abs (by decide +kernel) (pa_cons (pv 7) pa_nil)) (pe_op op_pow pe_int pe_int) (nomark _))))) (pss_one (ps_if (pt_cmpR op_gt (pe_ix ix_list (pv 3) (pv 8) (fun _ _ => rfl)) pe_int (nomark _)) (pss_cons (ps_set (i := 9) sc_law.nd rfl (Or.inl rfl) (pe_op op_cat (pe_lc (own := [("k", 13)]) (g := (gName 13)) (tt := tYes) (by rfl) sc_law.nd (pi_range1 (by rfl) T.z_range (pa_cons (C8.pe_c C_law_take hr (by decide) rfl (pa_cons (pv 1) (pa_cons (pe_ix ix_list (pv 3) (pv 8) (fun _ _ => rfl)) pa_nil))) pa_nil)) (blkOk_by (N := ["script", "pool", "count", "sizes", "places", "out", "is_long", "number", "chosen", "row", "terms", "state", "due", "k"]) (sc := defScope s_law) (by decide +kernel)) (fun _ _ _ _ _ => (pg_name (i := 13) sc_law.nd rfl (Or.inl rfl))) (fun _ _ _ _ _ => pts_nil) (fun _ _ _ _ _ => (pv 13))) (pe_lst (pa_cons (pv 7) pa_nil))))
    (pss_cons (ps_asg (pv 9) (pg_sub (pv 4) (pv 8) set_list))
    (pss_one (ps_set (i := 6) sc_law.nd rfl (Or.inl rfl) (pe_cmpR op_ge (pe_callB call_abs (by rfl) T.z_abs (by decide +kernel) (pa_cons (pv 7) pa_nil)) (pe_op op_pow pe_int pe_int) (nomark _)))))) pss_nil)))))) pss_nil)
    (C8.pss_cut (ps_set (i := 6) sc_law.nd rfl (Or.inl rfl) (pe_or (pv 6) (pe_one (pe_cmpR op_ge (pe_callB (cr_max (by rfl)) (by rfl) T.z_max (by decide +kernel) (pa_cons (pe_op op_cat (pe_lc (own := [("number", 7)]) (g := (gName 7)) (tt := tYes) (by rfl) sc_law.nd (pi_list (pv 5)) (blkOk_by (N := ["script", "pool", "count", "sizes", "places", "out", "is_long", "number", "chosen", "row", "terms", "state", "due", "k"]) (sc := defScope s_law) (by decide +kernel)) (fun _ _ _ _ _ => (pg_name (i := 7) sc_law.nd rfl (Or.inl rfl))) (fun _ _ _ _ _ => pts_nil) (fun _ _ _ _ _ => (pe_callB call_abs (by rfl) T.z_abs (by decide +kernel) (pa_cons (pv 7) pa_nil)))) (pe_lst (pa_cons pe_int pa_nil))) pa_nil)) (pe_op op_pow pe_int pe_int) (nomark _)))))
    (pss_cons (ps_setLc (i := 10) (own := [("k", 13)]) (g := (gName 13)) (tt := tYes) (by rfl) sc_law.nd rfl rfl (sw_true rfl rfl rfl (by decide +kernel)) (pi_range1 (by rfl) T.z_range (pa_cons (pe_op op_add (pv 2) pe_int) pa_nil)) (blkOk_by (N := ["script", "pool", "count", "sizes", "places", "out", "is_long", "number", "chosen", "row", "terms", "state", "due", "k"]) (sc := defScope s_law) (by decide +kernel)) (fun _ _ _ _ _ => (pg_name (i := 13) sc_law.nd rfl (Or.inl rfl))) (fun _ _ _ _ _ => pts_nil) (fun _ _ _ _ _ => (C8.pe_c C_law_wide hr (by decide) rfl (pa_cons (pe_ix (r := rIxL K) ix_list (pv 3) (pv 13) (fun _ _ => rfl)) (pa_cons (pe_ix (r := rIxL K) ix_list (pv 4) (pv 13) (fun _ _ => rfl)) pa_nil)))))
    (pss_cons (ps_set (i := 11) sc_law.nd rfl (Or.inl rfl) (pe_tup (pa_cons (pe_ix ix_list (pv 10) pe_int (fun _ _ => rfl)) (pa_cons (pe_callTy call_tuple_of (by rfl) T.z_tuple (by decide +kernel) (pa_cons (pe_slice sl_list (pv 10) (po_some pe_int) po_none) pa_nil)) (pa_cons (pe_callTy call_tuple_of (by rfl) T.z_tuple (by decide +kernel) (pa_cons (pv 5) pa_nil)) pa_nil)))))
    (C8.pss_cut (ps_set (i := 12) sc_law.nd rfl (Or.inl rfl) (pe_or (pv 6) (pe_one (pe_cmpR op_gt (pe_op op_add (pe_op op_add (pe_callB (cr_sum (by rfl)) (by rfl) T.z_sum (by decide +kernel) (pa_cons (pv 3) pa_nil)) (pv 2)) pe_int) pe_int (nomark _)))))
    (pss_cons (ps_if (pt_not (pt_val (C8.pe_c C_law_same hr (by decide) rfl (pa_cons (C8.pe_c C_is_large hr (by decide) rfl (pa_cons (pv 11) pa_nil)) (pa_cons (pv 12) pa_nil))))) (pss_one (ps_ret pe_bl)) pss_nil)
    (pss_one (ps_ret (C8.pe_c C_law_same hr (by decide) rfl (pa_cons (C8.pe_c C_first_state hr (by decide) rfl (pa_cons (pe_ix ix_list (pv 10) pe_int (fun _ _ => rfl)) pa_nil)) (pa_cons (pe_tup (pa_cons (pe_ix ix_list (pv 10) pe_int (fun _ _ => rfl)) (pa_cons (pe_tup pa_nil) (pa_cons (pe_tup pa_nil) pa_nil)))) pa_nil))))))))))))))))), ?_⟩
  refine ⟨_, rfl, sa, ns, rfl, hS, hlen, fun H0 l c s0 hl0 P0 => ?_⟩
  refine vTake rfl P0 (by decide) (by decide) fun cnt H1 c0 c1 x1 => ?_
  obtain ⟨count, rfl⟩ : ∃ k : Nat, cnt = k := ⟨cnt.toNat, by omega⟩
  refine ⟨_, rfl, _, rfl, l, c, count, rfl, x1.pool, by omega, fun H2 ps szs x2 hps0 hps lsz bsz => ?_⟩
  have x2' := x1.trans x2
  have nps : ps ≠ l := (x1.pool.ne hps0).1
  -- places
  refine ⟨_, rfl, _, _, rfl, rfl, (count : Int) + 1, rfl, by omega, by omega, fun Dp hDp => lc_range (lo := 0) (n := ((count : Int) + 1).toNat) (fun i H' => ∃ as : List Addr, Ext l c H2 H' ∧ H' Dp = some (.lst (as.map V.ref)) ∧ as.length = i ∧ ∀ a ∈ as, H' a = some (.lst []) ∧ a ≠ l ∧ a ≠ Dp) ?_ ?_ ?_⟩
  · exact ⟨[], (Ext.refl x2.pool).new x2.pool hDp, upd_same, rfl, fun _ h => nomatch h⟩
  · rintro i H' hi ⟨as, x, hd, la, ha⟩
    refine ⟨rfl, yes_ ⟨Nat.zero_le _, fun a na => ?_⟩⟩
    have nDa : Dp ≠ a := ne_of_none hd na
    have hd2 : (upd H' a (.lst [])) Dp = some (.lst (as.map V.ref)) := by rw [upd_ne nDa]; exact hd
    refine ⟨_, hd2, smallL (by rw [List.length_map, la]; omega), as ++ [a], (x.new x2.pool na).upd x2.pool hDp, by rw [upd_same, List.map_append]; rfl, by rw [List.length_append, la]; rfl, fun b hb => ?_⟩
    rcases List.mem_append.mp hb with h | h
    · obtain ⟨h1, h2, h3⟩ := ha b h
      refine ⟨?_, h2, h3⟩
      rw [upd_ne h3, upd_ne (ne_of_none h1 na)]
      exact h1
    · rw [List.mem_singleton.mp h]
      refine ⟨?_, (x.pool.ne na).1, nDa.symm⟩
      rw [upd_ne nDa.symm, upd_same]
  rintro H3 ⟨as, x3, hp3, las, has⟩
  have nDp : Dp ≠ l := (x2.pool.ne hDp).1
  have lc1 : ((count : Int) + 1).toNat = count + 1 := by omega
  rw [lc1] at las
  have pl3 : PlR H3 l as (List.replicate (count + 1) []) := by
    refine ⟨by rw [las, List.length_replicate], fun i a ms h1 h2 => ?_⟩
    obtain ⟨e1, e2, _⟩ := has a (List.mem_of_getElem? h1)
    have : ms = [] := List.eq_of_mem_replicate (List.mem_of_getElem? h2)
    rw [this]
    exact ⟨e1, e2⟩
  have x3' := x2'.trans x3
  -- out
  refine vTake rfl x3.pool (by decide) (by decide) fun d4 H4 d40 d41 x4 => ⟨d4, rfl, by omega, by omega, fun Do hDo => lcX (K := K) (walk_range (lo := 0) (n := d4.toNat)) x4.pool hDo (by omega) (fun ds => ∃ os : List Int, ds = os.map PyData.int) ⟨[], rfl⟩ (fun _ _ => trivial) ?_ ?_⟩
  · rintro i x1 H5 H5 ds R hi x5 ⟨rfl, rfl⟩ ⟨os, rfl⟩ len r
    exact ⟨rfl, _, rfl, l, c, rfl, x5.pool, fun z H' x' _ _ => r (.int z) _ _ x' (.int z) ⟨os ++ [z], by rw [List.map_append]; rfl⟩⟩
  rintro H5 wo do_ x5 hwo dao leno ⟨os, rfl⟩
  obtain rfl := dao.intsE
  rw [List.length_map] at leno
  have x5' := (x3'.trans x4).trans x5
  have x35 := x4.trans x5
  have nDo : Do ≠ l := (x4.pool.ne hDo).1
  have hps5 : H5 ps = some (.lst (szs.map nat)) := ((x3.trans x4).trans x5).keep _ _ nps hps
  have hp5 := x35.keep _ _ nDp hp3
  have pl5 := pl3.ext x35
  have nPsDp : ps ≠ Dp := ne_of_none hps hDp
  have nPsDo : ps ≠ Do := ne_of_none ((x3.trans x4).keep _ _ nps hps) hDo
  have nDpDo : Dp ≠ Do := ne_of_none (x4.keep _ _ nDp hp3) hDo
  have nAsDo : ∀ a ∈ as, a ≠ Do := fun a ha => ne_of_none (x4.keep _ _ (has a ha).2.1 (has a ha).1) hDo
  have nAsDp : ∀ a ∈ as, a ≠ Dp := fun a ha => (has a ha).2.2
  have hD00 : H0 Do = none := (x3'.trans x4).free P0 hDo
  have hD0p : H0 Dp = none := x2'.free P0 hDp
  -- a long integer at a drawn place
  refine ⟨fun σ H' => ∃ (pl : List (List Int)) (as : List Addr) (os : List Int) (b : Bool) (o7 o8 o9 : Option V), σ = [some (.ref sa), some (.ref l), some (.int (count : Nat)), some (.ref ps), some (.ref Dp), some (.ref Do), some (.bl b), o7, o8, o9, none, none, none, none] ∧ Ext l c H0 H' ∧ H' ps = some (.lst (szs.map nat)) ∧ H' Dp = some (.lst (as.map V.ref)) ∧
    PlR H' l as pl ∧ H' Do = some (.lst (os.map V.int)) ∧ pl.length = count + 1 ∧ (∀ (i m : Nat) (ms : List Int), szs[i]? = some m → pl[i]? = some ms → ms.length ≤ m) ∧ os.length ≤ 5 ∧ (b || os.any longI) = (os.any longI || pl.any fun ms => ms.any longI), ?_, ?_⟩
  · have bz : ∀ (i m : Nat) (ms : List Int), szs[i]? = some m → (List.replicate (count + 1) ([] : List Int))[i]? = some ms → ms.length ≤ m := fun i m ms _ h => by
      rw [List.eq_of_mem_replicate (List.mem_of_getElem? h)]; exact Nat.zero_le _
    have lr : (List.replicate (count + 1) ([] : List Int)).length = count + 1 := List.length_replicate
    refine vTake rfl x5.pool (by decide) (by decide) fun d6 H6 d60 d61 x6 => ⟨rfl, _, rfl, ite2 (fun _ => ?_) (fun _ => ?_)⟩
    · refine ⟨_, rfl, l, c, rfl, x6.pool, fun z H7 x7 => ?_⟩
      refine ⟨_, rfl, _, rfl, _, _, rfl, rfl, l, c, _, False, rfl, x7.pool, by omega, by omega, .inl (Nat.le_refl 2), fun ch H8 ch0 ch1 x8 => ?_⟩
      obtain ⟨j, rfl⟩ : ∃ k : Nat, ch = k := ⟨ch.toNat, by omega⟩
      have y8 := (x6.trans x7).trans x8
      have x8' := x5'.trans y8
      have hps8 := y8.keep _ _ nps hps5
      have hp8 := y8.keep _ _ nDp hp5
      have ho8 := y8.keep _ _ nDo hwo
      have pl8 := pl5.ext y8
      refine ⟨_, rfl, _, rfl, _, _, rfl, rfl, _, rfl, ite2 (fun e => ?_) (fun e => ?_)⟩
      · refine ⟨_, rfl, .inl ⟨rfl, _, SqL.of ho8⟩, _, rfl, Do, _, _, rfl, rfl, ho8, smallL (by rw [List.length_map]; omega), ?_⟩
        refine ⟨_, rfl, z, rfl, _, _, rfl, rfl, ⟨by decide, by decide, by decide⟩, _, _, rfl, rfl, List.replicate (count + 1) [], as, os ++ [z], longI z, _, _, _, rfl, ?_, ?_, ?_, ?_, ?_, lr, bz, ?_, ?_⟩
        · exact x8'.upd P0 hD00
        · rw [upd_ne nPsDo]; exact hps8
        · rw [upd_ne nDpDo]; exact hp8
        · exact pl8.keep fun a ha o ho => by rw [upd_ne (nAsDo a ha)]; exact ho
        · rw [upd_same, List.map_append]; rfl
        · rw [List.length_append]; show os.length + 1 ≤ 5; omega
        · rw [rep_any, Bool.or_false, List.any_append, show [z].any longI = longI z from by simp, Bool.or_comm, Bool.or_assoc, Bool.or_self]
      · have hj : j < szs.length := by
          have : ¬ (count : Int) < (j : Int) := fun h => e (decide_eq_true h)
          omega
        have gj : (szs.map nat)[j]? = some (nat szs[j]) := by rw [List.getElem?_map, List.getElem?_eq_getElem hj]; rfl
        have b404 := bsz _ (List.getElem_mem hj)
        refine ⟨_, rfl, _, rfl, ps, _, _, _, rfl, rfl, SqL.of hps8, atI_nat gj, _, _, rfl, rfl, _, rfl, ite2 (fun e2 => ?_) (fun e2 => ?_)⟩
        · have e2 : (0 : Int) < (szs[j] : Nat) := of_decide_eq_true e2
          refine ⟨_, rfl, _, rfl, _, rfl, ps, _, _, _, rfl, rfl, SqL.of hps8, atI_nat gj, l, c, _, False, rfl, x8.pool, e2, by omega, .inl (Nat.le_refl 2), fun d9 H9 d90 d91 x9 => ⟨d9, rfl, by omega, by omega, fun Dr hDr => lcS (K := K) (walk_range (lo := 0) (n := d9.toNat)) hDr (by omega) (fun ds => ds = ((List.range ds.length).map fun k => ((k : Nat) : Int)).map PyData.int) rfl (fun _ _ => trivial) ?_ ?_⟩⟩
          · rintro i y1 Ha Ha ds R hi sa2 ⟨rfl, rfl⟩ jd len r
            refine ⟨rfl, _, rfl, r (.int (0 + (i : Int))) _ _ (Same.refl _) (.int _) ?_⟩
            rw [List.length_append, show ds.length + [PyData.int (0 + (i : Int))].length = ds.length + 1 from rfl, List.range_succ, List.map_append, List.map_append, ← jd, len, Int.zero_add]
            rfl
          rintro HA wr dr sA hwr dar lenr jdr
          rw [lenr] at jdr
          rw [jdr] at dar
          obtain rfl := dar.intsE
          refine ⟨_, rfl, small (by show 1 ≤ _; decide), fun q1 hq1 => ⟨Dr, q1, _, _, rfl, rfl, by rw [upd_ne (ne_of_none hwr hq1)]; exact hwr, upd_same, small (by rw [List.length_map, List.length_map, List.length_range]; show _ + 1 ≤ _; omega), fun r1 hr1 => ?_⟩⟩
          have s9 : Same H9 (upd (upd HA q1 (.lst [.int z])) r1 (.lst (((List.range d9.toNat).map fun k => ((k : Nat) : Int)).map V.int ++ [.int z]))) := (sA.trans (same_new hq1)).trans (same_new hr1)
          have hr9 : H9 r1 = none := (sA.trans (same_new hq1)).free hr1
          have y9 := y8.trans x9
          have hp9 := s9 _ _ (y9.keep _ _ nDp hp5)
          have nr1 : r1 ≠ l := (x9.pool.ne hr9).1
          have nr1p : Dp ≠ r1 := ne_of_none (y9.keep _ _ nDp hp5) hr9
          refine ⟨_, rfl, _, rfl, _, rfl, Dp, _, _, j, rfl, rfl, hp9, ixN_of (by omega) (by rw [List.length_map, las]; omega), ?_⟩
          refine ⟨_, rfl, z, rfl, _, _, rfl, rfl, ⟨by decide, by decide, by decide⟩, _, _, rfl, rfl, (List.replicate (count + 1) []).set j (((List.range d9.toNat).map fun k => ((k : Nat) : Int)) ++ [z]), as.set j r1, os, longI z, _, _, _, rfl, ?_, ?_, ?_, ?_, ?_, ?_, ?_, ?_, ?_⟩
          · exact ((x5'.trans y9).same s9).upd P0 hD0p
          · rw [upd_ne nPsDp]; exact s9 _ _ (y9.keep _ _ nps hps5)
          · rw [upd_same, List.map_set]
          · refine (pl5.ext y9).setR (fun a ha o ho => ?_) ?_ nr1
            · rw [upd_ne (nAsDp a ha)]; exact s9 _ _ ho
            · rw [upd_ne nr1p.symm, upd_same, List.map_append]; rfl
          · rw [upd_ne nDpDo.symm]; exact s9 _ _ (y9.keep _ _ nDo hwo)
          · rw [List.length_set]; exact lr
          · intro i m ms h1 h2
            by_cases ej : j = i
            · subst ej
              rw [List.getElem?_set_self (by rw [lr]; omega)] at h2
              rw [List.getElem?_eq_getElem hj] at h1
              cases h1; cases h2
              rw [List.length_append, List.length_map, List.length_range]
              show d9.toNat + 1 ≤ _
              omega
            · rw [List.getElem?_set_ne ej] at h2
              exact bz i m ms h1 h2
          · omega
          · rw [set_any _ _ _ (by omega), List.any_append, range_long (by omega), Bool.false_or, show [z].any longI = longI z from by simp, Bool.or_comm]
        · refine ⟨List.replicate (count + 1) [], as, os, false, _, _, _, rfl, x8', hps8, hp8, pl8, ho8, lr, bz, by omega, ?_⟩
          rw [rep_any, Bool.false_or, Bool.or_false]
    · refine ⟨List.replicate (count + 1) [], as, os, false, _, _, _, rfl, x5'.trans x6, x6.keep _ _ nps hps5, x6.keep _ _ nDp hp5, pl5.ext x6, x6.keep _ _ nDo hwo, lr, bz, by omega, ?_⟩
      rw [rep_any, Bool.false_or, Bool.or_false]
  · rintro σ H6 ⟨pl, as, os, b, o7, o8, o9, rfl, x6, hps6, hp6, pl6, ho6, lpl, bz, los, eb⟩
    have P6 := x6.pool
    clear dao hwo leno hps5 hp5 pl5 nAsDo nAsDp has hp3 las pl3 x5' x35 x5 hDo x4 d40 d41 x3' x3
    refine ⟨fun σ H' => ∃ b2 : Bool, σ = [some (.ref sa), some (.ref l), some (.int (count : Nat)), some (.ref ps), some (.ref Dp), some (.ref Do), some (.bl b2), o7, o8, o9, none, none, none, none] ∧ b2 = (b || os.any longI) ∧ Same H6 H', ?_, ?_⟩
    · refine ⟨_, rfl, b, rfl, ?_⟩
      cases b with
      | true => exact iteT ⟨true, rfl, rfl, Same.refl _⟩
      | false =>
        refine iteF ⟨_, rfl, Do, rfl, ⟨_, SqL.of ho6⟩, fun Dm hDm => lcS (K := K) (walk_list (xs := os.map V.int)) hDm (by rw [List.length_map]; omega) (fun ds => ds = ((os.take ds.length).map fun n => if n < 0 then -n else n).map PyData.int) rfl (fun H' s => SqL.of (s _ _ ho6)) ?_ ?_⟩
        · rintro i y1 Ha Hb ds R hi sa2 ⟨rfl, gx⟩ jd len r
          rw [List.getElem?_map] at gx
          cases e0 : os[i]? with
          | none => rw [e0] at gx; cases gx
          | some n =>
            rw [e0] at gx
            cases gx
            refine ⟨rfl, _, rfl, n, rfl, r (.int (if n < 0 then -n else n)) _ _ (Same.refl _) (.int _) ?_⟩
            rw [List.length_append, len, show i + [PyData.int (if n < 0 then -n else n)].length = i + 1 from rfl, List.take_add_one, e0, List.map_append, List.map_append]
            rw [len] at jd
            rw [← jd]; rfl
        rintro HA wr dr sA hwr dar lenr jdr
        rw [lenr, List.length_map, List.take_length] at jdr
        rw [jdr] at dar
        obtain rfl := dar.intsE
        refine ⟨small (by show 1 ≤ _; decide), fun q1 hq1 => ⟨Dm, q1, _, _, rfl, rfl, by rw [upd_ne (ne_of_none hwr hq1)]; exact hwr, upd_same, small (by rw [List.length_map, List.length_map]; show _ + 1 ≤ _; omega), fun r1 hr1 => ?_⟩⟩
        refine ⟨r1, (os.map fun n => if n < 0 then -n else n) ++ [0], rfl, by rw [List.map_append]; exact SqL.of upd_same, by simp, fun m hm hle => ?_⟩
        refine ⟨_, _, rfl, rfl, ⟨by decide, by decide, by decide⟩, _, _, rfl, rfl, decide ((10 : Int) ^ 15 ≤ m), rfl, ?_, (sA.trans (same_new hq1)).trans (same_new hr1)⟩
        rw [Bool.false_or]
        apply Bool.eq_iff_iff.mpr
        rw [decide_eq_true_eq, List.any_eq_true]
        constructor
        · intro h
          rcases List.mem_append.mp hm with h1 | h1
          · obtain ⟨x, hx, rfl⟩ := List.mem_map.mp h1
            exact ⟨x, hx, decide_eq_true h⟩
          · rw [List.mem_singleton.mp h1] at h
            exact absurd h (by decide)
        · rintro ⟨x, hx, hl⟩
          have h1 : (10 : Int) ^ 15 ≤ if x < 0 then -x else x := of_decide_eq_true hl
          have h2 := hle _ (List.mem_append_left [0] (List.mem_map.mpr ⟨x, hx, rfl⟩))
          exact Int.le_trans h1 h2
    rintro σ H7 ⟨b2, rfl, eb2, s7⟩
    have hps7 := s7 _ _ hps6
    have hp7 := s7 _ _ hp6
    have ho7 := s7 _ _ ho6
    have pl7 := pl6.keep fun a _ o ho => s7 _ _ ho
    have lcn : ((count : Int) + 1).toNat = count + 1 := by omega
    refine ⟨_, rfl, _, _, rfl, rfl, (count : Int) + 1, rfl, by omega, by omega, fun Dz hDz => lcS (K := K) (walk_range (lo := 0) (n := ((count : Int) + 1).toNat)) hDz (by omega) (fun ds => ds = ((List.zipWith wideT szs pl).take ds.length).map Tm.d) rfl (fun _ _ => trivial) ?_ ?_⟩
    · rintro i y1 Ha Hb ds R hi sa2 ⟨rfl, rfl⟩ jd len r
      have h1 : i < szs.length := by omega
      have h2 : i < pl.length := by omega
      have h3 : i < as.length := by rw [pl7.1]; exact h2
      have g1 : (szs.map nat)[i]? = some (nat szs[i]) := by rw [List.getElem?_map, List.getElem?_eq_getElem h1]; rfl
      have g3 : (as.map V.ref)[i]? = some (.ref as[i]) := by rw [List.getElem?_map, List.getElem?_eq_getElem h3]; rfl
      obtain ⟨k1, k2⟩ := pl7.2 i as[i] pl[i] (List.getElem?_eq_getElem h3) (List.getElem?_eq_getElem h2)
      have b1 := bz i _ _ (List.getElem?_eq_getElem h1) (List.getElem?_eq_getElem h2)
      have b2 := bsz _ (List.getElem_mem h1)
      have e0 : (0 : Int) + (i : Int) = (i : Int) := Int.zero_add _
      refine ⟨rfl, _, rfl, _, rfl, ps, _, _, _, rfl, rfl, SqL.of (sa2 _ _ hps7), by rw [e0]; exact atI_nat g1, _, rfl, _, rfl, Dp, _, _, _, rfl, rfl, SqL.of (sa2 _ _ hp7), by rw [e0]; exact atI_nat g3, szs[i], as[i], pl[i], rfl, b2, by omega, sa2 _ _ k1, fun H' v s dv => r _ v _ s dv ?_⟩
      have ez : (List.zipWith wideT szs pl)[i]? = some (wideT szs[i] pl[i]) := by
        rw [List.getElem?_zipWith, List.getElem?_eq_getElem h1, List.getElem?_eq_getElem h2]
      rw [List.length_append, len, show i + [(wideT szs[i] pl[i]).d].length = i + 1 from rfl, List.take_add_one, ez, List.map_append]
      rw [len] at jd
      rw [← jd]; rfl
    rintro H8 wz dz s8 hwz daz lenz jdz
    have lts : (List.zipWith wideT szs pl).length = count + 1 := by rw [List.length_zipWith, lsz, lpl]; omega
    rw [lenz, lcn, ← lts, List.take_length] at jdz
    have zt := zip_total szs pl (by omega)
    have zb := zip_bad szs pl (by omega) bz bsz
    obtain ⟨t0, tr, ets⟩ : ∃ t0 tr, List.zipWith wideT szs pl = t0 :: tr := by
      cases e : List.zipWith wideT szs pl with
      | nil => rw [e] at lts; cases lts
      | cons a b => exact ⟨a, b, rfl⟩
    obtain ⟨m0, p0, et0⟩ : ∃ m0 p0, t0 = wideT m0 p0 ∧ m0 ≤ 404 := by
      cases szs with
      | nil => cases ets
      | cons m0 _ => cases pl with
        | nil => cases ets
        | cons p0 _ =>
          have : wideT m0 p0 = t0 := (List.cons.inj ets).1
          exact ⟨m0, p0, this.symm, bsz _ List.mem_cons_self⟩
    rw [ets] at jdz zt zb
    rw [jdz] at daz
    obtain ⟨v0, wr, rfl⟩ : ∃ v0 wr, wz = v0 :: wr := by
      cases daz with
      | cons _ _ => exact ⟨_, _, rfl⟩
    obtain ⟨d0, dr⟩ : Dt K H8 v0 t0.d ∧ DtAll K H8 wr (tr.map Tm.d) := by
      cases daz with
      | cons a b => exact ⟨a, b⟩
    have ho8 := s8 _ _ ho7
    -- the state
    refine ⟨_, rfl, Dz, _, _, v0, rfl, rfl, SqL.of hwz, atI_nat (j := 0) rfl, _, rfl, _, rfl, Dz, _, rfl, SqL.of hwz, fun p1 hp1 => ⟨p1, _, rfl, .inl ⟨SqL.of upd_same, fun t1 ht1 => ?_⟩⟩⟩
    have ec : cutV (v0 :: wr) (some (1 : Int)) none = wr := by
      unfold cutV
      rw [show (1 : Int) = ((1 : Nat) : Int) from rfl, HT.sIx_nat, HT.sIx_none, List.length_cons, Nat.min_eq_left (by omega), List.drop_succ_cons, List.drop_zero, Nat.add_sub_cancel, List.take_length]
    rw [ec] at ht1 ⊢
    have s9 := (same_new (o := .lst wr) hp1).trans (same_new (o := .tup wr) ht1)
    refine ⟨_, rfl, Do, _, rfl, .inl ⟨SqL.of (s9 _ _ ho8), fun t2 ht2 => ⟨small (by show 3 ≤ _; decide), fun t3 ht3 => ?_⟩⟩⟩
    have s10 := same_new (o := .tup (os.map V.int)) ht2
    have dst : Dt K (upd (upd (upd (upd H8 p1 (.lst wr)) t1 (.tup wr)) t2 (.tup (os.map V.int))) t3 (.tup [v0, .ref t1, .ref t2])) (.ref t3) (stD t0 tr os) := by
      refine Dt.mk3 ht3 ((d0.same s9).same s10) ((Dt.tup (SqT.of upd_same) (dr.same s9)).same s10) (.tup (SqT.of upd_same) (DtAll.ints os))
    have s11 := (s9.trans s10).trans (same_new (o := .tup [v0, .ref t1, .ref t2]) ht3)
    have hps11 := s11 _ _ (s8 _ _ hps7)
    have hwz11 := s11 _ _ hwz
    have d011 := d0.same s11
    generalize upd (upd (upd (upd H8 p1 (.lst wr)) t1 (.tup wr)) t2 (.tup (os.map V.int))) t3 (.tup [v0, .ref t1, .ref t2]) = H11 at dst hps11 hwz11 d011 ⊢
    -- due
    have esum : ((szs.map fun n => ((n : Nat) : Int)).sum) = ((szs.sum : Nat) : Int) := sum_nat szs
    refine ⟨fun σ H' => σ = [some (.ref sa), some (.ref l), some (.int (count : Nat)), some (.ref ps), some (.ref Dp), some (.ref Do), some (.bl b2), o7, o8, o9, some (.ref Dz), some (.ref t3), some (.bl (b2 || decide (400 < szs.sum + count + 1))), none] ∧ H' = H11, ?_, ?_⟩
    · refine ⟨_, rfl, b2, rfl, ?_⟩
      cases b2 with
      | true => exact iteT ⟨rfl, rfl⟩
      | false =>
        refine iteF ⟨_, rfl, ps, szs.map fun n => ((n : Nat) : Int), rfl, by rw [List.map_map]; exact SqL.of hps11, ?_⟩
        rw [esum]
        have e400 : decide ((400 : Int) < ((szs.sum : Nat) : Int) + (count : Int) + 1) = (false || decide (400 < szs.sum + count + 1)) := by
          rw [Bool.false_or]; exact decide_eq_decide.mpr (by omega)
        exact ⟨_, rfl, _, _, rfl, rfl, _, _, rfl, rfl, _, _, rfl, rfl, by rw [← e400]; rfl, rfl⟩
    rintro σ H12 ⟨rfl, rfl⟩
    have hlg : largeB (t0 :: tr) os = (b2 || decide (400 < szs.sum + count + 1)) := by
      unfold largeB
      rw [zt, zb, lsz, eb2, eb]
      rw [show szs.sum + (count + 1) = szs.sum + count + 1 from rfl]
      cases os.any longI <;> cases (pl.any fun ns => ns.any longI) <;> cases (decide (400 < szs.sum + count + 1)) <;> rfl
    have bts : szs.sum + szs.length ≤ 1000000 := by
      have : ∀ zs : List Nat, (∀ n ∈ zs, n ≤ 404) → zs.sum ≤ 404 * zs.length := by
        intro zs
        induction zs with
        | nil => intro _; exact Nat.le_refl _
        | cons z r ih =>
          intro h
          have h1 := h z List.mem_cons_self
          have h2 := ih fun n hn => h n (List.mem_cons_of_mem _ hn)
          rw [List.sum_cons, List.length_cons]
          omega
      have := this szs bsz
      omega
    refine ⟨_, rfl, .ref t3, t0, tr, os, rfl, dst, by rw [zt]; exact bts, by omega, fun H13 s13 => ⟨_, rfl, .bl (largeB (t0 :: tr) os), .bl (b2 || decide (400 < szs.sum + count + 1)), .bool (largeB (t0 :: tr) os), rfl, .bl _, by rw [hlg]; exact .bl _, by show 0 < 10; decide, rfl, fun H14 s14 => ⟨_, rfl, iteF ?_⟩⟩⟩
    have s114 := s13.trans s14
    have hwz14 := s114 _ _ hwz11
    have d014 := d011.same s114
    refine ⟨_, rfl, Dz, _, _, v0, rfl, rfl, SqL.of hwz14, atI_nat (j := 0) rfl, v0, t0.d, rfl, d014, fun H15 u s15 du => ?_⟩
    have hwz15 := s15 _ _ hwz14
    have d015 := d014.same s15
    refine ⟨_, rfl, Dz, _, _, v0, rfl, rfl, SqL.of hwz15, atI_nat (j := 0) rfl, Nat.zero_le _, fun e1 he1 => ⟨Nat.zero_le _, fun e2 he2 => ⟨small (by show 3 ≤ _; decide), fun e3 he3 => ?_⟩⟩⟩
    have s16 := (same_new (o := .tup []) he1).trans (same_new (o := .tup []) he2)
    have s17 := s16.trans (same_new (o := .tup [v0, .ref e1, .ref e2]) he3)
    obtain ⟨et0, hm0⟩ := et0
    have hdep : t0.d.depth ≤ 5 := by
      rw [et0]
      unfold wideT Tm.d
      rw [Tm.es_map]
      have : PyData.depthAll (((List.range m0).map (wideE p0)).map Tm.ent) ≤ 3 := depth_all fun d hd => by
        obtain ⟨x, hx, rfl⟩ := List.mem_map.mp hd
        obtain ⟨k, _, rfl⟩ := List.mem_map.mp hx
        unfold Tm.ent wideE Tm.d
        show max 0 (max (max 0 (max 0 0) + 1) 0) + 1 ≤ 3
        decide
      show max 0 (max (PyData.depthAll _ + 1) 0) + 1 ≤ 5
      omega
    have hsl : slim t0.d = true := by
      rw [et0]
      unfold wideT Tm.d
      rw [Tm.es_map]
      refine slim_tup (by show 2 ≤ 1000; decide) (slim_all fun d hd => ?_)
      rcases List.mem_cons.mp hd with rfl | hd
      · rfl
      rw [List.mem_singleton.mp hd]
      refine slim_tup (by rw [List.length_map, List.length_map, List.length_range]; omega) (slim_all fun d hd => ?_)
      obtain ⟨x, hx, rfl⟩ := List.mem_map.mp hd
      obtain ⟨k, _, rfl⟩ := List.mem_map.mp hx
      unfold Tm.ent wideE Tm.d
      rfl
    refine ⟨u, .ref e3, .tuple [t0.d, .tuple [], .tuple []], rfl, Dt.dp _ _ (du.same s17), Dt.dp _ _ (Dt.mk3 he3 (d015.same s16) ((Dt.tup (SqT.of upd_same) .nil).new he2) (.tup (SqT.of upd_same) .nil)), ?_, ?_, fun H' _ => q H'⟩
    · show max t0.d.depth (max (0 + 1) (max (0 + 1) 0)) + 1 < 10
      omega
    · refine slim_tup (by show 3 ≤ _; decide) (slim_all fun d hd => ?_)
      rcases List.mem_cons.mp hd with rfl | hd
      · exact hsl
      rcases List.mem_cons.mp hd with rfl | hd
      · rfl
      rw [List.mem_singleton.mp hd]; rfl
end
end PK
namespace PK
open PySem L2
section
variable {P : Program} {w : World} {K : PySem.W.Frag} {mg : Str → Option Value} {base : Heap}
theorem none_okX {f : Addr} {fd : FuncData} {ps : List Str} {sp : Sp} {k : Nat} (no : ∀ vs H Q E, ¬ sp vs H Q E) : FnOk P w K mg base (L2.CX P w) k f fd ps sp :=
  ⟨fun vs H Q E h => absurd h (no vs H Q E), fun A outer s H args us vs Q E _ _ _ _ h => absurd h (no vs H Q E)⟩
theorem none_ok {f : Addr} {fd : FuncData} {ps : List Str} {sp : Sp} {k : Nat} (no : ∀ vs H Q E, ¬ sp vs H Q E) : FnOk P w K mg base CX0 k f fd ps sp :=
  ⟨fun vs H Q E h => absurd h (no vs H Q E), fun A outer s H args us vs Q E _ _ _ _ h => absurd h (no vs H Q E)⟩
theorem cal_mk {x : Str} {f : Addr} {fd : FuncData} {ps : List Str} {sp : Sp} {k : Nat} (G : FnOk P w K mg base CX0 k f fd ps sp) (m : mg x = some (.ref f)) (kp : PySem.W.keepIn K (.ref f) = true) (b : Binds K fd ps []) : C8.Cal P w K mg base k x sp [] :=
  ⟨f, fd, ps, [], G, m, kp, b, .nil⟩
end
set_option maxHeartbeats 0 in
theorem all_mk {l : PySem.W.OpenLaw} {w : World} {K : PySem.W.Frag} {h : Heap} {mg : Str → Option Value} {fa f1 f2 f3 f4 f5 f6 f7 f8 f9 f10 f11 f12 : Addr} (X : K.In h) (G : h.Ns mainGlobals mg) (hfa : mg "law" = some (.ref fa))
    {od1 an1 od2 an2 od3 an3 od4 an4 od5 an5 od6 an6 od7 an7 od8 an8 od9 an9 od10 an10 od11 an11 od12 an12 : Option Addr} {sl1 sl2 sl3 sl4 sl5 sl6 sl7 sl8 sl9 sl10 sl11 sl12 : Array (Option Value)} {oc1 kV1 dc1 pm1 cd1 ct1 oc2 kV2 dc2 pm2 cd2 ct2 oc3 kV3 dc3 pm3 cd3 ct3 oc4 kV4 dc4 pm4 cd4 ct4 oc5 kV5 dc5 pm5 cd5 ct5 oc6 kV6 dc6 pm6 cd6 ct6 oc7 kV7 dc7 pm7 cd7 ct7 oc8 kV8 dc8 pm8 cd8 ct8 oc9 kV9 dc9 pm9 cd9 ct9 oc10 kV10 dc10 pm10 cd10 ct10 oc11 kV11 dc11 pm11 cd11 ct11 oc12 kV12 dc12 pm12 cd12 ct12 : Value}
    (a1 : PySem.W.nsIn K mainGlobals "children" = some (some (.ref f1))) (l1 : K.lookup f1 = some ⟨oc1, od1, .func (PySem.W.fnOf "children" "children" (defArgs s_children) (defBody s_children) (defScope s_children) .none kV1 dc1 pm1 an1 cd1 ct1), sl1⟩) (c1 : PySem.W.codeIn K cd1 "children" = true) (k1 : PySem.W.keepIn K (.ref f1) = true)
    (a2 : PySem.W.nsIn K mainGlobals "_is_long" = some (some (.ref f2))) (l2 : K.lookup f2 = some ⟨oc2, od2, .func (PySem.W.fnOf "_is_long" "_is_long" (defArgs s_is_long) (defBody s_is_long) (defScope s_is_long) .none kV2 dc2 pm2 an2 cd2 ct2), sl2⟩) (c2 : PySem.W.codeIn K cd2 "_is_long" = true) (k2 : PySem.W.keepIn K (.ref f2) = true)
    (a3 : PySem.W.nsIn K mainGlobals "is_large" = some (some (.ref f3))) (l3 : K.lookup f3 = some ⟨oc3, od3, .func (PySem.W.fnOf "is_large" "is_large" (defArgs s_is_large) (defBody s_is_large) (defScope s_is_large) .none kV3 dc3 pm3 an3 cd3 ct3), sl3⟩) (c3 : PySem.W.codeIn K cd3 "is_large" = true) (k3 : PySem.W.keepIn K (.ref f3) = true)
    (a4 : PySem.W.nsIn K mainGlobals "first_state" = some (some (.ref f4))) (l4 : K.lookup f4 = some ⟨oc4, od4, .func (PySem.W.fnOf "first_state" "first_state" (defArgs s_first_state) (defBody s_first_state) (defScope s_first_state) .none kV4 dc4 pm4 an4 cd4 ct4), sl4⟩) (c4 : PySem.W.codeIn K cd4 "first_state" = true) (k4 : PySem.W.keepIn K (.ref f4) = true)
    (a5 : PySem.W.nsIn K mainGlobals "_law_pool" = some (some (.ref f5))) (l5 : K.lookup f5 = some ⟨oc5, od5, .func (PySem.W.fnOf "_law_pool" "_law_pool" (defArgs s_law_pool) (defBody s_law_pool) (defScope s_law_pool) .none kV5 dc5 pm5 an5 cd5 ct5), sl5⟩) (c5 : PySem.W.codeIn K cd5 "_law_pool" = true) (k5 : PySem.W.keepIn K (.ref f5) = true)
    (a6 : PySem.W.nsIn K mainGlobals "_law_take" = some (some (.ref f6))) (l6 : K.lookup f6 = some ⟨oc6, od6, .func (PySem.W.fnOf "_law_take" "_law_take" (defArgs s_law_take) (defBody s_law_take) (defScope s_law_take) .none kV6 dc6 pm6 an6 cd6 ct6), sl6⟩) (c6 : PySem.W.codeIn K cd6 "_law_take" = true) (k6 : PySem.W.keepIn K (.ref f6) = true)
    (a7 : PySem.W.nsIn K mainGlobals "_law_number" = some (some (.ref f7))) (l7 : K.lookup f7 = some ⟨oc7, od7, .func (PySem.W.fnOf "_law_number" "_law_number" (defArgs s_law_number) (defBody s_law_number) (defScope s_law_number) .none kV7 dc7 pm7 an7 cd7 ct7), sl7⟩) (c7 : PySem.W.codeIn K cd7 "_law_number" = true) (k7 : PySem.W.keepIn K (.ref f7) = true)
    (a8 : PySem.W.nsIn K mainGlobals "_law_same" = some (some (.ref f8))) (l8 : K.lookup f8 = some ⟨oc8, od8, .func (PySem.W.fnOf "_law_same" "_law_same" (defArgs s_law_same) (defBody s_law_same) (defScope s_law_same) .none kV8 dc8 pm8 an8 cd8 ct8), sl8⟩) (c8 : PySem.W.codeIn K cd8 "_law_same" = true) (k8 : PySem.W.keepIn K (.ref f8) = true)
    (a9 : PySem.W.nsIn K mainGlobals "_law_great" = some (some (.ref f9))) (l9 : K.lookup f9 = some ⟨oc9, od9, .func (PySem.W.fnOf "_law_great" "_law_great" (defArgs s_law_great) (defBody s_law_great) (defScope s_law_great) .none kV9 dc9 pm9 an9 cd9 ct9), sl9⟩) (c9 : PySem.W.codeIn K cd9 "_law_great" = true) (k9 : PySem.W.keepIn K (.ref f9) = true)
    (a10 : PySem.W.nsIn K mainGlobals "_law_wide" = some (some (.ref f10))) (l10 : K.lookup f10 = some ⟨oc10, od10, .func (PySem.W.fnOf "_law_wide" "_law_wide" (defArgs s_law_wide) (defBody s_law_wide) (defScope s_law_wide) .none kV10 dc10 pm10 an10 cd10 ct10), sl10⟩) (c10 : PySem.W.codeIn K cd10 "_law_wide" = true) (k10 : PySem.W.keepIn K (.ref f10) = true)
    (a11 : PySem.W.nsIn K mainGlobals "_law_sizes" = some (some (.ref f11))) (l11 : K.lookup f11 = some ⟨oc11, od11, .func (PySem.W.fnOf "_law_sizes" "_law_sizes" (defArgs s_law_sizes) (defBody s_law_sizes) (defScope s_law_sizes) .none kV11 dc11 pm11 an11 cd11 ct11), sl11⟩) (c11 : PySem.W.codeIn K cd11 "_law_sizes" = true) (k11 : PySem.W.keepIn K (.ref f11) = true)
    (a12 : PySem.W.nsIn K mainGlobals "law" = some (some (.ref f12))) (l12 : K.lookup f12 = some ⟨oc12, od12, .func (PySem.W.fnOf "law" "law" (defArgs s_law) (defBody s_law) (defScope s_law) .none kV12 dc12 pm12 an12 cd12 ct12), sl12⟩) (c12 : PySem.W.codeIn K cd12 "law" = true) (k12 : PySem.W.keepIn K (.ref f12) = true)
    (z_len : PySem.W.nsIn K mainGlobals "len" = some none) (z_int : PySem.W.nsIn K mainGlobals "int" = some none) (z_range : PySem.W.nsIn K mainGlobals "range" = some none) (z_min : PySem.W.nsIn K mainGlobals "min" = some none) (z_str : PySem.W.nsIn K mainGlobals "str" = some none) (z_tuple : PySem.W.nsIn K mainGlobals "tuple" = some none) (z_sorted : PySem.W.nsIn K mainGlobals "sorted" = some none) (z_isinstance : PySem.W.nsIn K mainGlobals "isinstance" = some none) (z_any : PySem.W.nsIn K mainGlobals "any" = some none) (z_all : PySem.W.nsIn K mainGlobals "all" = some none) (z_list : PySem.W.nsIn K mainGlobals "list" = some none) (z_bool : PySem.W.nsIn K mainGlobals "bool" = some none) (z_abs : PySem.W.nsIn K mainGlobals "abs" = some none) (z_sum : PySem.W.nsIn K mainGlobals "sum" = some none) (z_max : PySem.W.nsIn K mainGlobals "max" = some none)
    {ti0 : Tok} (gi0 : PySem.W.nsIn K mainGlobals "MOST_TERMS" = some (some (.int 400 ti0)))
    {ti1 : Tok} (gi1 : PySem.W.nsIn K mainGlobals "MOST_NESTED" = some (some (.int 100 ti1)))
    {ti2 : Tok} (gi2 : PySem.W.nsIn K mainGlobals "_FIRST_LONG" = some (some (.int 1000000000000000 ti2)))
    {aF : Addr} {odaF : Option Addr} {naF : Nat} {slaF : Array (Option Value)} {uaF0 uaF1 uaF2 uaF3 : Tok} (gtaF : PySem.W.nsIn K mainGlobals "_FORMS" = some (some (.ref aF))) (ltaF : K.lookup aF = some ⟨.type "tuple", odaF, .seq #[.str "get" uaF0, .str "set" uaF1, .str "plus" uaF2, .str "minus" uaF3] naF, slaF⟩) :
    ∃ fd : FuncData, (∀ (s : Shared) (v : Value), BindsTo s fd ⟨[v], []⟩ [("script", v)]) ∧ ∀ base : Heap, K.In base → base.Ns mainGlobals mg → FnOk l.prog w K mg base CX0 11 fa fd ["script"] (spLaw K) := by
  have e := hfa.symm.trans (PySem.W.mg_of X G a12)
  cases e
  have F1 := fun_mk (st := s_children) l1 c1 k1
  have b1 := F1.binds (ps := ["term"]) fun _ _ _ _ _ _ us hl => match us, hl with | [_], _ => rfl
  have m1 := PySem.W.mg_of X G a1
  have F2 := fun_mk (st := s_is_long) l2 c2 k2
  have b2 := F2.binds (ps := ["number"]) fun _ _ _ _ _ _ us hl => match us, hl with | [_], _ => rfl
  have m2 := PySem.W.mg_of X G a2
  have F3 := fun_mk (st := s_is_large) l3 c3 k3
  have b3 := F3.binds (ps := ["state"]) fun _ _ _ _ _ _ us hl => match us, hl with | [_], _ => rfl
  have m3 := PySem.W.mg_of X G a3
  have F4 := fun_mk (st := s_first_state) l4 c4 k4
  have b4 := F4.binds (ps := ["program"]) fun _ _ _ _ _ _ us hl => match us, hl with | [_], _ => rfl
  have m4 := PySem.W.mg_of X G a4
  have F5 := fun_mk (st := s_law_pool) l5 c5 k5
  have b5 := F5.binds (ps := ["script"]) fun _ _ _ _ _ _ us hl => match us, hl with | [_], _ => rfl
  have m5 := PySem.W.mg_of X G a5
  have F6 := fun_mk (st := s_law_take) l6 c6 k6
  have b6 := F6.binds (ps := ["pool", "many"]) fun _ _ _ _ _ _ us hl => match us, hl with | [_, _], _ => rfl
  have m6 := PySem.W.mg_of X G a6
  have F7 := fun_mk (st := s_law_number) l7 c7 k7
  have b7 := F7.binds (ps := ["pool"]) fun _ _ _ _ _ _ us hl => match us, hl with | [_], _ => rfl
  have m7 := PySem.W.mg_of X G a7
  have F8 := fun_mk (st := s_law_same) l8 c8 k8
  have b8 := F8.binds (ps := ["actual", "due"]) fun _ _ _ _ _ _ us hl => match us, hl with | [_, _], _ => rfl
  have m8 := PySem.W.mg_of X G a8
  have F9 := fun_mk (st := s_law_great) l9 c9 k9
  have b9 := F9.binds (ps := ["pool"]) fun _ _ _ _ _ _ us hl => match us, hl with | [_], _ => rfl
  have m9 := PySem.W.mg_of X G a9
  have F10 := fun_mk (st := s_law_wide) l10 c10 k10
  have b10 := F10.binds (ps := ["many", "numbers"]) fun _ _ _ _ _ _ us hl => match us, hl with | [_, _], _ => rfl
  have m10 := PySem.W.mg_of X G a10
  have F11 := fun_mk (st := s_law_sizes) l11 c11 k11
  have b11 := F11.binds (ps := ["pool", "count"]) fun _ _ _ _ _ _ us hl => match us, hl with | [_, _], _ => rfl
  have m11 := PySem.W.mg_of X G a11
  have F12 := fun_mk (st := s_law) l12 c12 k12
  have y_len := PySem.W.mg_none_of X G z_len
  have y_int := PySem.W.mg_none_of X G z_int
  have y_range := PySem.W.mg_none_of X G z_range
  have y_min := PySem.W.mg_none_of X G z_min
  have y_str := PySem.W.mg_none_of X G z_str
  have y_tuple := PySem.W.mg_none_of X G z_tuple
  have y_sorted := PySem.W.mg_none_of X G z_sorted
  have y_isinstance := PySem.W.mg_none_of X G z_isinstance
  have y_any := PySem.W.mg_none_of X G z_any
  have y_all := PySem.W.mg_none_of X G z_all
  have y_list := PySem.W.mg_none_of X G z_list
  have y_bool := PySem.W.mg_none_of X G z_bool
  have y_abs := PySem.W.mg_none_of X G z_abs
  have y_sum := PySem.W.mg_none_of X G z_sum
  have y_max := PySem.W.mg_none_of X G z_max
  have yi0 : ∃ t, mg _ = some (.int _ t) := ⟨_, PySem.W.mg_of X G gi0⟩
  have yi1 : ∃ t, mg _ = some (.int _ t) := ⟨_, PySem.W.mg_of X G gi1⟩
  have yi2 : ∃ t, mg _ = some (.int _ t) := ⟨_, PySem.W.mg_of X G gi2⟩
  have ytaF := PySem.W.mg_of X G gtaF
  have yqaF : ∀ H, SqT K H aF [V.str "get", V.str "set", V.str "plus", V.str "minus"] := fun H => .inr ⟨_, _, _, ltaF, rfl, rfl, small (by show 4 ≤ _; decide), .cons ⟨_, rfl⟩ (.cons ⟨_, rfl⟩ (.cons ⟨_, rfl⟩ (.cons ⟨_, rfl⟩ (.nil))))⟩
  refine ⟨PySem.W.fnOf "law" "law" (defArgs s_law) (defBody s_law) (defScope s_law) .none kV12 dc12 pm12 an12 cd12 ct12, fun s v => .of_eq rfl, fun base _ _ => ?_⟩
  have T : Txt K mg := ⟨y_len, y_int, y_range, y_min, y_str, y_tuple, y_sorted, y_isinstance, y_any, y_all, y_list, y_bool⟩
  have TL : TxtL K mg aF := ⟨⟨T, ytaF, yqaF⟩, yi0, yi1, yi2, y_abs, y_sum, y_max⟩
  have take0 : C8.Cal l.prog w K mg base 0 "_law_take" (spTake 0) [] := cal_mk (none_ok (fun vs H Q E h => by obtain ⟨_, _, _, _, _, _, _, _, h, _⟩ := h; omega)) m6 k6 b6
  have take1 : C8.Cal l.prog w K mg base 1 "_law_take" (spTake 1) [] := cal_mk (ok_take F6 T take0) m6 k6 b6
  have take : C8.Cal l.prog w K mg base 2 "_law_take" (spTake 2) [] := cal_mk (ok_take F6 T take1) m6 k6 b6
  have pool : C8.Cal l.prog w K mg base 1 "_law_pool" (spPool K) [] := cal_mk (ok_pool F5) m5 k5 b5
  have number : C8.Cal l.prog w K mg base 3 "_law_number" (spNum) [] := cal_mk (ok_number F7 take) m7 k7 b7
  have great : C8.Cal l.prog w K mg base 3 "_law_great" (spGreat) [] := cal_mk (ok_great F9 take) m9 k9 b9
  have wide : C8.Cal l.prog w K mg base 1 "_law_wide" (spWide K) [] := cal_mk (ok_wide F10 TL) m10 k10 b10
  have sizes : C8.Cal l.prog w K mg base 3 "_law_sizes" (spSizes K) [] := cal_mk (ok_sizes F11 TL take) m11 k11 b11
  have kids : C8.Cal l.prog w K mg base 1 "children" (spKids K) [] := cal_mk (ok_kids F1 TL.toTxtT) m1 k1 b1
  have long : C8.Cal l.prog w K mg base 1 "_is_long" (spLong) [] := cal_mk (ok_long F2 TL) m2 k2 b2
  have large : C8.Cal l.prog w K mg base 2 "is_large" (spLarge K) [] := cal_mk (ok_large F3 TL long kids) m3 k3 b3
  have first : C8.Cal l.prog w K mg base 1 "first_state" (spFirst K) [] := cal_mk (ok_first F4) m4 k4 b4
  have sames : ∀ n : Nat, C8.Cal l.prog w K mg base (n) "_law_same" (spSame K n) [] := fun n => by
    induction n with
    | zero => exact cal_mk (none_ok (fun vs H Q E h => by obtain ⟨_, _, _, _, _, _, h, _⟩ := h; omega)) m8 k8 b8
    | succ n ih => exact cal_mk (ok_same F8 T ih) m8 k8 b8
  exact ok_law F12 TL pool take number great wide sizes large first (sames 10)
theorem walk {l : PySem.W.OpenLaw} {q : Program} {loose : List Str} {XP : (Str → Option Value) → Heap → Prop} {YP : World → Heap → Prop} {d : DefRec} {K : Params → PySem.W.Frag} (hn : l.most = some 63) (hdf : d.params.defaults = [])
    (hY : ∀ (w : World) (h : Heap), YP w h → (K w.params).In h)
    (F : ∀ (w : World) (mg : Str → Option Value) (fa : Addr) (h : Heap), (K w.params).In h → h.Ns mainGlobals mg → mg d.name = some (.ref fa) →
      ∃ fd : FuncData, (∀ (s : Shared) (u : Value), BindsTo s fd ⟨[u], []⟩ [("script", u)]) ∧ ∀ base : Heap, (K w.params).In base → base.Ns mainGlobals mg → FnOk l.prog w (K w.params) mg base CX0 11 fa fd ["script"] (spLaw (K w.params))) :
    PySem.W.WalkO q loose XP YP l.row.toRowW d [] (fun f vs => PySem.call f vs) :=
  L2.walk_of (n := 63) (k := 11) (x := "script") (CX := fun _ => CX0) (sp := fun w => spLaw (K w.params)) hn (by decide) hdf ⟨rfl, by decide, by decide⟩ hY F (fun _ _ a ns hl _ hS => ⟨a, ns, rfl, hS, hl, fun _ => rfl⟩) fun _ _ _ _ _ z => z
end PK
open PySem PySem.W PyProof.Rows in
set_option maxRecDepth 100000 in
set_option maxHeartbeats 0 in
theorem PySem.Challenge.cw_passproven_k17_large_states_holds : PySem.Challenge.rw_passproven_k17_large_states.Holds := by
  w_on; o_law; k_head; (case hw => w_witness2)
  k_fill
  refine PK.walk (l := PySem.Challenge.rw_passproven_k17_large_states) rfl rfl (fun w h Y => PySem.W.kIn_of Y) ?F
  case F =>
    intro w mg fa h KX G hmg
    refine' PK.all_mk KX G hmg ?a1 ?l1 ?c1 ?k1 ?a2 ?l2 ?c2 ?k2 ?a3 ?l3 ?c3 ?k3 ?a4 ?l4 ?c4 ?k4 ?a5 ?l5 ?c5 ?k5 ?a6 ?l6 ?c6 ?k6 ?a7 ?l7 ?c7 ?k7 ?a8 ?l8 ?c8 ?k8 ?a9 ?l9 ?c9 ?k9 ?a10 ?l10 ?c10 ?k10 ?a11 ?l11 ?c11 ?k11 ?a12 ?l12 ?c12 ?k12 ?z_len ?z_int ?z_range ?z_min ?z_str ?z_tuple ?z_sorted ?z_isinstance ?z_any ?z_all ?z_list ?z_bool ?z_abs ?z_sum ?z_max ?gi0 ?gi1 ?gi2 ?gtaF ?ltaF
    (case a1 => k_is)
    (case l1 => k_is)
    (case c1 => k_is)
    (case k1 => k_is)
    (case a2 => k_is)
    (case l2 => k_is)
    (case c2 => k_is)
    (case k2 => k_is)
    (case a3 => k_is)
    (case l3 => k_is)
    (case c3 => k_is)
    (case k3 => k_is)
    (case a4 => k_is)
    (case l4 => k_is)
    (case c4 => k_is)
    (case k4 => k_is)
    (case a5 => k_is)
    (case l5 => k_is)
    (case c5 => k_is)
    (case k5 => k_is)
    (case a6 => k_is)
    (case l6 => k_is)
    (case c6 => k_is)
    (case k6 => k_is)
    (case a7 => k_is)
    (case l7 => k_is)
    (case c7 => k_is)
    (case k7 => k_is)
    (case a8 => k_is)
    (case l8 => k_is)
    (case c8 => k_is)
    (case k8 => k_is)
    (case a9 => k_is)
    (case l9 => k_is)
    (case c9 => k_is)
    (case k9 => k_is)
    (case a10 => k_is)
    (case l10 => k_is)
    (case c10 => k_is)
    (case k10 => k_is)
    (case a11 => k_is)
    (case l11 => k_is)
    (case c11 => k_is)
    (case k11 => k_is)
    (case a12 => k_is)
    (case l12 => k_is)
    (case c12 => k_is)
    (case k12 => k_is)
    (case z_len => k_is)
    (case z_int => k_is)
    (case z_range => k_is)
    (case z_min => k_is)
    (case z_str => k_is)
    (case z_tuple => k_is)
    (case z_sorted => k_is)
    (case z_isinstance => k_is)
    (case z_any => k_is)
    (case z_all => k_is)
    (case z_list => k_is)
    (case z_bool => k_is)
    (case z_abs => k_is)
    (case z_sum => k_is)
    (case z_max => k_is)
    (case gi0 => k_is)
    (case gi1 => k_is)
    (case gi2 => k_is)
    (case gtaF => k_is)
    (case ltaF => k_is)
#print axioms PySem.Challenge.cw_passproven_k17_large_states_holds
