import PyProof.Rows.All
import Wide.All
import OpenK.AllK
import Wide.FinOn
import HandS.ForMost
import HandS.Wide
import HandS.IsInst
import HandS.More
import HandS.Conv
import HandS.Codes
import HandS.ForExc
import HandS.ExcInit
import HandS.ExcField
import HandS.TryMany
import KE.GoesEnum
import KE.KExcIs
import HandS.ExcIs
import KE.KxText
import HandS.Walk
import HandS.Text
import PySem.Challenge.RW_passproven_k09_constructors_refused
set_option Elab.async false
set_option linter.all false
set_option maxRecDepth 100000
namespace PKR
open PySem L2
/-! ### one of two walks, as it comes -/
theorem pi_or {X : Cx} {tg iter : Expr} {w1 w2 : TI} (a : PI X tg iter w1) (b : PI X tg iter w2) : PI X tg iter (fun σ H R => w1 σ H R ∨ w2 σ H R) :=
  ⟨fun pins s σ H R I h => h.elim (a.run pins s σ H R I) (b.run pins s σ H R I)⟩
/-! ### enumerate over a tuple -/
set_option maxHeartbeats 2000000 in
theorem meets_enum_any {v : Value} {o : Obj} {Hh : Heap → Prop} (B : Begins v o Hh) :
    Meets (Builtin.«enumerate.__new__» ⟨[.type "enumerate", v], []⟩) (fun _ R s => Hh s.heap ∧
      R (.ok (.ret (.ref (s.heap.push o).objs.size))) { s with heap := (s.heap.push o).push { cls := .type "enumerate", data := .fields #[.none, .bool false, .ref s.heap.objs.size, rawInt 0, .none, .none] } }) := by
  refine .of_wp fun prog w A R s h => ?_
  obtain ⟨hp, g, d, tk, os⟩ := s
  obtain ⟨hH, hR⟩ := h
  have sub_e := sub_enumerate
  have it_v : ∀ {A' : Around} {E Q : Value → Shared → Prop}, Q (.ref hp.objs.size) ⟨hp.push o, g, d, tk, os⟩ → wpAny (model prog w) A' (pyIter v) Q E ⟨hp, g, d, tk, os⟩ := fun z => B.iter prog w _ _ ⟨hp, g, d, tk, os⟩ _ hH z
  wp_walk using it_v
  refine wpAny_stack_any fun st => wpAny_pure ?_
  split
  · rename_i c _ _ _ _ _
    cases (c == Value.type "enumerate") <;> (wp_walk using it_v; exact ⟨_, rfl, hR⟩)
  · wp_walk using it_v
    exact ⟨_, rfl, hR⟩
theorem call_enum_any {prog : Program} {w : World} {A : Around} {E : Value → Shared → Prop} {s : Shared} {v : Value} {o : Obj} {Hh : Heap → Prop} {Q : Value → Shared → Prop} (B : Begins v o Hh) (hH : Hh s.heap)
    (hq : ∀ h', IsEnum h' (s.heap.objs.size + 1) s.heap.objs.size 0 .none → h'.get? s.heap.objs.size = some o → (∀ b u, s.heap.get? b = some u → h'.get? b = some u) → Q (.ref (s.heap.objs.size + 1)) { s with heap := h' }) :
    wpAny (model prog w) A (call (.type "enumerate") [v]) Q E s := by
  refine callType_new F.called_enumerate (by decide) (F.typeCall_enumerate_1 _) (F.newCall_enumerate_1 _) (fun obj => F.args_object_init_2 obj _) F.entry_enumerate_new (meets_enum_any B) ⟨hH, ?_⟩
  have sz : (s.heap.push o).objs.size = s.heap.objs.size + 1 := Heap.size_push ..
  show _ ∧ _
  rw [sz]
  have en : IsEnum ((s.heap.push o).push { cls := .type "enumerate", data := .fields #[.none, .bool false, .ref s.heap.objs.size, rawInt 0, .none, .none] }) (s.heap.objs.size + 1) s.heap.objs.size 0 .none := by
    have g := Heap.get?_push_size (s.heap.push o) (o := { cls := .type "enumerate", data := .fields #[.none, .bool false, .ref s.heap.objs.size, rawInt 0, .none, .none] }) rfl
    rw [sz] at g
    exact g
  exact ⟨⟨_, en, rfl⟩, hq _ en (Heap.get?_push_of_some _ (Heap.get?_push_size _ B.free)) fun b u z => Heap.get?_push_of_some _ (Heap.get?_push_of_some _ z)⟩
/-- the tuple at a, each item in a new pair with its number -/
def ItE (K : PySem.W.Frag) (a : Addr) : It :=
  ⟨fun i H => ∃ (xs : List V) (x : V), SqT K H a xs ∧ xs[i]? = some x, fun i H v H' => ∃ T x, v = .ref T ∧ H T = none ∧ H' = upd H T (.tup [.int (i : Nat), x]) ∧ ∀ xs, SqT K H a xs → xs[i]? = some x, fun i H => ∃ xs : List V, SqT K H a xs ∧ xs.length = i⟩
theorem pair_mem {b e it : Addr} (h : b ∈ [e, it]) : b = e ∨ b = it := by simpa using h
theorem turn_enumT {P : Program} {w : World} {K : PySem.W.Frag} {es : List Expr} {k : Nat} {pos : Pos} (a e it : Addr) :
    Turn P w K (.Tuple es k pos) (ItE K a) [e, it] e (fun i h => (∃ old, IsEnum h e it ((i : Nat) : Int) old) ∧ h.IsTupleIter it a i ∧ e ≠ it ∧ a ≠ it ∧ e ≠ a) where
  mem := List.mem_cons_self
  obj := fun i h st b hb => by
    obtain ⟨⟨old, he⟩, ⟨o, ho, _, hd⟩, _⟩ := st
    rcases pair_mem hb with rfl | rfl
    · exact ⟨_, he, fun v q => nomatch q⟩
    · exact ⟨o, ho, fun v q => by rw [hd] at q; cases q⟩
  keep := fun i h h' st k => by
    obtain ⟨⟨old, he⟩, hi, ne⟩ := st
    exact ⟨⟨old, k e List.mem_cons_self _ he⟩, hi.at fun o q => k it (List.mem_cons_of_mem _ List.mem_cons_self) o q, ne⟩
  item := by
    intro X eP ew eK calm i pins s σ H E I free st go
    subst eP ew eK
    obtain ⟨⟨old, he⟩, hi, ne, na, nea⟩ := st
    obtain ⟨xs, x, hx, gx⟩ := go
    obtain ⟨its, rv, pT, _⟩ := I.tuple hx
    obtain ⟨u, gu, ru⟩ := rv.get gx
    have hh : X.A.handled = none := I.ok.hd calm
    have D := Draws.tuple (prog := X.prog) (w := X.w) (A := X.A.in1) hh it a na its.toArray
    have lt : i < its.toArray.size := by
      have := (List.getElem?_eq_some_iff.mp gu).1
      simpa using this
    have be := Heap.lt_size he
    have bi : it < s.heap.objs.size := by obtain ⟨_, q, _⟩ := hi; exact Heap.lt_size q
    refine wpAny_pyNext_enum_itemD D he ⟨hi, show s.heap.IsTuple a its.toArray from pT⟩ lt ne (fun m => (pair_mem m).elim ne nea) fun y h1 tk hy out st1 hT _ old1 => ?_
    have ey : y = u := by
      have : its.toArray[i]? = some u := by simpa using gu
      rw [hy] at this
      exact Option.some.inj this
    subst ey
    refine ⟨_, rfl, wpAny_letOwnedTupleGo_enum (s := { s with heap := h1, toks := tk + 1 }) out fun h2 en sb => ?_⟩
    have hT2 := (sb.2 _ (Nat.ne_of_gt be)).trans hT
    have obj : ObjOk X.prog X.w (upd H s.heap.objs.size (.tup [.int (i : Nat), x])) h2 s.heap.objs.size (.tup [.int (i : Nat), x]) :=
      ⟨by show 2 ≤ sizeLine; decide, [.int i tk, y], .cons ⟨_, rfl⟩ (.cons ru .nil), ⟨_, hT2, rfl, _, rfl⟩⟩
    have J : Inv X pins σ (upd H s.heap.objs.size (.tup [.int (i : Nat), x])) { s with heap := h2, toks := tk + 1 } :=
      I.turnedNew (ch := [e, it]) (fun b ob nb q => by
        have n1 : b ≠ e := fun z => nb (by rw [z]; exact List.mem_cons_self)
        have n2 : b ≠ it := fun z => nb (by rw [z]; exact List.mem_cons_of_mem _ List.mem_cons_self)
        exact (sb.2 b n1).trans (old1 b ob n1 n2 q)) free (Nat.le_refl _) obj
    refine ⟨.ref s.heap.objs.size, _, J, rfl, ⟨_, x, rfl, I.hok.fresh (Nat.le_refl _), rfl, fun ys hy' => by rw [I.tuple_inj hy' hx]; exact gx⟩, ⟨⟨y, ?_⟩, st1.1.at fun o q => (sb.2 it ne.symm).trans q, ne, na, nea⟩, fun b hb => ?_⟩
    · rw [show ((i + 1 : Nat) : Int) = (i : Int) + 1 by omega]
      exact en
    · have lb : b < s.heap.objs.size := by
        rcases pair_mem hb with rfl | rfl
        · exact be
        · exact bi
      rw [upd_ne (Nat.ne_of_lt lb)]
      exact (free b hb).1
  done := by
    intro X eP ew eK calm i pins s σ H E I free st stop
    subst eP ew eK
    obtain ⟨⟨old, he⟩, hi, ne, na, nea⟩ := st
    obtain ⟨xs, hx, lx⟩ := stop
    obtain ⟨its, rv, pT, _⟩ := I.tuple hx
    have hh : X.A.handled = none := I.ok.hd calm
    have D := Draws.tuple (prog := X.prog) (w := X.w) (A := X.A.in1) hh it a na its.toArray
    have ei : its.toArray.size = i := by rw [List.size_toArray, ← rv.length, lx]
    obtain ⟨f0, f1, f2, f3, f4, f5⟩ := free it (List.mem_cons_of_mem _ List.mem_cons_self)
    exact wpAny_pyNext_enum_endD D he ⟨by rw [ei]; exact hi, show s.heap.IsTuple a its.toArray from pT⟩ fun h2 old1 => ⟨rfl, I.turned (t' := s.toks) (fun b o nb q => old1 b o nb q) f0 f1 f3 f4 f5⟩
  self := fun A i s Q E st h => by
    obtain ⟨⟨_, he⟩, _⟩ := st
    exact wpAny_pyIter_enum he h
def iEnumT (K : PySem.W.Frag) (ta : TA) : TI := fun σ H R => ta σ H fun vs H1 => ∃ a xs, vs = [.ref a] ∧ SqT K H1 a xs ∧ R (ItE K a) H1
theorem pi_enumT {X : Cx} {e : Expr} {ta : TA} {p pos tpos : Pos} {es : List Expr} {k : Nat} (hg : Gl X "enumerate") (hm : X.mg "enumerate" = none) (ha : PA X [e] ta) (hs : starEach [e] X.env = [(false, eval e X.env)] := by rfl) :
    PI X (.Tuple es k tpos) (.Call (.Name "enumerate" p) [e] [] pos) (iEnumT X.K ta) := by
  refine ⟨fun pins s σ H R I h => PyProof.Rows.Call_ (ld_blt I hg hm PyProof.Rows.boot_enumerate (PyProof.Rows.callWith_type1 (thn (ha.run pos pins s σ H _ I h) fun us s1 hz => ?_) hs rfl))⟩
  obtain ⟨vs, H1, I1, rs, a, xs, rfl, hx, q⟩ := hz
  cases rs with
  | cons r rest =>
    cases rest
    cases r
    obtain ⟨its, rv, pT, _⟩ := I1.tuple hx
    have la : a < s1.heap.objs.size := pT.lt
    refine call_enum_any (begins_tuple a its.toArray) (show s1.heap.IsTuple a its.toArray from pT) fun h2 en gi old => wpAny_pyIter_enum en ?_
    have J : Inv X pins σ H1 { s1 with heap := h2 } := I1.kept (t' := s1.toks) old
    have na : a ≠ s1.heap.objs.size := Nat.ne_of_lt la
    have nea : s1.heap.objs.size + 1 ≠ a := Nat.ne_of_gt (Nat.lt_succ_of_lt la)
    refine ⟨_, [s1.heap.objs.size + 1, s1.heap.objs.size], _, _, H1, rfl, J, turn_enumT a (s1.heap.objs.size + 1) s1.heap.objs.size, ⟨⟨.none, en⟩, ⟨_, gi, rfl, rfl⟩, Nat.succ_ne_self _, na, nea⟩, fun b hb => ?_, q⟩
    have lb : s1.heap.objs.size ≤ b := by
      rcases pair_mem hb with rfl | rfl
      · exact Nat.le_succ _
      · exact Nat.le_refl _
    exact I1.fpOk lb (I1.hok.fresh lb)
/-! ### an empty tuple and another one -/
def rCat0 (K : PySem.W.Frag) : R2 := fun x y H Q => ∃ a b ys, x = .ref a ∧ y = .ref b ∧ SqT K H a [] ∧ SqT K H b ys ∧ Q (.ref b) H
theorem op_cat0 {X : Cx} : OpR X (binaryOp .Add) (rCat0 X.K) := by
  intro pins s σ H x y v u Q I rx ry h
  obtain ⟨a, b, ys, rfl, rfl, ha, hb, q⟩ := h
  cases rx
  cases ry
  obtain ⟨i1, r1, p1, _⟩ := I.tuple ha
  obtain ⟨i2, r2, p2, _⟩ := I.tuple hb
  cases r1
  obtain ⟨⟨c1, d1, t1, l1⟩, g1, e1, n1, f1⟩ := id p1
  obtain ⟨⟨c2, d2, t2, l2⟩, g2, e2, n2, f2⟩ := id p2
  simp only at e1 f1 e2 f2
  subst e1 f1 e2 f2
  exact PySem.concat_meets ⟨_, g1, rfl⟩ ⟨_, g2, rfl⟩ PySem.noFill_tuple_add PySem.seq_tuple_add PySem.F.slot_tuple_add PySem.F.entry_tuple_add (PySem.F.args_tuple_add_2 _ _)
    (PyProof.Rows.tuple_addW0 a b #[] i2.toArray n1 n2 d1 d2 l1 l2 rfl) ⟨g1, g2, ⟨.ref b, H, I, rfl, q⟩⟩
/-- t + u -/
def rCatA (K : PySem.W.Frag) : R2 := fun x y H Q => rCatT K x y H Q ∨ rCat0 K x y H Q
theorem op_catA {X : Cx} : OpR X (binaryOp .Add) (rCatA X.K) := op_catT.or op_cat0
end PKR
/-! a try with several clauses 'except X as n', every one with its own suite -/
namespace L2.PKR
open PySem PySem.Spec PyProof.Rows
abbrev Suite := Addr → Value → Option Addr → TS
/-- the ends of a suite whose name is given back -/
def offEnds (i : Nat) (D : Ends) : Ends := ⟨fun p q => D.nx (p.set i none) q, D.rt, fun p q => D.bk (p.set i none) q, fun p q => D.ct (p.set i none) q⟩
/-- the wish of the clauses, in their order -/
def wRow (K : PySem.W.Frag) (Wout : WX) (D : Ends) : List (Value × Nat × Suite) → WX
  | [] => Wout
  | (c, i, ts) :: rest => fun cls d σ H =>
    ∃ yes, PySem.W.exmOne K cls c = some yes ∧ (yes = true → ∀ a, H a = none → ts a cls d (offEnds i D) (σ.set i (some (.ref a))) H) ∧ (yes = false → wRow K Wout D rest cls d σ H)
/-- the exception at a, caught and on the ground -/
structure Down (X : Cx) (pins : List (Addr × Obj)) (B : Heap) (a : Addr) (before : Shared) (σ : St) (H : Hp) (cls : Value) (d : Option Addr) (s : Shared) : Prop where
  inv : Inv X pins σ H before
  base : ∀ b o, before.heap.get? b = some o → b ∉ frs X.stack → B.get? b = some o
  slots : before.heap.UpToSlots s.heap
  fly : HandSPX.FlyingZ B (X.env :: X.outer) a (Zc cls d) s.heap
  out : H a = none
  os : s.os = before.os
  bare : AllBare s.gens
section
variable {X : Cx} {pins : List (Addr × Obj)} {B : Heap} {a : Addr} {before s : Shared} {σ : St} {H : Hp} {cls : Value} {d : Option Addr} {D : Ends} {Wout : WX}
theorem Down.here (z : Down X pins B a before σ H cls d s) : Inv X pins σ H s := z.inv.landed z.base z.fly.1 z.slots z.os z.bare
/-- its object, and that it is none of the frames' -/
theorem Down.obj (hf : X.env.frame = some X.env.locals) (z : Down X pins B a before σ H cls d s) : ∃ oe vs, s.heap.get? a = some oe ∧ Zc cls d oe ∧ oe.data = .fields vs ∧ a ≠ X.env.locals ∧ a ∉ X.fs := by
  obtain ⟨oe, vs, he, hz, hd⟩ := z.fly.there
  have nfr : a ∉ frs (X.env :: X.outer) := fun hm => by
    obtain ⟨_, o2, e2, no⟩ := z.fly.2.2.1.mem hm
    rw [he] at e2
    cases e2
    exact no _ hd
  refine ⟨oe, vs, he, hz, hd, fun q => nfr (List.mem_filterMap.mpr ⟨X.env, .head _, by rw [hf, q]⟩), fun q => ?_⟩
  obtain ⟨en, m, r⟩ := List.mem_filterMap.mp q
  exact nfr (List.mem_filterMap.mpr ⟨en, .tail _ m, r⟩)
theorem Down.more (z : Down X pins B a before σ H cls d s) {h : Heap} (fl : HandSPX.FlyingZ B (X.env :: X.outer) a (Zc cls d) h) (up : s.heap.UpToSlots h) : Down X pins B a before σ H cls d { s with heap := h } :=
  ⟨z.inv, z.base, z.slots.trans up, fl, z.out, z.os, z.bare⟩
/-- no clause is left -/
theorem row_nil (hs : X.stack = X.env :: X.outer) (hf : X.env.frame = some X.env.locals) (tk : Takes X Wout) (z : Down X pins B a before σ H cls d s) (w : Wout cls d σ H) :
    wpAny (model X.prog X.w) X.A (handleBy (.ref a) X.env []) (SP X pins D) X.xe s := by
  refine wpAny_handleBy_nil ?_
  obtain ⟨_, _, _, oe, vs, T, _, _, he, _, hd, h1, _⟩ := id z.fly
  unfold PySem.passOn
  refine wpAny_bind (wpAny_field he hd h1 ?_)
  rw [if_neg (show ¬ ((Value.ref T == Value.none) = true) by simp)]
  have last : wpAny (model X.prog X.w) X.A (setFlight (.ref a) X.env.frame) (fun _ s2 => wpAny (model X.prog X.w) X.A (throw (.ref a) : Sem Flow) (SP X pins D) X.xe s2) X.xe s := by
    rw [hf]
    refine HandSPX.setFlight_upZ z.fly fun h2 held up => wpAny_throw (tk _ _ ?_)
    exact ⟨a, B, before, pins, σ, H, cls, d, rfl, z.inv, z.base, z.slots.trans up, .inr (.inr (by rw [hs]; exact held)), z.out, z.os, z.bare, w⟩
  first
    | exact wpAny_bind (wpAny_pure (wpAny_bind last))
    | exact wpAny_bind last
/-- one clause -/
theorem row_cons {x n : Str} {c : Value} {i : Nat} {b₀ : Stmt} {more : List Stmt} {np pos : Pos} {ts : Suite} {hds : List ExceptHandler} {yes : Bool} (hf : X.env.frame = some X.env.locals) (hN : X.N.Nodup) (hi : X.N[i]? = some n)
    (hl : X.env.kindOf n = some .local) (hc : Names X x c)
    (body : ∀ (a : Addr) (oe : Obj) (cls : Value) (d : Option Addr) (pn : List (Addr × Obj)), Zc cls d oe → (∃ vs, oe.data = .fields vs) → PSs (X.suite a ((a, oe) :: pn)) (b₀ :: more) (ts a cls d))
    (z : Down X pins B a before σ H cls d s) (hy : PySem.W.exmOne X.K cls c = some yes) (t : yes = true → ts a cls d (offEnds i D) (σ.set i (some (.ref a))) H)
    (f : yes = false → wpAny (model X.prog X.w) X.A (handleBy (.ref a) X.env hds) (SP X pins D) X.xe s) :
    wpAny (model X.prog X.w) X.A (handleBy (.ref a) X.env (.ExceptHandler (some (.Name x np)) (some n) (b₀ :: more) pos :: hds)) (SP X pins D) X.xe s := by
  have ok := z.inv.ok
  obtain ⟨oe, vs, he, hz, hd, nL, nF⟩ := z.obj hf
  have S := z.here.suite he hd z.out nL nF
  refine wpAny_handleBy_cons (codeAny_handlers_test ?_) (fun q => nomatch q)
  have ty : PySem.W.Looks (model X.prog X.w) s.heap (typeOf (.ref a)) cls := fun _ _ _ _ k q => wpAny_typeOf_ref (k _ _ he) (by rw [hz.1]; exact q)
  have isIt := PySem.W.exm_one (M := model X.prog X.w) z.here.kIn ty hy
  have named : ∀ {Q E : Value → Shared → Prop}, Q c s → wpAny (model X.prog X.w) (X.A.mark (some (.ref a))) (eval (.Name x np) X.env) Q E s := fun {Q E} q => by
    obtain ⟨hg, nd, hm | ⟨hm, hv, hn⟩⟩ := hc
    · exact ld_glob (X := X.suite a ((a, oe) :: (X.pn ++ pins))) S hg hm q nd
    · exact ld_blt (X := X.suite a ((a, oe) :: (X.pn ++ pins))) S hg hm hv q hn nd
  refine named (isIt.here ?_)
  cases yes with
  | false => exact f rfl
  | true =>
    refine codeAny_handlers_suite_as (HandSPX.lands_againZ z.fly fun h2 fl up => ?_)
    have z2 := z.more fl up
    obtain ⟨oe2, vs2, he2, hz2, hd2, nL2, nF2⟩ := z2.obj hf
    refine store_ok (X := X.suite a ((a, oe2) :: (X.pn ++ pins))) (v := .ref a) (z2.here.suite he2 hd2 z.out nL2 nF2) hN hi (.inl hl) rfl (fun s3 S3 => ?_) (.inr hl)
    have run := (body a oe2 cls d (X.pn ++ pins) hz2 ⟨_, hd2⟩).run [] s3 (σ.set i (some (.ref a))) H (offEnds i D) S3 (t rfl)
    have gone : ∀ {p : St} {q : Hp} {s4 : Shared} {Q : Shared → Prop}, Inv (X.suite a ((a, oe2) :: (X.pn ++ pins))) [] p q s4 → (∀ s5, Inv X pins (p.set i none) q s5 → Q s5) →
        wpAny (model X.prog X.w) X.A (do bindName X.env n .none; unbindBehindTheSuite X.env n pos) (fun _ s5 => Q s5) X.xe s4 := fun S4 k => gone_ok (S4.unsuite ok) hN hi hl k
    refine wpAny_mono run (fun fl4 s4 done => ?_) (fun _ _ no => False.elim no)
    rcases fl4 with _ | _ | _ | u
    · obtain ⟨p, q, S4, k⟩ := done
      exact gone S4 fun s5 J => ⟨_, _, J, k⟩
    · obtain ⟨p, q, S4, k⟩ := done
      exact gone S4 fun s5 J => ⟨_, _, J, k⟩
    · obtain ⟨p, q, S4, k⟩ := done
      exact gone S4 fun s5 J => ⟨_, _, J, k⟩
    · obtain ⟨v, p, q, S4, r, k⟩ := done
      exact gone S4 fun s5 J => ⟨_, _, _, J, r, k⟩
end
/-- the clauses and their wishes -/
inductive Row (X : Cx) : List ExceptHandler → List (Value × Nat × Suite) → Prop
  | nil : Row X [] []
  | cons {x n : Str} {c : Value} {i : Nat} {b₀ : Stmt} {more : List Stmt} {np pos : Pos} {ts : Suite} {hds : List ExceptHandler} {l : List (Value × Nat × Suite)} (hi : X.N[i]? = some n) (hl : X.env.kindOf n = some .local) (hc : Names X x c)
      (body : ∀ (a : Addr) (oe : Obj) (cls : Value) (d : Option Addr) (pn : List (Addr × Obj)), Zc cls d oe → (∃ vs, oe.data = .fields vs) → PSs (X.suite a ((a, oe) :: pn)) (b₀ :: more) (ts a cls d)) (r : Row X hds l) :
      Row X (.ExceptHandler (some (.Name x np)) (some n) (b₀ :: more) pos :: hds) ((c, i, ts) :: l)
theorem row_runs {X : Cx} {pins : List (Addr × Obj)} {B : Heap} {a : Addr} {before s : Shared} {σ : St} {H : Hp} {cls : Value} {d : Option Addr} {D : Ends} {Wout : WX} (hs : X.stack = X.env :: X.outer) (hf : X.env.frame = some X.env.locals) (hN : X.N.Nodup) (tk : Takes X Wout)
    {hds : List ExceptHandler} {l : List (Value × Nat × Suite)} (hh : Row X hds l) (z : Down X pins B a before σ H cls d s) (w : wRow X.K Wout D l cls d σ H) : wpAny (model X.prog X.w) X.A (handleBy (.ref a) X.env hds) (SP X pins D) X.xe s := by
  induction hh with
  | nil => exact row_nil hs hf tk z w
  | cons hi hl hc body r ih =>
    obtain ⟨yes, hy, t, f⟩ := w
    exact row_cons hf hN hi hl hc body z hy (fun e => t e a z.out) fun e => ih (f e)
theorem ps_try_row {X : Cx} {body : List Stmt} {h₀ : ExceptHandler} {hds : List ExceptHandler} {l : List (Value × Nat × Suite)} {pos : Pos} {tb : WX → TS} {Wout : WX} (hs : X.stack = X.env :: X.outer) (hf : X.env.frame = some X.env.locals) (hN : X.N.Nodup) (tk : Takes X Wout)
    (hb : ∀ (W : WX) (pn : List (Addr × Obj)) (xe : Value → Shared → Prop), Takes (X.tr pn xe) W → PassesOwn (model X.prog X.w) X.A X.env xe → PSs (X.tr pn xe) body (tb W))
    (hh : Row X (h₀ :: hds) l) : PS X (.Try body (h₀ :: hds) [] [] pos) (fun D σ H => tb (wRow X.K Wout D l) D σ H) := by
  refine ⟨fun pins s σ H D I h => wpAny_Try_except ?_⟩
  have ok := I.ok
  have fr : X.A.frames = some (X.env :: X.outer) := by rw [ok.frames, hs]
  have inner := hb (wRow X.K Wout D l) (X.pn ++ pins)
    (fun e s1 => wpAny (model X.prog X.w) X.A (noteFrame e X.env) (fun _ s2 => wpAny (model X.prog X.w) X.A (setFlight e none) (fun _ s3 => wpAny (model X.prog X.w) X.A (handleBy e X.env (h₀ :: hds)) (SP X pins D) X.xe s3) X.xe s2) X.xe s1)
    (fun u s1 air => by
      obtain ⟨a, B, before, pins1, p, q, cls, d, rfl, J, base, up, sky, out, os, bare, w⟩ := air
      have J1 : Inv X pins p q before := J.ofTry ok
      refine Sky.land Zc.steady fr hf (show Sky B (X.env :: X.outer) a (Zc cls d) X.env.locals s1.heap by rw [← hs]; exact sky) fun h2 fl up2 => ?_
      exact row_runs hs hf hN tk hh (s := { s1 with heap := h2 }) ⟨J1, base, up.trans up2, fl, out, os, bare⟩ w)
    PassesOwn.looking
  refine wpAny_mono (inner.run [] s σ H D (I.toTry _) h) (fun f s1 done => ?_) (fun _ _ k => k)
  rcases f with _ | _ | _ | u
  · obtain ⟨p, q, J, k⟩ := done
    exact wpAny_execs_nil ⟨p, q, J.ofTry ok, k⟩
  · obtain ⟨p, q, J, k⟩ := done
    exact ⟨p, q, J.ofTry ok, k⟩
  · obtain ⟨p, q, J, k⟩ := done
    exact ⟨p, q, J.ofTry ok, k⟩
  · obtain ⟨v, p, q, J, r, k⟩ := done
    exact ⟨v, p, q, J.ofTry ok, r, k⟩
end L2.PKR
/-! isinstance(e, C), e a caught error of an own class with fields -/
namespace L2.PKR
open PySem PySem.Spec PyProof.Rows
def rIsX (K : PySem.W.Frag) (a : Addr) (cls : Value) (d : Option Addr) : List V → Hp → VK → Prop := fun xs H Q =>
  ∃ (c : V) (cv : Value) (yes : Bool) (D dd : Addr) (fs : List (Str × V)), xs = [.ref a, c] ∧ (∀ u, RelV c u → u = cv) ∧ cls = .ref D ∧ d = some dd ∧ H dd = some (.xd fs) ∧ ExcC K D ∧ PySem.W.kitOne K (.ref D) cv = some yes ∧ Q (.bl yes) H
theorem call_isX {X : Cx} {a : Addr} {oe : Obj} {cls : Value} {d : Option Addr} {pn : List (Addr × Obj)} (hz : Zc cls d oe) (hf : ∃ vs, oe.data = .fields vs) : CallR (X.suite a ((a, oe) :: pn)) (.builtin "isinstance") (rIsX X.K a cls d) := by
  intro pins s σ H xs us Q I r h
  obtain ⟨c, cv, yes, D, dd, fs, rfl, hcv, rfl, rfl, hx, C, hk, q⟩ := h
  rcases r with _ | ⟨rx, rr⟩
  rcases rr with _ | ⟨rc, rr⟩
  cases rr
  cases rx
  cases hcv _ rc
  have at_a := (I.pin (a, oe) (List.mem_append_left _ (.head _))).1
  obtain ⟨vs, hd⟩ := hf
  obtain ⟨mA, hns, _⟩ := (show ObjOk X.prog X.w H s.heap dd (.xd fs) from I.hok dd _ hx)
  obtain ⟨od, ho, _⟩ := lookIn_ns hns
  have J : PySem.W.InstAt s.heap a oe D (some od) := ⟨at_a, hz.1, by unfold PySem.W.notCls; rw [hd] <;> rfl, by rw [hz.2]; exact ho⟩
  obtain ⟨cd, hcd, _⟩ := PySem.W.any_some C.hd
  exact PySem.W.kia_one (PySem.W.kitx_exc (by rw [hcd]; rfl) C.hg C.hk C.hs C.ha C.hn C.ht C.hm) I.kIn J hk (fun e => nomatch e) fun tk => ⟨.bl yes, H, I.kept (t' := tk) fun _ _ k => k, rfl, q⟩
end L2.PKR
namespace PK
open PySem L2
def topS (i : Nat) : Stmt := PySem.Challenge.pw_passproven_k09_constructors_refused.main.body.getD i (.Pass ⟨0, 0, 0, 0⟩)
/-- xs[j] of a name -/
theorem vIx {K : PySem.W.Frag} {σ : L2.St} {H : Hp} {Q : VK} {i : Nat} {p : Addr} {xs : List V} {j : Int} {v : V} (h : σ[i]? = some (some (.ref p))) (hl : H p = some (.lst xs)) (ha : atI xs j = some v) (q : Q v H) :
    tOp (rIxL K) (tVar i) (tC (.int j)) σ H Q := ⟨_, h, p, xs, j, v, rfl, rfl, SqL.of hl, ha, q⟩
structure Txt (K : PySem.W.Frag) (mg : Str → Option Value) : Prop where
  z_len : mg "len" = none
  z_int : mg "int" = none
  z_range : mg "range" = none
  z_min : mg "min" = none
  z_str : mg "str" = none
  z_tuple : mg "tuple" = none
  z_sorted : mg "sorted" = none
  z_isinstance : mg "isinstance" = none
  z_any : mg "any" = none
  z_all : mg "all" = none
  z_list : mg "list" = none
  z_bool : mg "bool" = none
/-- all but what stands at l is as it was -/
def Keep (l : Addr) (H H' : Hp) : Prop := ∀ b o, b ≠ l → H b = some o → H' b = some o
def PoolR (H : Hp) (l c : Addr) (pos : Prop) : Prop := ∃ (ns : List Int) (i r s : Int), H l = some (.lst [.ref c, .int i, .int r, .int s]) ∧ H c = some (.lst (ns.map V.int)) ∧ c ≠ l ∧ (∀ n ∈ ns, 0 ≤ n) ∧ 0 ≤ i ∧ 0 ≤ r ∧ 0 ≤ s ∧ s < 2147483647 ∧ (pos → 0 < r)
abbrev Pool (H : Hp) (l c : Addr) : Prop := PoolR H l c False
/-- from H to H' the pool at l was drawn from, all else is kept -/
structure Ext (l c : Addr) (H H' : Hp) : Prop where
  keep : Keep l H H'
  pool : Pool H' l c
theorem Pool.ne {H : Hp} {l c p : Addr} (P : Pool H l c) (h : H p = none) : p ≠ l ∧ p ≠ c := by
  obtain ⟨ns, i, r, s, hl, hc, _⟩ := P
  exact ⟨(ne_of_none hl h).symm, (ne_of_none hc h).symm⟩
theorem Pool.upd {H : Hp} {l c p : Addr} {o : HO} (P : Pool H l c) (h1 : p ≠ l) (h2 : p ≠ c) : Pool (upd H p o) l c := by
  obtain ⟨ns, i, r, s, hl, hc, z⟩ := P
  exact ⟨ns, i, r, s, by rw [upd_ne h1.symm]; exact hl, by rw [upd_ne h2.symm]; exact hc, z⟩
theorem Ext.refl {l c : Addr} {H : Hp} (P : Pool H l c) : Ext l c H H := ⟨fun _ _ _ h => h, P⟩
theorem Ext.trans {l c : Addr} {H H1 H2 : Hp} (x : Ext l c H H1) (y : Ext l c H1 H2) : Ext l c H H2 := ⟨fun b o hb h => y.keep b o hb (x.keep b o hb h), y.pool⟩
/-- what was free ahead of the draws was free -/
theorem Ext.free {l c p : Addr} {H H' : Hp} (x : Ext l c H H') (P : Pool H l c) (h : H' p = none) : H p = none := by
  cases e : H p with
  | none => rfl
  | some o =>
    by_cases hb : p = l
    · subst hb
      obtain ⟨ns, i, r, s, hl, _⟩ := x.pool
      rw [hl] at h; cases h
    · rw [x.keep p o hb e] at h; cases h
theorem Ext.upd {l c p : Addr} {H H' : Hp} {o : HO} (x : Ext l c H H') (P : Pool H l c) (h : H p = none) : Ext l c H (L2.upd H' p o) :=
  ⟨fun b u hb hu => by rw [upd_ne (ne_of_none hu h)]; exact x.keep b u hb hu, x.pool.upd (P.ne h).1 (P.ne h).2⟩
theorem Ext.new {l c p : Addr} {H H' : Hp} {o : HO} (x : Ext l c H H') (P : Pool H l c) (h : H' p = none) : Ext l c H (L2.upd H' p o) := x.upd P (x.free P h)
theorem Ext.seqT {l c a : Addr} {K : PySem.W.Frag} {H H' : Hp} {xs : List V} (x : Ext l c H H') (P : Pool H l c) (h : SqT K H a xs) : SqT K H' a xs := by
  have nl : ∀ {o : HO}, H a = some o → (∀ ys, o ≠ .lst ys) → a ≠ l := fun e d z => by
    subst z
    obtain ⟨ns, i, r, s, hl, _⟩ := P
    rw [hl] at e; cases e
    exact d _ rfl
  rcases h with (h | ⟨o, h⟩) | h
  · exact .inl (.inl (x.keep _ _ (nl h (fun _ => HO.noConfusion)) h))
  · exact .inl (.inr ⟨o, x.keep _ _ (nl h (fun _ => HO.noConfusion)) h⟩)
  · exact .inr h
def spTake (n : Nat) : Sp := fun vs H Q _ => ∃ (l c : Addr) (m : Int) (p : Prop), vs = [.ref l, .int m] ∧ PoolR H l c p ∧ 0 < m ∧ m < 18446744073709551616 ∧ (2 ≤ n ∨ (1 ≤ n ∧ p)) ∧
  ∀ (d : Int) (H' : Hp), 0 ≤ d → d < m → Ext l c H H' → Q (.int d) H'
theorem vTake {σ : L2.St} {H : Hp} {Q : VK} {i : Nat} {m : Int} {l c : Addr} (h : σ[i]? = some (some (.ref l))) (P : Pool H l c) (h0 : 0 < m) (hm : m < 18446744073709551616)
    (q : ∀ (d : Int) (H' : Hp), 0 ≤ d → d < m → Ext l c H H' → Q (.int d) H') : tCall (spTake 2) [] E0 (tCons (tVar i) (tCons (tC (.int m)) tNil)) σ H Q :=
  ⟨_, h, l, c, m, False, rfl, P, h0, hm, .inl (Nat.le_refl 2), q⟩
section
variable {P : Program} {w : World} {K : PySem.W.Frag} {mg : Str → Option Value} {base : Heap}
abbrev s_law_take : Stmt := topS 19
theorem sc_law_take : FnScope ["pool", "many", "digit", "cell", "mixed"] ["pool", "many"] (defScope s_law_take) := ⟨rfl, rfl, rfl, by decide +kernel, rfl, by decide +kernel, by decide +kernel⟩
-- slots: 0:pool 1:many 2:digit 3:cell 4:mixed
theorem ok_take {n : Nat} {f : Addr} {fd : FuncData} (F : Fun K "_law_take" "_law_take" s_law_take f fd) (T : Txt K mg) (C_law_take : C8.Cal P w K mg base n "_law_take" (spTake n) []) :
    FnOk P w K mg base CX0 (n + 1) f fd ["pool", "many"] (spTake (n + 1)) := by
  refine F.ok sc_law_take (fun vs H Q E h => ?_) (fun cdv A outer s H vs Q E hr h => ?_)
  · obtain ⟨l, c, m, p, rfl, _⟩ := h
    rfl
  obtain ⟨l, c, m, p, rfl, ⟨ns, i, r, st, hl, hc, hcl, hns, hi, h0r, hs, hs2, hp⟩, hm, hm2, hn, q⟩ := h
  have hk : n ≤ n := Nat.le_refl n
  refine ⟨_, (pss_cons (ps_if (pt_cmpR op_gt (pe_ix ix_list (pv 0) pe_int (fun _ _ => rfl)) pe_int (nomark _)) (pss_cons (ps_set (i := 2) sc_law_take.nd rfl (Or.inl rfl) (pe_op op_mod (pe_callTy call_int1 (by rfl) T.z_int (by decide +kernel) (pa_cons (pe_ix ix_list (pv 0) pe_int (fun _ _ => rfl)) pa_nil)) (pv 1)))
    (pss_cons (ps_asg (pe_op op_fdivW (pe_ix ix_list (pv 0) pe_int (fun _ _ => rfl)) (pv 1)) (pg_sub (pv 0) pe_int set_list))
    (pss_one (ps_ret (pv 2))))) pss_nil)
    (pss_cons (ps_set (i := 3) sc_law_take.nd rfl (Or.inl rfl) pe_int)
    (C8.pss_cut (ps_if (pt_cmpR op_lt (pe_ix ix_list (pv 0) pe_int (fun _ _ => rfl)) (pe_callB call_len_seq (by rfl) T.z_len (by decide +kernel) (pa_cons (pe_ix ix_list (pv 0) pe_int (fun _ _ => rfl)) pa_nil)) (nomark _)) (pss_one (ps_set (i := 3) sc_law_take.nd rfl (Or.inl rfl) (pe_ix ix_list (pe_ix ix_list (pv 0) pe_int (fun _ _ => rfl)) (pe_ix ix_list (pv 0) pe_int (fun _ _ => rfl)) (fun _ _ => rfl)))) pss_nil)
    (pss_cons (ps_asg (pe_op op_add (pe_ix ix_list (pv 0) pe_int (fun _ _ => rfl)) pe_int) (pg_sub (pv 0) pe_int set_list))
    (pss_cons (ps_if (pt_cmpR op_ge (pv 3) (pe_op op_pow pe_int pe_int) (nomark _)) (pss_cons (ps_asg (pe_op op_fdivW (pv 3) pe_int) (pg_sub (pv 0) pe_int set_list))
    (pss_one (ps_ret (C8.pe_c C_law_take hr hk rfl (pa_cons (pv 0) (pa_cons (pv 1) pa_nil)))))) pss_nil)
    (pss_cons (ps_asg (pe_op op_mod (pe_callTy call_int1 (by rfl) T.z_int (by decide +kernel) (pa_cons (pe_op op_add (pe_op op_add (pe_op op_mul (pe_ix ix_list (pv 0) pe_int (fun _ _ => rfl)) pe_int) (pe_op op_mul (pv 3) pe_int)) (pe_op op_mul (pe_ix ix_list (pv 0) pe_int (fun _ _ => rfl)) pe_int)) pa_nil)) pe_int) (pg_sub (pv 0) pe_int set_list))
    (pss_cons (ps_set (i := 4) sc_law_take.nd rfl (Or.inl rfl) (pe_op op_mod (pe_callTy call_int1 (by rfl) T.z_int (by decide +kernel) (pa_cons (pe_op op_add (pe_op op_add (pe_op op_mul (pe_ix ix_list (pv 0) pe_int (fun _ _ => rfl)) (pe_ix ix_list (pv 0) pe_int (fun _ _ => rfl))) (pe_op op_mul (pe_ix ix_list (pv 0) pe_int (fun _ _ => rfl)) pe_int)) pe_int) pa_nil)) pe_int))
    (pss_one (ps_ret (pe_op op_mod (pe_callTy call_int1 (by rfl) T.z_int (by decide +kernel) (pa_cons (pe_op op_fdivW (pv 4) pe_int) pa_nil)) (pv 1))))))))))), ?_⟩
  have lgm : m.natAbs.log2 < 9000 := (wide_div (i := 0) (b := 64) hm (by rw [show (2 : Nat) ^ 64 = 18446744073709551616 from rfl]; omega) (by decide) (by decide)).2
  have lg2 : (2 : Int).natAbs.log2 < 9000 := by decide
  have ext : ∀ i' r' s' : Int, 0 ≤ i' → 0 ≤ r' → 0 ≤ s' → s' < 2147483647 → ∀ pp : Prop, (pp → 0 < r') → Keep l H (upd H l (.lst [.ref c, .int i', .int r', .int s'])) ∧ PoolR (upd H l (.lst [.ref c, .int i', .int r', .int s'])) l c pp := fun i' r' s' h1 h2 h3 h4 pp hpp =>
    ⟨fun b o hb hbo => by rw [upd_ne hb]; exact hbo, ns, i', r', s', upd_same, by rw [upd_ne hcl]; exact hc, hcl, hns, h1, h2, h3, h4, hpp⟩
  -- pool[2] > 0
  refine vIx rfl hl rfl ⟨_, _, rfl, rfl, _, rfl, ?_⟩
  refine ite2 (fun e => ?_) (fun e => ?_)
  · have e' : 0 < r := of_decide_eq_true e
    refine ⟨_, rfl, l, _, _, _, rfl, rfl, SqL.of hl, rfl, .inl ⟨_, rfl, _, rfl, _, _, rfl, rfl, hm, ?_⟩⟩
    refine vIx rfl hl rfl ⟨_, rfl, _, _, rfl, rfl, ⟨hm, lgm⟩, ?_⟩
    refine ⟨_, rfl, l, _, 2, 2, rfl, rfl, hl, rfl, _, rfl, ?_⟩
    have z := ext i (r / m) st hi (Int.ediv_nonneg h0r (by omega)) hs hs2 False False.elim
    exact q _ _ (Int.emod_nonneg _ (by omega)) (Int.emod_lt_of_pos _ hm) ⟨z.1, z.2⟩
  · have e0 : r = 0 := by have := of_decide_eq_false (Bool.eq_false_iff.mpr e); omega
    subst e0
    have n2 : 1 ≤ n := by
      rcases hn with hn | ⟨_, hn⟩
      · omega
      · exact absurd (hp hn) (by omega)
    refine ⟨fun σ' H' => ∃ z : Int, 0 ≤ z ∧ σ' = [some (.ref l), some (.int m), none, some (.int z), none] ∧ H' = H, ?_, ?_⟩
    · refine vIx rfl hl rfl (vIx rfl hl rfl ⟨c, _, rfl, .inl (SqL.of hc), _, _, rfl, rfl, _, rfl, ?_⟩)
      refine ite2 (fun e1 => ?_) (fun e1 => ⟨0, by omega, rfl, rfl⟩)
      have e1' : i < ((ns.map V.int).length : Nat) := of_decide_eq_true e1
      rw [List.length_map] at e1'
      obtain ⟨j, rfl⟩ : ∃ j : Nat, i = j := ⟨i.toNat, by omega⟩
      have hj : j < ns.length := by omega
      have g : (ns.map V.int)[j]? = some (.int ns[j]) := by rw [List.getElem?_map, List.getElem?_eq_getElem hj]; rfl
      refine vIx rfl hl rfl (vIx rfl hl rfl ⟨c, _, _, _, rfl, rfl, SqL.of hc, atI_nat g, ?_⟩)
      exact ⟨_, hns _ (List.getElem_mem hj), rfl, rfl⟩
    · rintro σ' H' ⟨z, hz, rfl, rfl⟩
      refine vIx rfl hl rfl ⟨_, _, rfl, rfl, _, rfl, l, _, 1, 1, rfl, rfl, hl, rfl, ?_⟩
      refine ⟨_, rfl, _, _, rfl, rfl, ⟨by decide, by decide, by decide⟩, _, _, rfl, rfl, _, rfl, ?_⟩
      refine ite2 (fun e1 => ?_) (fun e1 => ?_)
      · have e1' : (10 : Int) ^ 18 ≤ z := of_decide_eq_true e1
        refine ⟨_, rfl, _, _, rfl, rfl, ⟨by decide, lg2⟩, _, rfl, l, _, 2, 2, rfl, rfl, upd_same, rfl, ?_⟩
        refine ⟨_, rfl, _, rfl, ?_⟩
        have zz := ext (i + 1) (z / 2) st (by omega) (Int.ediv_nonneg hz (by omega)) hs hs2 True (fun _ => by omega)
        refine ⟨l, c, m, True, rfl, ?_, hm, hm2, .inr ⟨n2, trivial⟩, fun d H' h1 h2 x => q d H' h1 h2 ⟨?_, x.pool⟩⟩
        · show PoolR (upd (upd H' l _) l _) l c True
          rw [upd_upd]
          exact zz.2
        · intro b o hb hbo
          refine x.keep b o hb ?_
          show upd (upd _ l _) l _ b = _
          rw [upd_upd, upd_ne hb]
          exact hbo
      · have c1 : CMul st 48271 := .inr ⟨by decide, by decide⟩
        have c2 : CMul z 69621 := .inr ⟨by decide, by decide⟩
        have c3 : CMul (i + 1) 613 := .inr ⟨by decide, by decide⟩
        refine vIx rfl upd_same rfl ⟨_, _, rfl, rfl, c1, _, rfl, _, _, rfl, rfl, c2, _, _, rfl, rfl, vIx rfl upd_same rfl ⟨_, _, rfl, rfl, c3, _, _, rfl, rfl, .inl ⟨_, rfl, _, _, rfl, rfl, (show (0 : Int) < 2147483647 by decide), ?_⟩⟩⟩
        refine ⟨_, rfl, l, _, 3, 3, rfl, rfl, upd_same, rfl, ?_⟩
        have b1 : 0 ≤ (st * 48271 + z * 69621 + (i + 1) * 613) % 2147483647 := Int.emod_nonneg _ (by decide)
        have b2 : (st * 48271 + z * 69621 + (i + 1) * 613) % 2147483647 < 2147483647 := Int.emod_lt_of_pos _ (by decide)
        have c4 : CMul ((st * 48271 + z * 69621 + (i + 1) * 613) % 2147483647) ((st * 48271 + z * 69621 + (i + 1) * 613) % 2147483647) := .inr ⟨by omega, by omega⟩
        have c5 : CMul ((st * 48271 + z * 69621 + (i + 1) * 613) % 2147483647) 7919 := .inr ⟨by decide, by decide⟩
        refine vIx rfl upd_same rfl (vIx rfl upd_same rfl ⟨_, _, rfl, rfl, c4, vIx rfl upd_same rfl ⟨_, _, rfl, rfl, c5, _, _, rfl, rfl, _, _, rfl, rfl, .inl ⟨_, rfl, _, _, rfl, rfl, (show (0 : Int) < 1000000007 by decide), ?_⟩⟩⟩)
        have c6 : CDivW ((((st * 48271 + z * 69621 + (i + 1) * 613) % 2147483647) * ((st * 48271 + z * 69621 + (i + 1) * 613) % 2147483647) + ((st * 48271 + z * 69621 + (i + 1) * 613) % 2147483647) * 7919 + 104729) % 1000000007) 3 := ⟨by decide, by decide⟩
        refine ⟨_, rfl, _, _, rfl, rfl, c6, .inl ⟨_, rfl, _, rfl, _, _, rfl, rfl, hm, ?_⟩⟩
        have zz := ext (i + 1) 0 ((st * 48271 + z * 69621 + (i + 1) * 613) % 2147483647) (by omega) (by omega) b1 b2 False False.elim
        refine q _ _ (Int.emod_nonneg _ (by omega)) (Int.emod_lt_of_pos _ hm) ⟨?_, ?_⟩
        · show Keep l _ (upd (upd _ l _) l _)
          rw [upd_upd]
          exact zz.1
        · show Pool (upd (upd _ l _) l _) l c
          rw [upd_upd]
          exact zz.2
end
end PK
namespace PK
open PySem L2
/-! ### words -/
abbrev LET : Str := "abcdefghijklmnopqrstuvwxyz"
abbrev OTH : Str := "abcdefghijklmnopqrstuvwxyz0123456789_"
abbrev BARRED : List Str := ["get", "set", "plus", "minus", "new", "read", "write", "put"]
theorem let_len : LET.cps.toList.length = 26 := by decide +kernel
theorem oth_len : OTH.cps.toList.length = 37 := by decide +kernel
theorem line_big : (16777216 : Nat) ≤ sizeLine := by rw [sizeLine_eq]; decide
theorem small {n : Nat} (h : n ≤ 16777216) : n ≤ sizeLine := Nat.le_trans h line_big
theorem smallL {n : Nat} (h : n < 16777216) : n < sizeLine := Nat.lt_of_lt_of_le h line_big
theorem len_list (z : Str) : z.length = z.cps.toList.length := by unfold Str.length; simp
theorem yes_ {A B : Hp → Prop} {σ : L2.St} {H : Hp} (h : A H) : tYes σ H fun b H3 => if b = true then A H3 else B H3 := by
  show if true = true then A H else B H
  exact iteT h
/-- a drawn sign of a text -/
theorem strAt (z : Str) {n : Nat} (hz : z.cps.toList.length = n) (hn : n ≤ 1000) {d : Int} {H : Hp} {Q : VK} (h0 : 0 ≤ d) (h1 : d < (n : Int)) (q : ∀ s : Nat, s ∈ z.cps.toList → Q (.str ⟨#[s]⟩) H) : rIxS (.str z) (.int d) H Q := by
  obtain ⟨j, rfl⟩ : ∃ j : Nat, d = j := ⟨d.toNat, by omega⟩
  have hj : j < z.cps.toList.length := by omega
  exact ⟨z, _, _, rfl, rfl, by rw [len_list, hz]; exact small (by omega), atI_nat (List.getElem?_eq_getElem hj), q _ (List.getElem_mem hj)⟩
/-- the j-th word that is tried for the k-th place -/
def cand (j k : Nat) : Str := ("w" : Str) ++ (toString (j : Int) : Str) ++ ("_" : Str) ++ (toString (k : Int) : Str)
def pre (j : Nat) : Str := ("w" : Str) ++ (toString (j : Int) : Str) ++ ("_" : Str)
theorem pre_len : ∀ j, j < 27 → (pre j).length ≤ 4 := by decide +kernel
theorem str_len : ∀ j : Nat, j < 27 → ((toString (j : Int) : String) : Str).length ≤ 2 := by decide +kernel
theorem pre_inj : ∀ i, i < 27 → ∀ j, j < 27 → pre i = pre j → i = j := by decide +kernel
theorem app_cancel {a b t : Str} (h : a ++ t = b ++ t) : a = b := by
  have e : a.cps ++ t.cps = b.cps ++ t.cps := congrArg Str.cps h
  have e2 : a.cps.toList ++ t.cps.toList = b.cps.toList ++ t.cps.toList := by
    have := congrArg Array.toList e
    simpa using this
  exact Str.ext' (Array.toList_inj.mp (List.append_cancel_right e2))
theorem cand_inj {i j k : Nat} (hi : i < 27) (hj : j < 27) (h : cand i k = cand j k) : i = j := pre_inj i hi j hj (app_cancel h)
theorem cand_len {j k : Nat} (hj : j < 27) (hk : k < 27) : (cand j k).length ≤ 6 := by
  have h1 := pre_len j hj
  have h2 := str_len k hk
  show (pre j ++ _).length ≤ 6
  rw [Str.length_append]
  omega
theorem cand_bar (j k : Nat) : cand j k ∉ BARRED := by
  have h1 : 95 ∈ (cand j k).cps.toList := by
    show 95 ∈ ((((("w" : Str).cps ++ ((toString (j : Int) : String) : Str).cps) ++ ("_" : Str).cps) ++ ((toString (k : Int) : String) : Str).cps)).toList
    have e : ("_" : Str).cps.toList = [95] := by decide +kernel
    simp only [Array.toList_append, e, List.mem_append, List.mem_singleton]
    exact .inl (.inr trivial)
  have h2 : ∀ b ∈ BARRED, 95 ∉ b.cps.toList := by decide +kernel
  exact fun m => h2 _ m h1
theorem inj_le : ∀ (l m : List Str), l.Nodup → (∀ x ∈ l, x ∈ m) → l.length ≤ m.length
  | [], _, _, _ => Nat.zero_le _
  | x :: r, m, hn, hm => by
    obtain ⟨h1, h2⟩ := List.nodup_cons.mp hn
    have hx := hm x List.mem_cons_self
    have ih := inj_le r (m.erase x) h2 fun y hy => (List.mem_erase_of_ne (fun e => h1 (by rw [← e]; exact hy))).mpr (hm y (List.mem_cons_of_mem _ hy))
    rw [List.length_erase_of_mem hx] at ih
    have : 0 < m.length := List.length_pos_of_mem hx
    rw [List.length_cons]
    omega
/-- not all of m tried words stand in a list of fewer than m -/
theorem pigeon {m k : Nat} {ws : List Str} (hm : m < 27) (hl : ws.length < m) (h : ∀ t, t < m → cand t k ∈ ws) : False := by
  have n : ((List.range m).map fun t => cand t k).Nodup := by
    rw [List.Nodup, List.pairwise_map]
    refine List.Pairwise.imp_of_mem ?_ List.nodup_range
    intro a b ha hb hab e
    exact hab (cand_inj (Nat.lt_trans (List.mem_range.mp ha) hm) (Nat.lt_trans (List.mem_range.mp hb) hm) e)
  have := inj_le _ ws n fun x hx => by
    obtain ⟨t, ht, rfl⟩ := List.mem_map.mp hx
    exact h t (List.mem_range.mp ht)
  rw [List.length_map, List.length_range] at this
  omega
theorem inV_str (u : Str) : ∀ ws : List Str, inV (.str u) (ws.map V.str) = decide (u ∈ ws)
  | [] => by simp [inV]
  | x :: r => by
    have ih := inV_str u r
    unfold inV at ih ⊢
    rw [List.map_cons, List.any_cons, ih]
    show ((x == u) || decide (u ∈ r)) = _
    by_cases e : x = u
    · subst e; simp
    · have e2 : (x == u) = false := by simpa using e
      rw [e2, Bool.false_or]
      by_cases h : u ∈ r
      · simp [h]
      · simp [h, Ne.symm e]
theorem flat_strs (ws : List Str) : (ws.map V.str).all flatV = true := by
  rw [List.all_eq_true]
  intro x hx
  obtain ⟨s, _, rfl⟩ := List.mem_map.mp hx
  rfl
/-- signs of words -/
def one (s : Nat) : Str := ⟨#[s]⟩
def Ones (ss : List Nat) : Prop := ∀ s ∈ ss, s ∈ OTH.cps.toList
theorem join_one : ∀ ss : List Nat, (Str.join "" (ss.map one)).cps.toList = ss
  | [] => rfl
  | [s] => rfl
  | s :: t :: r => by
    have ih := join_one (t :: r)
    have e : ("" : Str).cps.toList = [] := by decide +kernel
    show ((one s).cps ++ ("" : Str).cps ++ (Str.join "" ((t :: r).map one)).cps).toList = _
    rw [Array.toList_append, Array.toList_append, ih, e]
    rfl
theorem txt_join (ss : List Nat) : (Txt.join "" (ss.map one)).cps.toList = ss := by
  show (Builtin.Str.glued ("" : Str) (ss.map one)).cps.toList = ss
  rw [StrLaws.glued_eq_join]
  exact join_one ss
theorem one_sum (ss : List Nat) : ((ss.map one).map (·.length)).sum = ss.length := by
  induction ss with
  | nil => rfl
  | cons s r ih =>
    rw [List.map_cons, List.map_cons, List.sum_cons, ih, List.length_cons]
    show 1 + r.length = _
    omega
/-- a word: signs that words have, the first one a letter -/
structure Wd (x : Str) : Prop where
  lo : 1 ≤ x.length
  hi : x.length ≤ 12
  hd : ∃ s r, x.cps.toList = s :: r ∧ s ∈ LET.cps.toList
  al : ∀ s ∈ x.cps.toList, s ∈ OTH.cps.toList
theorem Wd.of {x : Str} {s : Nat} {r : List Nat} (e : x.cps.toList = s :: r) (hs : s ∈ LET.cps.toList) (ho : Ones r) (hl : r.length ≤ 11) : Wd x where
  lo := by rw [len_list, e, List.length_cons]; omega
  hi := by rw [len_list, e, List.length_cons]; omega
  hd := ⟨s, r, e, hs⟩
  al := fun z hz => by
    rw [e] at hz
    rcases List.mem_cons.mp hz with h | h
    · rw [h]
      have : ∀ s ∈ LET.cps.toList, s ∈ OTH.cps.toList := by decide +kernel
      exact this s hs
    · exact ho z h
theorem pre_wd : ∀ j, j < 27 → ∀ s ∈ (pre j).cps.toList, s ∈ OTH.cps.toList := by decide +kernel
theorem num_wd : ∀ j : Nat, j < 27 → ∀ s ∈ ((toString (j : Int) : String) : Str).cps.toList, s ∈ OTH.cps.toList := by decide +kernel
theorem pre_hd : ∀ j, j < 27 → (pre j).cps.toList[0]? = some 119 := by decide +kernel
theorem cand_wd {j k : Nat} (hj : j < 27) (hk : k < 27) : Wd (cand j k) := by
  have e : (cand j k).cps.toList = (pre j).cps.toList ++ ((toString (k : Int) : String) : Str).cps.toList := by
    show ((pre j).cps ++ ((toString (k : Int) : String) : Str).cps).toList = _
    rw [Array.toList_append]
  have h0 := pre_hd j hj
  cases e1 : (pre j).cps.toList with
  | nil => rw [e1] at h0; cases h0
  | cons s r =>
    rw [e1] at h0 e
    have hs : s = 119 := Option.some.inj h0
    refine Wd.of (s := s) (r := r ++ ((toString (k : Int) : String) : Str).cps.toList) e (by rw [hs]; decide +kernel) (fun z hz => ?_) ?_
    · rcases List.mem_append.mp hz with h | h
      · exact pre_wd j hj z (by rw [e1]; exact List.mem_cons_of_mem _ h)
      · exact num_wd k hk z h
    · have h1 := pre_len j hj
      have h2 := str_len k hk
      rw [len_list] at h1 h2
      rw [e1, List.length_cons] at h1
      rw [List.length_append]
      omega
theorem let_oth : ∀ s ∈ LET.cps.toList, s ∈ OTH.cps.toList := by decide +kernel
theorem ixN_of {n : Nat} {k : Int} (h0 : 0 ≤ k) (h1 : k < (n : Int)) : ixN n k = some k.toNat := by
  unfold ixN
  rw [if_pos h0, if_pos h1]
theorem Ones.set {row : List Nat} (h : Ones row) {s : Nat} (hs : s ∈ OTH.cps.toList) (j : Nat) : Ones (row.set j s) := fun x hx => by
  rcases List.mem_or_eq_of_mem_set hx with h1 | h1
  · exact h x h1
  · rw [h1]; exact hs
/-- the signs of a word, one of them another letter -/
theorem set_hd {s0 : Nat} {r : List Nat} (h0 : s0 ∈ LET.cps.toList) (hr : Ones r) {s : Nat} (hs : s ∈ LET.cps.toList) (j : Nat) : ∃ s1 r1, (s0 :: r).set j s = s1 :: r1 ∧ s1 ∈ LET.cps.toList ∧ Ones r1 ∧ r1.length = r.length := by
  cases j with
  | zero => exact ⟨s, r, rfl, hs, hr, rfl⟩
  | succ j => exact ⟨s0, r.set j s, rfl, h0, hr.set (let_oth _ hs) j, List.length_set ..⟩
end PK
namespace PK
open PySem L2
/-- many different words -/
def spWords : Sp := fun vs H Q _ => ∃ (l c : Addr) (m : Nat), vs = [.ref l, .int (m : Int)] ∧ Pool H l c ∧ m ≤ 25 ∧
  ∀ (H' : Hp) (p : Addr) (ws : List Str), Ext l c H H' → H p = none → H' p = some (.lst (ws.map V.str)) → ws.length = m → ws.Nodup → (∀ x ∈ ws, Wd x ∧ x ∉ BARRED) → Q (.ref p) H'
section
variable {P : Program} {w : World} {K : PySem.W.Frag} {mg : Str → Option Value} {base : Heap}
abbrev s_law_words : Stmt := topS 20
theorem sc_law_words : FnScope ["pool", "many", "letters", "others", "barred", "size", "at", "alike", "k", "base", "words", "row", "word", "more", "j"] ["pool", "many"] (defScope s_law_words) := ⟨rfl, rfl, rfl, by decide +kernel, rfl, by decide +kernel, by decide +kernel⟩
-- slots: 0:pool(cell) 1:many 2:letters 3:others(cell) 4:barred 5:size 6:at 7:alike 8:k 9:base 10:words 11:row 12:word 13:more 14:j(comp)
theorem ok_words {f : Addr} {fd : FuncData} (F : Fun K "_law_words" "_law_words" s_law_words f fd) (T : Txt K mg) (C_law_take : C8.Cal P w K mg base 2 "_law_take" (spTake 2) []) :
    FnOk P w K mg base CX0 3 f fd ["pool", "many"] spWords := by
  refine F.ok sc_law_words (fun vs H Q E h => ?_) (fun cdv A outer s H vs Q E hr h => ?_)
  · obtain ⟨l, c, m, rfl, _⟩ := h
    rfl
  obtain ⟨l, c, m, rfl, P0, hm, q⟩ := h
  refine ⟨_, (pss_cons (ps_set (i := 2) sc_law_words.nd rfl (Or.inl rfl) pe_str)
    (pss_cons (ps_set (i := 3) sc_law_words.nd rfl (Or.inr rfl) pe_str)
    (pss_cons (ps_set (i := 4) sc_law_words.nd rfl (Or.inl rfl) (pe_tup (pa_cons pe_str (pa_cons pe_str (pa_cons pe_str (pa_cons pe_str (pa_cons pe_str (pa_cons pe_str (pa_cons pe_str (pa_cons pe_str pa_nil))))))))))
    (pss_cons (ps_set (i := 5) sc_law_words.nd rfl (Or.inl rfl) (C8.pe_c C_law_take hr (by decide) rfl (pa_cons (pv 0) (pa_cons pe_int pa_nil))))
    (pss_cons (ps_set (i := 6) sc_law_words.nd rfl (Or.inl rfl) (C8.pe_c C_law_take hr (by decide) rfl (pa_cons (pv 0) (pa_cons (pe_op op_add (pv 5) pe_int) pa_nil))))
    (pss_cons (ps_set (i := 7) sc_law_words.nd rfl (Or.inl rfl) (C8.pe_c C_law_take hr (by decide) rfl (pa_cons (pv 0) (pa_cons pe_int pa_nil))))
    (pss_cons (ps_setLc (i := 9) (own := [("k", 8)]) (g := (gName 8)) (tt := tYes) (by rfl) sc_law_words.nd rfl rfl (sw_true rfl rfl rfl (by decide +kernel)) (pi_range1 (by rfl) T.z_range (pa_cons (pv 5) pa_nil)) (blkOk_by (N := ["pool", "many", "letters", "others", "barred", "size", "at", "alike", "k", "base", "words", "row", "word", "more", "j"]) (sc := defScope s_law_words) (by decide +kernel)) (fun _ _ _ _ _ => (pg_name (i := 8) sc_law_words.nd rfl (Or.inl rfl))) (fun _ _ _ _ _ => pts_nil) (fun _ _ _ _ _ => (pe_ix ix_str (pv 3) (C8.pe_c C_law_take hr (by decide) rfl (pa_cons (pv 0) (pa_cons pe_int pa_nil))) (fun _ _ => rfl))))
    (pss_cons (ps_set (i := 10) sc_law_words.nd rfl (Or.inl rfl) (pe_lst pa_nil))
    (pss_cons (ps_for PassesOwn.never rfl (pi_range1 (by rfl) T.z_range (pa_cons (pv 1) pa_nil)) (pg_name (i := 8) sc_law_words.nd rfl (Or.inl rfl)) (pss_cons (ps_set (i := 11) sc_law_words.nd rfl (Or.inl rfl) (pe_op op_cat (pe_lst (pa_cons (pe_ix ix_str (pv 2) (C8.pe_c C_law_take hr (by decide) rfl (pa_cons (pv 0) (pa_cons pe_int pa_nil))) (fun _ _ => rfl)) pa_nil)) (pv 9)))
    (C8.pss_cut (ps_if (pt_cmpR op_eq (pv 7) pe_int (nomark _)) (pss_one (ps_set (i := 11) sc_law_words.nd rfl (Or.inl rfl) (pe_op op_cat (pe_lst (pa_cons (pe_ix ix_str (pv 2) (C8.pe_c C_law_take hr (by decide) rfl (pa_cons (pv 0) (pa_cons pe_int pa_nil))) (fun _ _ => rfl)) pa_nil)) (pe_lc (own := [("j", 14)]) (g := (gName 14)) (tt := tYes) (by rfl) sc_law_words.nd (pi_range1 (by rfl) T.z_range (pa_cons (C8.pe_c C_law_take hr (by decide) rfl (pa_cons (pv 0) (pa_cons pe_int pa_nil))) pa_nil)) (blkOk_by (N := ["pool", "many", "letters", "others", "barred", "size", "at", "alike", "k", "base", "words", "row", "word", "more", "j"]) (sc := defScope s_law_words) (by decide +kernel)) (fun _ _ _ _ _ => (pg_name (i := 14) sc_law_words.nd rfl (Or.inl rfl))) (fun _ _ _ _ _ => pts_nil) (fun _ _ _ _ _ => (pe_ix ix_str (pv 3) (C8.pe_c C_law_take hr (by decide) rfl (pa_cons (pv 0) (pa_cons pe_int pa_nil))) (fun _ _ => rfl))))))) pss_nil)
    (pss_cons (ps_asg (pe_ix ix_str (pv 2) (C8.pe_c C_law_take hr (by decide) rfl (pa_cons (pv 0) (pa_cons pe_int pa_nil))) (fun _ _ => rfl)) (pg_sub (pv 11) (pe_callB (call_min2 (by rfl)) (by rfl) T.z_min (by decide +kernel) (pa_cons (pv 6) (pa_cons (pe_op op_sub (pe_callB call_len_seq (by rfl) T.z_len (by decide +kernel) (pa_cons (pv 11) pa_nil)) pe_int) pa_nil))) set_list))
    (pss_cons (ps_set (i := 12) sc_law_words.nd rfl (Or.inl rfl) (pe_join pe_str (pv 11)))
    (C8.pss_cut (ps_for PassesOwn.never rfl (pi_range1 (by rfl) T.z_range (pa_cons (pe_op op_add (pv 1) pe_int) pa_nil)) (pg_name (i := 13) sc_law_words.nd rfl (Or.inl rfl)) (pss_cons (ps_if (PW.pt (pw_and (pt_cmpR op_notIn_seq (pv 12) (pv 10) rfl) (pw_and1 (pt_cmpR op_notIn_seq (pv 12) (pv 4) rfl)))) (pss_one ps_break) pss_nil)
    (pss_one (ps_set (i := 12) sc_law_words.nd rfl (Or.inl rfl) (pe_op op_add_str (pe_op op_add_str (pe_op op_add_str pe_str (pe_callTy call_str_int (by rfl) T.z_str (by decide +kernel) (pa_cons (pv 13) pa_nil))) pe_str) (pe_callTy call_str_int (by rfl) T.z_str (by decide +kernel) (pa_cons (pv 8) pa_nil)))))))
    (pss_one (ps_expr (pe_bm PySem.F.plainAttrs_list PySem.F.slot_list_append PySem.F.type_list_append mt_append (pv 10) (pa_cons (pv 12) pa_nil))))))))))
    (pss_one (ps_ret (pv 10)))))))))))), ?_⟩
  -- letters, others, barred
  refine ⟨(by show 8 ≤ sizeLine; exact small (by decide)), fun bt hbt => ?_⟩
  have x1 : Ext l c H (upd H bt (.tup (BARRED.map V.str))) := (Ext.refl P0).new P0 hbt
  -- size, at, alike
  refine vTake rfl x1.pool (by decide) (by decide) fun size H2 hs0 hs1 x2 => ?_
  refine ⟨_, rfl, _, rfl, _, _, rfl, rfl, l, c, size + 1, False, rfl, x2.pool, by omega, by omega, .inl (Nat.le_refl 2), fun at_ H3 ha0 ha1 x3 => ?_⟩
  refine vTake rfl x3.pool (by decide) (by decide) fun al H4 hal0 hal1 x4 => ?_
  have x5 : Ext l c H H4 := ((x1.trans x2).trans x3).trans x4
  have P4 := x5.pool
  have hbt4 : H4 bt = some (.tup (BARRED.map V.str)) := (x2.trans (x3.trans x4)).keep _ _ (P0.ne hbt).1 upd_same
  -- base = [..]
  refine ⟨_, rfl, size, rfl, by omega, by omega, fun D hD => lc_range (lo := 0) (n := size.toNat) (fun i H' => ∃ row : List Nat, Ext l c H4 H' ∧ H' D = some (.lst (row.map (fun s => V.str (one s)))) ∧ row.length = i ∧ Ones row) ?_ ?_ ?_⟩
  · exact ⟨[], (Ext.refl P4).upd P4 hD, upd_same, rfl, fun _ h => nomatch h⟩
  · rintro i H' hi ⟨row, x, hd, hlen, hone⟩
    refine ⟨rfl, yes_ ⟨_, rfl, vTake rfl x.pool (by decide) (by decide) fun d H5 d0 d1 y => strAt OTH oth_len (by decide) d0 d1 fun sg hsg => ?_⟩⟩
    refine ⟨row.map (fun s => V.str (one s)), y.keep D _ (P4.ne hD).1 hd, by rw [List.length_map]; exact smallL (by omega), row ++ [sg], (x.trans y).upd P4 hD, ?_, ?_, ?_⟩
    · rw [upd_same, List.map_append]; rfl
    · rw [List.length_append, hlen]; rfl
    · intro z hz
      rcases List.mem_append.mp hz with h | h
      · exact hone z h
      · rw [List.mem_singleton.mp h]; exact hsg
  · rintro HB ⟨b0, xb, hb0, hb0l, hb0o⟩
    have PB := xb.pool
    have xB : Ext l c H HB := x5.trans xb
    have hbtB : HB bt = some (.tup (BARRED.map V.str)) := xb.keep _ _ (P0.ne hbt).1 hbt4
    -- words = []
    refine ⟨Nat.zero_le _, fun wd hwd => ?_⟩
    refine ⟨_, rfl, (m : Int), rfl, by omega, by omega, for_range (lo := 0) (n := (m : Int).toNat) (fun i σ H' => ∃ (ws : List Str) (k' r' w' m' : Option V), σ = [some (.ref l), some (.int m), some (.str LET), some (.str OTH), some (.ref bt), some (.int size), some (.int at_), some (.int al), k', some (.ref D), some (.ref wd), r', w', m', none] ∧
      Ext l c HB H' ∧ H' wd = some (.lst (ws.map V.str)) ∧ ws.length = i ∧ ws.Nodup ∧ ∀ x ∈ ws, Wd x ∧ x ∉ BARRED) ?_ ?_ ?_⟩
    · exact ⟨[], _, _, _, _, rfl, (Ext.refl PB).upd PB hwd, upd_same, rfl, List.nodup_nil, fun _ h => nomatch h⟩
    · rintro i σ H' hi ⟨ws, k', r', w', m', rfl, x, hw, hwl, hwn, hw12⟩
      have hi' : i < m := hi
      have PX := x.pool
      have neD : D ≠ l := (P4.ne hD).1
      have newd : wd ≠ l := (PB.ne hwd).1
      have hDX : H' D = some (.lst (b0.map (fun s => V.str (one s)))) := x.keep _ _ neD hb0
      have hbtX : H' bt = some (.tup (BARRED.map V.str)) := x.keep _ _ (P0.ne hbt).1 hbtB
      -- row = [..] + base
      refine ⟨_, rfl, vTake rfl PX (by decide) (by decide) fun d H1 d0 d1 y => strAt LET let_len (by decide) d0 d1 fun sg hsg => ?_⟩
      have hD1 := y.keep _ _ neD hDX
      refine ⟨(by show 1 ≤ sizeLine; exact small (by decide)), fun p1 hp1 => ⟨_, rfl, p1, D, _, _, rfl, rfl, upd_same, (by rw [upd_ne (ne_of_none hD1 hp1)]; exact hD1), (by rw [List.length_map]; show 1 + b0.length ≤ _; exact small (by omega)), fun p2 hp2 => ?_⟩⟩
      have z2 : Ext l c H' (upd (upd H1 p1 _) p2 (.lst ([V.str ⟨#[sg]⟩] ++ b0.map (fun s => V.str (one s))))) := (y.new PX hp1).new PX hp2
      have hp2' : H' p2 = none := (y.new PX hp1).free PX hp2
      refine ⟨fun σ' H'' => ∃ (rw_ : Addr) (s0 : Nat) (row : List Nat), σ' = [some (.ref l), some (.int m), some (.str LET), some (.str OTH), some (.ref bt), some (.int size), some (.int at_), some (.int al), some (.int (0 + (i : Int))), some (.ref D), some (.ref wd), some (.ref rw_), w', m', none] ∧
        Ext l c H' H'' ∧ H' rw_ = none ∧ H'' rw_ = some (.lst ((s0 :: row).map (fun s => V.str (one s)))) ∧ s0 ∈ LET.cps.toList ∧ Ones row ∧ row.length ≤ 11, ?_, ?_⟩
      · -- if alike == 0
        refine ⟨_, rfl, rfl, _, rfl, ite2 (fun _ => ?_) (fun _ => ⟨p2, sg, b0, rfl, z2, hp2', upd_same, hsg, hb0o, by omega⟩)⟩
        refine ⟨_, rfl, vTake rfl z2.pool (by decide) (by decide) fun d H6 d0 d1 y6 => strAt LET let_len (by decide) d0 d1 fun sg2 hsg2 => ?_⟩
        refine ⟨(by show 1 ≤ sizeLine; exact small (by decide)), fun p3 hp3 => ?_⟩
        have z3 := (z2.trans y6).new (o := .lst [.str ⟨#[sg2]⟩]) PX hp3
        have P3 := z3.pool
        have hp3' : H' p3 = none := (z2.trans y6).free PX hp3
        refine vTake rfl z3.pool (by decide) (by decide) fun n2 H7 n0 n1 y7 => ⟨n2, rfl, by omega, by omega, fun D2 hD2 => lc_range (lo := 0) (n := n2.toNat) (fun i H'' => ∃ row : List Nat, Ext l c H7 H'' ∧ H'' D2 = some (.lst (row.map (fun s => V.str (one s)))) ∧ row.length = i ∧ Ones row) ?_ ?_ ?_⟩
        · exact ⟨[], (Ext.refl y7.pool).upd y7.pool hD2, upd_same, rfl, fun _ h => nomatch h⟩
        · rintro i H'' hi ⟨row, x, hd, hlen, hone⟩
          refine ⟨rfl, yes_ ⟨_, rfl, vTake rfl x.pool (by decide) (by decide) fun d H5 d0 d1 y => strAt OTH oth_len (by decide) d0 d1 fun sg hsg => ?_⟩⟩
          refine ⟨row.map (fun s => V.str (one s)), y.keep D2 _ (y7.pool.ne hD2).1 hd, by rw [List.length_map]; exact smallL (by omega), row ++ [sg], (x.trans y).upd y7.pool hD2, ?_, ?_, ?_⟩
          · rw [upd_same, List.map_append]; rfl
          · rw [List.length_append, hlen]; rfl
          · intro z hz
            rcases List.mem_append.mp hz with h | h
            · exact hone z h
            · rw [List.mem_singleton.mp h]; exact hsg
        · rintro H8 ⟨row, x8, hd8, hlen8, hone8⟩
          have h38 : H8 p3 = some (.lst [.str ⟨#[sg2]⟩]) := (y7.trans x8).keep _ _ (PX.ne hp3').1 upd_same
          refine ⟨p3, D2, _, _, rfl, rfl, h38, hd8, (by rw [List.length_map]; show 1 + row.length ≤ _; exact small (by omega)), fun p4 hp4 => ?_⟩
          have z8 : Ext l c H' H8 := z3.trans (y7.trans x8)
          exact ⟨p4, sg2, row, rfl, z8.new PX hp4, z8.free PX hp4, upd_same, hsg2, hone8, by omega⟩
      · rintro σ' H9 ⟨rw_, s0, row, rfl, x9, hrn, hr9, hs0L, hone, hl12⟩
        have nrl : rw_ ≠ l := (PX.ne hrn).1
        -- row[min(at, len(row) - 1)] = ..
        refine ⟨_, rfl, vTake rfl x9.pool (by decide) (by decide) fun d3 H10 d30 d31 y10 => strAt LET let_len (by decide) d30 d31 fun sg3 hsg3 => ?_⟩
        have hr10 : H10 rw_ = some (.lst ((s0 :: row).map (fun s => V.str (one s)))) := y10.keep _ _ nrl hr9
        refine ⟨_, rfl, _, rfl, _, rfl, rw_, _, rfl, .inl (SqL.of hr10), _, _, rfl, rfl, _, _, rfl, ?_⟩
        have hrl : (((s0 :: row).map (fun s => V.str (one s))).length : Int) = row.length + 1 := by rw [List.length_map, List.length_cons]; rfl
        refine ⟨rw_, _, _, _, rfl, rfl, hr10, ixN_of (by split <;> omega) (by split <;> omega), ?_⟩
        generalize (if ((((s0 :: row).map (fun s => V.str (one s))).length : Nat) : Int) - 1 < at_ then ((((s0 :: row).map (fun s => V.str (one s))).length : Nat) : Int) - 1 else at_).toNat = jz
        obtain ⟨s1, r1, e1, hs1L, ho1, hl1⟩ := set_hd hs0L hone hsg3 jz
        have es : ((s0 :: row).map (fun s => V.str (one s))).set jz (V.str ⟨#[sg3]⟩) = ((s1 :: r1).map one).map V.str := by
          rw [← e1, List.map_map]
          exact (List.map_set ..).symm
        rw [es]
        have zX : Ext l c H' (upd H10 rw_ (.lst (((s1 :: r1).map one).map V.str))) := (x9.trans y10).upd PX hrn
        generalize hHX : upd H10 rw_ (.lst (((s1 :: r1).map one).map V.str)) = HX at zX
        have hrX : HX rw_ = some (.lst (((s1 :: r1).map one).map V.str)) := by rw [← hHX]; exact upd_same
        -- word = ''.join(row)
        refine ⟨⟨_, rfl⟩, _, rfl, "", rw_, (s1 :: r1).map one, rfl, rfl, .inl (SqL.of hrX), by rw [one_sum, List.length_cons]; show _ + _ * 0 ≤ _; omega, ?_⟩
        have ul : Wd (Txt.join "" ((s1 :: r1).map one)) := Wd.of (txt_join _) hs1L ho1 (by omega)
        have hwX : HX wd = some (.lst (ws.map V.str)) := zX.keep _ _ newd hw
        have hbX : HX bt = some (.tup (BARRED.map V.str)) := zX.keep _ _ (P0.ne hbt).1 hbtX
        generalize Txt.join "" ((s1 :: r1).map one) = u0 at ul ⊢
        -- the loop that seeks a new word
        refine ⟨fun σ' H'' => ∃ (u : Str) (mo : Option V), σ' = [some (.ref l), some (.int m), some (.str LET), some (.str OTH), some (.ref bt), some (.int size), some (.int at_), some (.int al), some (.int (0 + (i : Int))), some (.ref D), some (.ref wd), some (.ref rw_), some (.str u), mo, none] ∧
          H'' = HX ∧ u ∉ ws ∧ Wd u ∧ u ∉ BARRED, ?_, ?_⟩
        · refine ⟨_, rfl, _, _, rfl, rfl, _, rfl, by omega, by omega, for_range (lo := 0) (n := ((m : Int) + 1).toNat) (fun j σ H'' => ∃ (u : Str) (mo : Option V), σ = [some (.ref l), some (.int m), some (.str LET), some (.str OTH), some (.ref bt), some (.int size), some (.int at_), some (.int al), some (.int (0 + (i : Int))), some (.ref D), some (.ref wd), some (.ref rw_), some (.str u), mo, none] ∧
            H'' = HX ∧ Wd u ∧ (1 ≤ j → u = cand (j - 1) i) ∧ ∀ t, t + 1 < j → cand t i ∈ ws) ?_ ?_ ?_⟩
          · exact ⟨u0, _, rfl, rfl, ul, by omega, by omega⟩
          · rintro j σ H'' hj ⟨u, mo, rfl, rfl, hu, hc, ht⟩
            have hj' : j < m + 1 := by omega
            have nxt : (u ∈ ws ∨ u ∈ BARRED) → ∀ t, t + 1 < j + 1 → cand t i ∈ ws := fun h t h1 => by
              by_cases e : t + 1 < j
              · exact ht t e
              · have e2 : j - 1 = t := by omega
                have e3 := hc (by omega)
                rw [e2] at e3
                rcases h with h | h
                · rw [← e3]; exact h
                · rw [e3] at h; exact absurd h (cand_bar t i)
            -- the next word that is tried
            have go : (u ∈ ws ∨ u ∈ BARRED) → ∃ (u' : Str) (mo' : Option V), [some (V.ref l), some (V.int m), some (V.str LET), some (V.str OTH), some (V.ref bt), some (V.int size), some (V.int at_), some (V.int al), some (V.int (0 + (i : Int))), some (V.ref D), some (V.ref wd), some (V.ref rw_), some (V.str (("w" : Str) ++ (toString (0 + (j : Int)) : Str) ++ ("_" : Str) ++ (toString (0 + (i : Int)) : Str))), some (V.int (0 + (j : Int))), none] = [some (.ref l), some (.int m), some (.str LET), some (.str OTH), some (.ref bt), some (.int size), some (.int at_), some (.int al), some (.int (0 + (i : Int))), some (.ref D), some (.ref wd), some (.ref rw_), some (.str u'), mo', none] ∧
                H'' = H'' ∧ Wd u' ∧ (1 ≤ j + 1 → u' = cand (j + 1 - 1) i) ∧ ∀ t, t + 1 < j + 1 → cand t i ∈ ws := fun h => by
              have e : (("w" : Str) ++ (toString (0 + (j : Int)) : Str) ++ ("_" : Str) ++ (toString (0 + (i : Int)) : Str)) = cand j i := by rw [Int.zero_add, Int.zero_add]; rfl
              have hl := cand_len (j := j) (k := i) (by omega) (by omega)
              exact ⟨_, _, rfl, rfl, by rw [e]; exact cand_wd (by omega) (by omega), fun _ => e, nxt h⟩
            have lj := str_len j (by omega)
            have li := str_len i (by omega)
            have lgj : (0 + (j : Int)).natAbs.log2 < 1920 := Nat.lt_of_lt_of_le (PySem.Flt.log2_lt_of (k := 5) (by decide) (by show (0 + (j : Int)).natAbs < 32; omega)) (by decide)
            have lgi : (0 + (i : Int)).natAbs.log2 < 1920 := Nat.lt_of_lt_of_le (PySem.Flt.log2_lt_of (k := 5) (by decide) (by show (0 + (i : Int)).natAbs < 32; omega)) (by decide)
            refine ⟨_, rfl, _, rfl, wd, _, rfl, .inl (SqL.of hwX), rfl, flat_strs _, _, rfl, ?_⟩
            rw [inV_str]
            by_cases h1 : u ∈ ws
            · rw [decide_eq_true h1]
              exact iteF ⟨_, rfl, _, rfl, lgj, _, _, rfl, rfl, small (by rw [Int.zero_add]; show 1 + _ ≤ _; omega), _, _, rfl, rfl, small (by rw [Int.zero_add, Str.length_append]; show 1 + _ + 1 ≤ _; omega), _, rfl, _, rfl, lgi, _, _, rfl, rfl, small (by rw [Int.zero_add, Int.zero_add, Str.length_append, Str.length_append]; show 1 + _ + 1 + _ ≤ _; omega), go (.inl h1)⟩
            · rw [decide_eq_false h1]
              refine iteT ⟨_, rfl, _, rfl, bt, _, rfl, .inr (SqT.of hbX), rfl, flat_strs _, _, rfl, ?_⟩
              rw [inV_str]
              by_cases h2 : u ∈ BARRED
              · rw [decide_eq_true h2]
                exact iteF ⟨_, rfl, _, rfl, lgj, _, _, rfl, rfl, small (by rw [Int.zero_add]; show 1 + _ ≤ _; omega), _, _, rfl, rfl, small (by rw [Int.zero_add, Str.length_append]; show 1 + _ + 1 ≤ _; omega), _, rfl, _, rfl, lgi, _, _, rfl, rfl, small (by rw [Int.zero_add, Int.zero_add, Str.length_append, Str.length_append]; show 1 + _ + 1 + _ ≤ _; omega), go (.inr h2)⟩
              · rw [decide_eq_false h2]
                exact iteT ⟨u, _, rfl, rfl, h1, hu, h2⟩
          · rintro σ H'' ⟨u, mo, rfl, rfl, hu, hc, ht⟩
            exact (pigeon (m := m) (k := i) (by omega) (by omega) fun t h => ht t (by omega)).elim
        · rintro σ' H'' ⟨u, mo, rfl, rfl, hu, hul, hub⟩
          refine ⟨_, rfl, .inl ⟨rfl, _, SqL.of hwX⟩, _, rfl, wd, _, _, rfl, rfl, hwX, by rw [List.length_map]; exact smallL (by omega), ?_⟩
          refine ⟨ws ++ [u], _, _, _, _, rfl, (x.trans zX).upd PB hwd, ?_, by rw [List.length_append, hwl]; rfl, nd_snoc hwn hu, fun z hz => ?_⟩
          · rw [upd_same, List.map_append]; rfl
          · rcases List.mem_append.mp hz with h | h
            · exact hw12 z h
            · rw [List.mem_singleton.mp h]; exact ⟨hul, hub⟩
    · rintro σ H' ⟨ws, k', r', w', m', rfl, x, hw, hwl, hwn, hw12⟩
      refine ⟨_, rfl, q H' wd ws (xB.trans x) (xB.free P0 hwd) hw hwl hwn hw12⟩
end
end PK
namespace PK
open PySem L2
/-! ### data of tuples -/
mutual
inductive Dt (K : PySem.W.Frag) (H : Hp) : V → PyData → Prop
  | non : Dt K H .non .none
  | bl (b : Bool) : Dt K H (.bl b) (.bool b)
  | int (i : Int) : Dt K H (.int i) (.int i)
  | str (x : Str) : Dt K H (.str x) (.str x)
  | tup {a : Addr} {xs : List V} {ds : List PyData} : SqT K H a xs → DtAll K H xs ds → Dt K H (.ref a) (.tuple ds)
inductive DtAll (K : PySem.W.Frag) (H : Hp) : List V → List PyData → Prop
  | nil : DtAll K H [] []
  | cons {v : V} {vs : List V} {d : PyData} {ds : List PyData} : Dt K H v d → DtAll K H vs ds → DtAll K H (v :: vs) (d :: ds)
end
section
variable {K : PySem.W.Frag} {H H' : Hp}
mutual
theorem Dt.dp : ∀ (d : PyData) (v : V), Dt K H v d → Dp K H v d
  | .none, _, h => by cases h; exact .non
  | .bool _, _, h => by cases h; exact .bl _
  | .int _, _, h => by cases h; exact .int _
  | .str _, _, h => by cases h; exact .str _
  | .list _, _, h => by cases h
  | .dict _, _, h => by cases h
  | .tuple ds, _, h => by
    cases h with
    | tup s a => exact .tup s (DtAll.dp ds _ a)
theorem DtAll.dp : ∀ (ds : List PyData) (vs : List V), DtAll K H vs ds → DpAll K H vs ds
  | [], _, h => by cases h; exact .nil
  | d :: ds, _, h => by
    cases h with
    | cons h1 h2 => exact .cons (Dt.dp d _ h1) (DtAll.dp ds _ h2)
end
mutual
theorem Dt.mono (hT : ∀ a xs, SqT K H a xs → SqT K H' a xs) : ∀ (d : PyData) (v : V), Dt K H v d → Dt K H' v d
  | .none, _, h => by cases h; exact .non
  | .bool _, _, h => by cases h; exact .bl _
  | .int _, _, h => by cases h; exact .int _
  | .str _, _, h => by cases h; exact .str _
  | .list _, _, h => by cases h
  | .dict _, _, h => by cases h
  | .tuple ds, _, h => by
    cases h with
    | tup s a => exact .tup (hT _ _ s) (DtAll.mono hT ds _ a)
theorem DtAll.mono (hT : ∀ a xs, SqT K H a xs → SqT K H' a xs) : ∀ (ds : List PyData) (vs : List V), DtAll K H vs ds → DtAll K H' vs ds
  | [], _, h => by cases h; exact .nil
  | d :: ds, _, h => by
    cases h with
    | cons h1 h2 => exact .cons (Dt.mono hT d _ h1) (DtAll.mono hT ds _ h2)
end
theorem Same.seqT {a : Addr} {xs : List V} (e : Same H H') (h : SqT K H a xs) : SqT K H' a xs := by
  rcases h with (h | ⟨o, h⟩) | h
  · exact .inl (.inl (e _ _ h))
  · exact .inl (.inr ⟨o, e _ _ h⟩)
  · exact .inr h
theorem Dt.same {d : PyData} {v : V} (h : Dt K H v d) (e : Same H H') : Dt K H' v d := Dt.mono (fun _ _ q => Same.seqT e q) d v h
theorem Dt.ext {l c : Addr} {d : PyData} {v : V} (h : Dt K H v d) (P : Pool H l c) (x : Ext l c H H') : Dt K H' v d := Dt.mono (fun _ _ q => x.seqT P q) d v h
theorem same_new {p : Addr} {o : HO} (h : H p = none) : Same H (upd H p o) := fun b u e => by
  rw [upd_ne (ne_of_none e h)]
  exact e
theorem Dt.new {d : PyData} {v : V} {p : Addr} {o : HO} (h : Dt K H v d) (hp : H p = none) : Dt K (upd H p o) v d := h.same (same_new hp)
theorem Dt.s {v : V} {x : Str} (h : Dt K H v (.str x)) : v = .str x := by cases h; rfl
theorem Dt.i {v : V} {x : Int} (h : Dt K H v (.int x)) : v = .int x := by cases h; rfl
theorem Dt.t1 {v : V} {d : PyData} (h : Dt K H v (.tuple [d])) : ∃ a x, v = .ref a ∧ SqT K H a [x] ∧ Dt K H x d := by
  cases h with
  | tup s a => cases a with
    | cons h1 r => cases r; exact ⟨_, _, rfl, s, h1⟩
theorem Dt.t2 {v : V} {d e : PyData} (h : Dt K H v (.tuple [d, e])) : ∃ a x y, v = .ref a ∧ SqT K H a [x, y] ∧ Dt K H x d ∧ Dt K H y e := by
  cases h with
  | tup s a => cases a with
    | cons h1 r => cases r with
      | cons h2 r => cases r; exact ⟨_, _, _, rfl, s, h1, h2⟩
theorem Dt.t3 {v : V} {d e f : PyData} (h : Dt K H v (.tuple [d, e, f])) : ∃ a x y z, v = .ref a ∧ SqT K H a [x, y, z] ∧ Dt K H x d ∧ Dt K H y e ∧ Dt K H z f := by
  cases h with
  | tup s a => cases a with
    | cons h1 r => cases r with
      | cons h2 r => cases r with
        | cons h3 r => cases r; exact ⟨_, _, _, _, rfl, s, h1, h2, h3⟩
theorem Dt.tn {v : V} {ds : List PyData} (h : Dt K H v (.tuple ds)) : ∃ a xs, v = .ref a ∧ SqT K H a xs ∧ DtAll K H xs ds := by
  cases h with
  | tup s a => exact ⟨_, _, rfl, s, a⟩
theorem Dt.mk2 {p : Addr} {x y : V} {d e : PyData} (hp : H p = none) (h1 : Dt K H x d) (h2 : Dt K H y e) : Dt K (upd H p (.tup [x, y])) (.ref p) (.tuple [d, e]) :=
  .tup (SqT.of upd_same) (.cons (h1.new hp) (.cons (h2.new hp) .nil))
theorem Dt.mk3 {p : Addr} {x y z : V} {d e f : PyData} (hp : H p = none) (h1 : Dt K H x d) (h2 : Dt K H y e) (h3 : Dt K H z f) : Dt K (upd H p (.tup [x, y, z])) (.ref p) (.tuple [d, e, f]) :=
  .tup (SqT.of upd_same) (.cons (h1.new hp) (.cons (h2.new hp) (.cons (h3.new hp) .nil)))
theorem Dt.mk1 {p : Addr} {x : V} {d : PyData} (hp : H p = none) (h1 : Dt K H x d) : Dt K (upd H p (.tup [x])) (.ref p) (.tuple [d]) :=
  .tup (SqT.of upd_same) (.cons (h1.new hp) .nil)
end
/-- xs[j] of a name, a tuple -/
theorem vTx {K : PySem.W.Frag} {σ : L2.St} {H : Hp} {Q : VK} {i : Nat} {p : Addr} {xs : List V} {j : Int} {v : V} (h : σ[i]? = some (some (.ref p))) (hl : SqT K H p xs) (ha : atI xs j = some v) (q : Q v H) :
    tOp (rIxT K) (tVar i) (tC (.int j)) σ H Q := ⟨_, h, p, xs, j, v, rfl, rfl, hl, ha, q⟩
section
variable {s t : Str} {A B : Prop}
theorem sT (e : s = t) (h : A) : if decide (V.str s = V.str t) = true then A else B := by rw [decide_eq_true (by rw [e])]; exact iteT h
theorem sF (e : s ≠ t) (h : B) : if decide (V.str s = V.str t) = true then A else B := by rw [decide_eq_false (fun z => e (V.str.inj z))]; exact iteF h
theorem nT (e : s ≠ t) (h : A) : if (!decide (V.str s = V.str t)) = true then A else B := by rw [decide_eq_false (fun z => e (V.str.inj z))]; exact iteT h
theorem nF (e : s = t) (h : B) : if (!decide (V.str s = V.str t)) = true then A else B := by rw [decide_eq_true (by rw [e])]; exact iteF h
end
theorem Same.upd {H H' : Hp} {p : Addr} {o : HO} (e : Same H H') (h : H p = none) : Same H (L2.upd H' p o) := fun b u q => by
  rw [upd_ne (ne_of_none q h)]
  exact e _ _ q
/-- isinstance(x, T) of a name and a built-in class -/
theorem vIsi {σ : L2.St} {H : Hp} {Q : VK} {i : Nat} {v : V} {U Tn : String} {b : Bool} (h : σ[i]? = some (some v)) (ty : TyX K H v (.type U)) (kb : kitB U Tn = some b) (q : Q (.bl b) H) :
    tCB (rIsi K) (tCons (tVar i) (tCons (tC (.ty Tn)) tNil)) σ H Q := ⟨_, h, v, .ty Tn, _, _, b, rfl, .ty Tn, ty, kit_ty kb, q⟩
theorem ty_tup {H : Hp} {a : Addr} {xs : List V} (h : SqT K H a xs) : TyX K H (.ref a) (.type "tuple") := by
  rcases h with (h | ⟨o, h⟩) | ⟨o, its, n, h, hc, _⟩
  · exact .base (.tup h)
  · exact .fTuple h
  · exact .kTuple h hc
theorem ty_lst {H : Hp} {a : Addr} {xs : List V} (h : SqL K H a xs) : TyX K H (.ref a) (.type "list") := by
  rcases h with (h | ⟨o, h⟩) | ⟨o, its, n, h, hc, _⟩
  · exact .base (.lst h)
  · exact .base (.frz h)
  · exact .kList h hc
theorem DtAll.append {K : PySem.W.Frag} {H : Hp} : ∀ {xs ys : List V} {ds es : List PyData}, DtAll K H xs ds → DtAll K H ys es → DtAll K H (xs ++ ys) (ds ++ es)
  | _, _, _, _, .nil, h => h
  | _, _, _, _, .cons a b, h => .cons a (DtAll.append b h)
/-- a list that grows is no tuple -/
theorem seqT_upd {K : PySem.W.Frag} {H : Hp} {D a : Addr} {vs ws zs : List V} (h : SqT K H a zs) (hD : H D = some (.lst vs)) : SqT K (upd H D (.lst ws)) a zs := by
  rcases h with (h | ⟨o, h⟩) | h
  · exact .inl (.inl (by rw [upd_ne (ne_of h hD (fun z => by cases z))]; exact h))
  · exact .inl (.inr ⟨o, by rw [upd_ne (ne_of h hD (fun z => by cases z))]; exact h⟩)
  · exact .inr h
theorem seqT_updK {K : PySem.W.Frag} {H : Hp} {D a : Addr} {kvs kvs' : List (Key × V)} {zs : List V} (h : SqT K H a zs) (hD : H D = some (.dK kvs)) : SqT K (upd H D (.dK kvs')) a zs := by
  rcases h with (h | ⟨o, h⟩) | h
  · exact .inl (.inl (by rw [upd_ne (ne_of h hD (fun z => by cases z))]; exact h))
  · exact .inl (.inr ⟨o, by rw [upd_ne (ne_of h hD (fun z => by cases z))]; exact h⟩)
  · exact .inr h
theorem valV_hd {k : Key} {v : V} {r : List (Key × V)} : valV ((k, v) :: r) k = some v := by simp [valV]
theorem valV_tl {k k' : Key} {v : V} {r : List (Key × V)} (h : k' ≠ k) : valV ((k', v) :: r) k = valV r k := by simp [valV, h]
theorem Pool.same {H H' : Hp} {l c : Addr} (P : Pool H l c) (e : Same H H') : Pool H' l c := by
  obtain ⟨ns, i, r, s, hl, hc, z⟩ := P
  exact ⟨ns, i, r, s, e _ _ hl, e _ _ hc, z⟩
theorem Ext.same {H H1 H2 : Hp} {l c : Addr} (x : Ext l c H H1) (e : Same H1 H2) : Ext l c H H2 := ⟨fun b o hb h => e _ _ (x.keep b o hb h), x.pool.same e⟩
/-- a new tuple at the end of a list of data -/
theorem snoc_data {K : PySem.W.Frag} {H : Hp} {D t : Addr} {o : HO} {vs : List V} {ds : List PyData} {d : PyData} (da : DtAll K H vs ds) (hD : H D = some (.lst vs)) (ht : H t = none) (dt : Dt K (upd H t o) (.ref t) d) :
    (upd H t o) D = some (.lst vs) ∧ DtAll K (upd (upd H t o) D (.lst (vs ++ [.ref t]))) (vs ++ [.ref t]) (ds ++ [d]) := by
  have h1 : (upd H t o) D = some (.lst vs) := by rw [upd_ne (ne_of_none hD ht)]; exact hD
  refine ⟨h1, DtAll.mono (fun _ _ z => seqT_upd z h1) _ _ (DtAll.append (DtAll.mono (fun _ _ z => Same.seqT (same_new ht) z) _ _ da) (.cons dt .nil))⟩
theorem DtAll.ext {K : PySem.W.Frag} {H H' : Hp} {l c : Addr} {vs : List V} {ds : List PyData} (h : DtAll K H vs ds) (P : Pool H l c) (x : Ext l c H H') : DtAll K H' vs ds := DtAll.mono (fun _ _ z => x.seqT P z) _ _ h
theorem DtAll.same {K : PySem.W.Frag} {H H' : Hp} {vs : List V} {ds : List PyData} (h : DtAll K H vs ds) (x : Same H H') : DtAll K H' vs ds := DtAll.mono (fun _ _ z => Same.seqT x z) _ _ h
end PK
namespace PK
open PySem L2
/-! _law_same -/
section
variable {K : PySem.W.Frag} {H H' : Hp}
mutual
theorem Dp.mono (hT : ∀ a xs, SqT K H a xs → SqT K H' a xs) (hL : ∀ a xs, SqL K H a xs → SqL K H' a xs) : ∀ (d : PyData) (v : V), Dp K H v d → Dp K H' v d
  | .none, _, h => by cases h; exact .non
  | .bool _, _, h => by cases h; exact .bl _
  | .int _, _, h => by cases h; exact .int _
  | .str _, _, h => by cases h; exact .str _
  | .dict _, _, h => by cases h
  | .list ds, _, h => by
    cases h with
    | lst s a => exact .lst (hL _ _ s) (DpAll.mono hT hL ds _ a)
  | .tuple ds, _, h => by
    cases h with
    | tup s a => exact .tup (hT _ _ s) (DpAll.mono hT hL ds _ a)
theorem DpAll.mono (hT : ∀ a xs, SqT K H a xs → SqT K H' a xs) (hL : ∀ a xs, SqL K H a xs → SqL K H' a xs) : ∀ (ds : List PyData) (vs : List V), DpAll K H vs ds → DpAll K H' vs ds
  | [], _, h => by cases h; exact .nil
  | d :: ds, _, h => by
    cases h with
    | cons h1 h2 => exact .cons (Dp.mono hT hL d _ h1) (DpAll.mono hT hL ds _ h2)
end
theorem Dp.same {d : PyData} {v : V} (h : Dp K H v d) (e : Same H H') : Dp K H' v d := Dp.mono (fun _ _ q => Same.seqT e q) (fun _ _ q => e.seq q) d v h
theorem DpAll.length : ∀ {xs : List V} {ds : List PyData}, DpAll K H xs ds → xs.length = ds.length
  | _, _, .nil => rfl
  | _, _, .cons _ t => by rw [List.length_cons, List.length_cons, DpAll.length t]
theorem DpAll.get : ∀ {xs : List V} {ds : List PyData} {i : Nat} {d : PyData}, DpAll K H xs ds → ds[i]? = some d → ∃ x, xs[i]? = some x ∧ Dp K H x d
  | _, _, _, _, .nil, e => by simp at e
  | _, _, 0, _, .cons h _, e => by simp at e; subst e; exact ⟨_, rfl, h⟩
  | _, _, i + 1, _, .cons _ t, e => by
    obtain ⟨d, h1, h2⟩ := DpAll.get (i := i) t (by simpa using e)
    exact ⟨d, by simpa using h1, h2⟩
end
theorem depth_get : ∀ {ds : List PyData} {i : Nat} {d : PyData}, ds[i]? = some d → d.depth ≤ PyData.depthAll ds
  | [], _, _, e => by simp at e
  | x :: r, 0, d, e => by
    simp at e; subst e
    show _ ≤ max _ _
    exact Nat.le_max_left _ _
  | x :: r, i + 1, d, e => by
    have ih := depth_get (ds := r) (i := i) (d := d) (by simpa using e)
    show _ ≤ max _ _
    exact Nat.le_trans ih (Nat.le_max_right _ _)
mutual
/-- no list in it is long -/
def slim : PyData → Bool
  | .none | .bool _ | .int _ | .str _ => true
  | .list xs | .tuple xs => decide (xs.length ≤ 1000) && slimAll xs
  | .dict _ => false
def slimAll : List PyData → Bool
  | [] => true
  | x :: xs => slim x && slimAll xs
end
theorem slim_get : ∀ {ds : List PyData} {i : Nat} {d : PyData}, slimAll ds = true → ds[i]? = some d → slim d = true
  | [], _, _, _, e => by simp at e
  | x :: r, 0, d, h, e => by
    simp at e; subst e
    unfold slimAll at h
    exact (Bool.and_eq_true_iff.mp h).1
  | x :: r, i + 1, d, h, e => by
    unfold slimAll at h
    exact slim_get (ds := r) (i := i) (Bool.and_eq_true_iff.mp h).2 (by simpa using e)
theorem slim_seq {ds : List PyData} (h : slim (.tuple ds) = true) : ds.length ≤ 1000 ∧ slimAll ds = true := by
  unfold slim at h
  exact ⟨of_decide_eq_true (Bool.and_eq_true_iff.mp h).1, (Bool.and_eq_true_iff.mp h).2⟩
theorem slim_lst {ds : List PyData} (h : slim (.list ds) = true) : ds.length ≤ 1000 ∧ slimAll ds = true := by
  unfold slim at h
  exact ⟨of_decide_eq_true (Bool.and_eq_true_iff.mp h).1, (Bool.and_eq_true_iff.mp h).2⟩
def spSame (K : PySem.W.Frag) (n : Nat) : Sp := fun vs H Q _ => ∃ (x y : V) (d : PyData), vs = [x, y] ∧ Dp K H x d ∧ Dp K H y d ∧ d.depth < n ∧ slim d = true ∧ ∀ H', Same H H' → Q (.bl true) H'
theorem bF {b : Bool} {A B : Prop} (h : B) : if (!decide (V.bl b = V.bl b)) = true then A else B := by
  rw [decide_eq_true rfl]; exact iteF h
section
variable {P : Program} {w : World} {K : PySem.W.Frag} {mg : Str → Option Value} {base : Heap}
abbrev s_law_same : Stmt := topS 22
theorem sc_law_same : FnScope ["actual", "due", "k"] ["actual", "due"] (defScope s_law_same) := ⟨rfl, rfl, rfl, by decide +kernel, rfl, by decide +kernel, by decide +kernel⟩
-- slots: 0:actual(cell) 1:due(cell) 2:k(comp)
theorem ok_same {n : Nat} {f : Addr} {fd : FuncData} (F : Fun K "_law_same" "_law_same" s_law_same f fd) (T : Txt K mg) (C_law_same : C8.Cal P w K mg base n "_law_same" (spSame K n) []) :
    FnOk P w K mg base CX0 (n + 1) f fd ["actual", "due"] (spSame K (n + 1)) := by
  refine F.ok sc_law_same (fun vs H Q E h => ?_) (fun cdv A outer s H vs Q E hr h => ?_)
  · obtain ⟨x, y, d, rfl, _⟩ := h
    rfl
  obtain ⟨x, y, d, rfl, hx, hy, hd, hsl, q⟩ := h
  refine ⟨_, (pss_cons (ps_if (pt_cmpR op_isN (pv 1) pe_non (nomark _)) (pss_one (ps_ret (pe_cmpR op_isN (pv 0) pe_non (nomark _)))) pss_nil)
    (pss_cons (ps_if (PW.pt (pw_or (pt_cmpR op_ne (pe_callB call_isi (by rfl) T.z_isinstance (by decide +kernel) (pa_cons (pv 1) (pa_cons (pe_bltn (v := .ty "tuple") (by rfl) T.z_tuple (by decide +kernel) rfl) pa_nil))) (pe_callB call_isi (by rfl) T.z_isinstance (by decide +kernel) (pa_cons (pv 0) (pa_cons (pe_bltn (v := .ty "tuple") (by rfl) T.z_tuple (by decide +kernel) rfl) pa_nil))) (nomark _)) (pw_or1 (pt_cmpR op_ne (pe_callB call_isi (by rfl) T.z_isinstance (by decide +kernel) (pa_cons (pv 1) (pa_cons (pe_bltn (v := .ty "list") (by rfl) T.z_list (by decide +kernel) rfl) pa_nil))) (pe_callB call_isi (by rfl) T.z_isinstance (by decide +kernel) (pa_cons (pv 0) (pa_cons (pe_bltn (v := .ty "list") (by rfl) T.z_list (by decide +kernel) rfl) pa_nil))) (nomark _))))) (pss_one (ps_ret pe_bl)) pss_nil)
    (pss_cons (ps_if (PW.pt (pw_or (pt_val (pe_callB call_isi (by rfl) T.z_isinstance (by decide +kernel) (pa_cons (pv 1) (pa_cons (pe_bltn (v := .ty "tuple") (by rfl) T.z_tuple (by decide +kernel) rfl) pa_nil)))) (pw_or1 (pt_val (pe_callB call_isi (by rfl) T.z_isinstance (by decide +kernel) (pa_cons (pv 1) (pa_cons (pe_bltn (v := .ty "list") (by rfl) T.z_list (by decide +kernel) rfl) pa_nil))))))) (pss_one (ps_ret (pe_and (pe_cmpR op_eq (pe_callB call_len_seq (by rfl) T.z_len (by decide +kernel) (pa_cons (pv 0) pa_nil)) (pe_callB call_len_seq (by rfl) T.z_len (by decide +kernel) (pa_cons (pv 1) pa_nil)) (nomark _)) (pe_one (pe_callB (cr_all (by rfl)) (by rfl) T.z_all (by decide +kernel) (pa_cons (pe_lc (own := [("k", 2)]) (g := (gName 2)) (tt := tYes) (by rfl) sc_law_same.nd (pi_range1 (by rfl) T.z_range (pa_cons (pe_callB call_len_seq (by rfl) T.z_len (by decide +kernel) (pa_cons (pv 1) pa_nil)) pa_nil)) (blkOk_by (N := ["actual", "due", "k"]) (sc := defScope s_law_same) (by decide +kernel)) (fun _ _ _ _ _ => (pg_name (i := 2) sc_law_same.nd rfl (Or.inl rfl))) (fun _ _ _ _ _ => pts_nil) (fun _ _ _ _ _ => (C8.pe_c C_law_same hr (by omega) rfl (pa_cons (pe_ix (r := rIx K) ix_seq (pv 0) (pv 2) (fun _ _ => rfl)) (pa_cons (pe_ix (r := rIx K) ix_seq (pv 1) (pv 2) (fun _ _ => rfl)) pa_nil))))) pa_nil)))))) pss_nil)
    (pss_cons (ps_if (PW.pt (pw_or (pt_cmpR op_ne (pe_callB call_isi (by rfl) T.z_isinstance (by decide +kernel) (pa_cons (pv 1) (pa_cons (pe_bltn (v := .ty "bool") (by rfl) T.z_bool (by decide +kernel) rfl) pa_nil))) (pe_callB call_isi (by rfl) T.z_isinstance (by decide +kernel) (pa_cons (pv 0) (pa_cons (pe_bltn (v := .ty "bool") (by rfl) T.z_bool (by decide +kernel) rfl) pa_nil))) (nomark _)) (pw_or1 (pt_cmpR op_ne (pe_callB call_isi (by rfl) T.z_isinstance (by decide +kernel) (pa_cons (pv 1) (pa_cons (pe_bltn (v := .ty "str") (by rfl) T.z_str (by decide +kernel) rfl) pa_nil))) (pe_callB call_isi (by rfl) T.z_isinstance (by decide +kernel) (pa_cons (pv 0) (pa_cons (pe_bltn (v := .ty "str") (by rfl) T.z_str (by decide +kernel) rfl) pa_nil))) (nomark _))))) (pss_one (ps_ret pe_bl)) pss_nil)
    (pss_one (ps_ret (pe_and (pe_cmpR op_eq (pe_callB call_isi (by rfl) T.z_isinstance (by decide +kernel) (pa_cons (pv 1) (pa_cons (pe_bltn (v := .ty "int") (by rfl) T.z_int (by decide +kernel) rfl) pa_nil))) (pe_callB call_isi (by rfl) T.z_isinstance (by decide +kernel) (pa_cons (pv 0) (pa_cons (pe_bltn (v := .ty "int") (by rfl) T.z_int (by decide +kernel) rfl) pa_nil))) (nomark _)) (pe_one (pe_cmpR op_eq (pv 0) (pv 1) (nomark _)))))))))), ?_⟩
  have q0 := q H (Same.refl H)
  -- what is left for a scalar
  cases d with
  | none =>
    cases hx; cases hy
    exact ⟨_, rfl, rfl, _, rfl, iteT ⟨_, rfl, rfl, q0⟩⟩
  | bool b =>
    cases hx; cases hy
    have ty : TyX K H (.bl b) (.type "bool") := .base (.bl b)
    refine ⟨_, rfl, rfl, _, rfl, iteF (vIsi rfl ty (b := false) (by decide +kernel) (vIsi rfl ty (b := false) (by decide +kernel) ⟨rfl, _, rfl, bF (vIsi rfl ty (b := false) (by decide +kernel) (vIsi rfl ty (b := false) (by decide +kernel) ⟨rfl, _, rfl, bF ?_⟩))⟩))⟩
    refine vIsi rfl ty (b := false) (by decide +kernel) ⟨_, rfl, iteF (vIsi rfl ty (b := false) (by decide +kernel) ⟨_, rfl, iteF ?_⟩)⟩
    refine vIsi rfl ty (b := true) (by decide +kernel) (vIsi rfl ty (b := true) (by decide +kernel) ⟨rfl, _, rfl, bF (vIsi rfl ty (b := false) (by decide +kernel) (vIsi rfl ty (b := false) (by decide +kernel) ⟨rfl, _, rfl, bF ?_⟩))⟩)
    refine vIsi rfl ty (b := true) (by decide +kernel) (vIsi rfl ty (b := true) (by decide +kernel) ⟨rfl, _, rfl, ?_⟩)
    refine iteT ⟨_, rfl, _, rfl, rfl, ?_⟩
    rw [decide_eq_true rfl]
    exact q0
  | int b =>
    cases hx; cases hy
    have ty : TyX K H (.int b) (.type "int") := .base (.int b)
    refine ⟨_, rfl, rfl, _, rfl, iteF (vIsi rfl ty (b := false) (by decide +kernel) (vIsi rfl ty (b := false) (by decide +kernel) ⟨rfl, _, rfl, bF (vIsi rfl ty (b := false) (by decide +kernel) (vIsi rfl ty (b := false) (by decide +kernel) ⟨rfl, _, rfl, bF ?_⟩))⟩))⟩
    refine vIsi rfl ty (b := false) (by decide +kernel) ⟨_, rfl, iteF (vIsi rfl ty (b := false) (by decide +kernel) ⟨_, rfl, iteF ?_⟩)⟩
    refine vIsi rfl ty (b := false) (by decide +kernel) (vIsi rfl ty (b := false) (by decide +kernel) ⟨rfl, _, rfl, bF (vIsi rfl ty (b := false) (by decide +kernel) (vIsi rfl ty (b := false) (by decide +kernel) ⟨rfl, _, rfl, bF ?_⟩))⟩)
    refine vIsi rfl ty (b := true) (by decide +kernel) (vIsi rfl ty (b := true) (by decide +kernel) ⟨rfl, _, rfl, ?_⟩)
    refine iteT ⟨_, rfl, _, rfl, rfl, ?_⟩
    rw [decide_eq_true rfl]
    exact q0
  | str b =>
    cases hx; cases hy
    have ty : TyX K H (.str b) (.type "str") := .base (.str b)
    refine ⟨_, rfl, rfl, _, rfl, iteF (vIsi rfl ty (b := false) (by decide +kernel) (vIsi rfl ty (b := false) (by decide +kernel) ⟨rfl, _, rfl, bF (vIsi rfl ty (b := false) (by decide +kernel) (vIsi rfl ty (b := false) (by decide +kernel) ⟨rfl, _, rfl, bF ?_⟩))⟩))⟩
    refine vIsi rfl ty (b := false) (by decide +kernel) ⟨_, rfl, iteF (vIsi rfl ty (b := false) (by decide +kernel) ⟨_, rfl, iteF ?_⟩)⟩
    refine vIsi rfl ty (b := false) (by decide +kernel) (vIsi rfl ty (b := false) (by decide +kernel) ⟨rfl, _, rfl, bF (vIsi rfl ty (b := true) (by decide +kernel) (vIsi rfl ty (b := true) (by decide +kernel) ⟨rfl, _, rfl, bF ?_⟩))⟩)
    refine vIsi rfl ty (b := false) (by decide +kernel) (vIsi rfl ty (b := false) (by decide +kernel) ⟨rfl, _, rfl, ?_⟩)
    refine iteT ⟨_, rfl, _, rfl, rfl, ?_⟩
    rw [decide_eq_true rfl]
    exact q0
  | dict kvs => cases hx
  | tuple ds =>
    cases hx with
    | tup sx ax =>
    cases hy with
    | tup sy ay =>
    rename_i px xs py ys
    have tx := ty_tup sx
    have ty := ty_tup sy
    have lx := DpAll.length ax
    have ly := DpAll.length ay
    have hd' : PyData.depthAll ds + 1 < n + 1 := hd
    obtain ⟨hz, hsa⟩ := slim_seq hsl
    refine ⟨_, rfl, rfl, _, rfl, iteF (vIsi rfl ty (b := true) (by decide +kernel) (vIsi rfl tx (b := true) (by decide +kernel) ⟨rfl, _, rfl, bF (vIsi rfl ty (b := false) (by decide +kernel) (vIsi rfl tx (b := false) (by decide +kernel) ⟨rfl, _, rfl, bF ?_⟩))⟩))⟩
    refine vIsi rfl ty (b := true) (by decide +kernel) ⟨_, rfl, iteT (iteT ?_)⟩
    refine ⟨_, rfl, px, _, rfl, .inr sx, _, rfl, py, _, rfl, .inr sy, rfl, _, rfl, ?_⟩
    rw [show xs.length = ys.length by omega, decide_eq_true rfl]
    refine iteT ⟨_, rfl, py, _, rfl, .inr sy, _, rfl, by omega, by omega, fun D hD => lc_range (lo := 0) (n := ((ys.length : Nat) : Int).toNat) (fun i H' => i ≤ ys.length ∧ Same H H' ∧ H' D = some (.lst ((List.replicate i true).map V.bl))) ?_ ?_ ?_⟩
    · exact ⟨Nat.zero_le _, same_new hD, upd_same⟩
    · rintro i H' hi ⟨_, sm, hl⟩
      have hi' : i < ys.length := by omega
      have hi2 : i < ds.length := by omega
      have gd : ds[i]? = some ds[i] := List.getElem?_eq_getElem hi2
      obtain ⟨x1, gx, dx⟩ := DpAll.get ax gd
      obtain ⟨y1, gy, dy⟩ := DpAll.get ay gd
      have dd := depth_get gd
      have e0 : (0 : Int) + (i : Int) = (i : Int) := Int.zero_add _
      refine ⟨rfl, yes_ ⟨_, rfl, _, rfl, .inr (.inl ⟨px, xs, _, x1, rfl, rfl, Same.seqT sm sx, by rw [e0]; exact atI_nat gx, ?_⟩)⟩⟩
      refine ⟨_, rfl, _, rfl, .inr (.inl ⟨py, ys, _, y1, rfl, rfl, Same.seqT sm sy, by rw [e0]; exact atI_nat gy, ?_⟩)⟩
      refine ⟨x1, y1, ds[i], rfl, Dp.same dx sm, Dp.same dy sm, by omega, slim_get hsa gd, fun H2 s2 => ⟨_, s2 _ _ hl, ?_, hi', Same.upd (sm.trans s2) hD, ?_⟩⟩
      · rw [List.length_map, List.length_replicate]; exact smallL (by omega)
      · rw [upd_same, List.replicate_succ', List.map_append]; rfl
    · rintro H' ⟨_, sm, hl⟩
      refine ⟨D, _, rfl, SqL.of hl, ?_⟩
      have e2 : (List.replicate ((ys.length : Nat) : Int).toNat true).all id = true := by simp
      rw [e2]
      exact q H' sm
  | list ds =>
    cases hx with
    | lst sx ax =>
    cases hy with
    | lst sy ay =>
    rename_i px xs py ys
    have tx := ty_lst sx
    have ty := ty_lst sy
    have lx := DpAll.length ax
    have ly := DpAll.length ay
    have hd' : PyData.depthAll ds + 1 < n + 1 := hd
    obtain ⟨hz, hsa⟩ := slim_lst hsl
    refine ⟨_, rfl, rfl, _, rfl, iteF (vIsi rfl ty (b := false) (by decide +kernel) (vIsi rfl tx (b := false) (by decide +kernel) ⟨rfl, _, rfl, bF (vIsi rfl ty (b := true) (by decide +kernel) (vIsi rfl tx (b := true) (by decide +kernel) ⟨rfl, _, rfl, bF ?_⟩))⟩))⟩
    refine vIsi rfl ty (b := false) (by decide +kernel) ⟨_, rfl, iteF (vIsi rfl ty (b := true) (by decide +kernel) ⟨_, rfl, iteT ?_⟩)⟩
    refine ⟨_, rfl, px, _, rfl, .inl sx, _, rfl, py, _, rfl, .inl sy, rfl, _, rfl, ?_⟩
    rw [show xs.length = ys.length by omega, decide_eq_true rfl]
    refine iteT ⟨_, rfl, py, _, rfl, .inl sy, _, rfl, by omega, by omega, fun D hD => lc_range (lo := 0) (n := ((ys.length : Nat) : Int).toNat) (fun i H' => i ≤ ys.length ∧ Same H H' ∧ H' D = some (.lst ((List.replicate i true).map V.bl))) ?_ ?_ ?_⟩
    · exact ⟨Nat.zero_le _, same_new hD, upd_same⟩
    · rintro i H' hi ⟨_, sm, hl⟩
      have hi' : i < ys.length := by omega
      have hi2 : i < ds.length := by omega
      have gd : ds[i]? = some ds[i] := List.getElem?_eq_getElem hi2
      obtain ⟨x1, gx, dx⟩ := DpAll.get ax gd
      obtain ⟨y1, gy, dy⟩ := DpAll.get ay gd
      have dd := depth_get gd
      have e0 : (0 : Int) + (i : Int) = (i : Int) := Int.zero_add _
      refine ⟨rfl, yes_ ⟨_, rfl, _, rfl, .inl (id ⟨px, xs, _, x1, rfl, rfl, sm.seq sx, by rw [e0]; exact atI_nat gx, ?_⟩)⟩⟩
      refine ⟨_, rfl, _, rfl, .inl (id ⟨py, ys, _, y1, rfl, rfl, sm.seq sy, by rw [e0]; exact atI_nat gy, ?_⟩)⟩
      refine ⟨x1, y1, ds[i], rfl, Dp.same dx sm, Dp.same dy sm, by omega, slim_get hsa gd, fun H2 s2 => ⟨_, s2 _ _ hl, ?_, hi', Same.upd (sm.trans s2) hD, ?_⟩⟩
      · rw [List.length_map, List.length_replicate]; exact smallL (by omega)
      · rw [upd_same, List.replicate_succ', List.map_append]; rfl
    · rintro H' ⟨_, sm, hl⟩
      refine ⟨D, _, rfl, SqL.of hl, ?_⟩
      have e2 : (List.replicate ((ys.length : Nat) : Int).toNat true).all id = true := by simp
      rw [e2]
      exact q H' sm
end
end PK
namespace PK
open PySem L2
/-! the pool -/
def enc (z : Int) : Int := if 0 ≤ z then 2 * z else -2 * z - 1
def spPool (K : PySem.W.Frag) : Sp := fun vs H Q _ => ∃ (a : Addr) (ns : List Int), vs = [.ref a] ∧ SqL K H a (ns.map V.int) ∧ ns.length ≤ 63 ∧
  ∀ (H' : Hp) (l c : Addr), Same H H' → H l = none → Pool H' l c → Q (.ref l) H'
section
variable {P : Program} {w : World} {K : PySem.W.Frag} {mg : Str → Option Value} {base : Heap}
abbrev s_law_pool : Stmt := topS 18
theorem sc_law_pool : FnScope ["script", "cell"] ["script"] (defScope s_law_pool) := ⟨rfl, rfl, rfl, by decide +kernel, rfl, by decide +kernel, by decide +kernel⟩
-- slots: 0:script 1:cell(comp)
theorem ok_pool {f : Addr} {fd : FuncData} (F : Fun K "_law_pool" "_law_pool" s_law_pool f fd) :
    FnOk P w K mg base CX0 1 f fd ["script"] (spPool K) := by
  refine F.ok sc_law_pool (fun vs H Q E h => ?_) (fun cdv A outer s H vs Q E hr h => ?_)
  · obtain ⟨a, ns, rfl, _⟩ := h
    rfl
  obtain ⟨a, ns, rfl, hS, hlen, q⟩ := h
  refine ⟨_, (pss_one (ps_ret (pe_lst (pa_cons (pe_lc (own := [("cell", 1)]) (g := (gName 1)) (tt := tYes) (by rfl) sc_law_pool.nd (pi_list (pv 0)) (blkOk_by (N := ["script", "cell"]) (sc := defScope s_law_pool) (by decide +kernel)) (fun _ _ _ _ _ => (pg_name (i := 1) sc_law_pool.nd rfl (Or.inl rfl))) (fun _ _ _ _ _ => pts_nil) (fun _ _ _ _ _ => (pe_ifExp (pt_cmpR op_ge (pv 1) pe_int (nomark _)) (pe_op op_mul pe_int (pv 1)) (pe_op op_sub (pe_op op_mul (pe_un un_neg pe_int) (pv 1)) pe_int)))) (pa_cons pe_int (pa_cons pe_int (pa_cons pe_int pa_nil))))))), ?_⟩
  refine ⟨_, rfl, a, rfl, ⟨_, hS⟩, fun D hD => lc_list (K := K) (a := a) (xs := ns.map V.int) (fun i H' => i ≤ ns.length ∧ Same H H' ∧ H' D = some (.lst (((ns.take i).map enc).map V.int))) ⟨Nat.zero_le _, same_new hD, upd_same⟩ (fun i H' _ h => h.2.1.seq hS) ?_ ?_⟩
  · rintro i x H' hi ⟨_, sm, hd⟩
    have hi2 : i < ns.length := by
      have := (List.getElem?_eq_some_iff.mp hi).1
      rw [List.length_map] at this
      exact this
    rw [List.getElem?_map, List.getElem?_eq_getElem hi2] at hi
    cases hi
    have fin : ∀ z : Int, z = enc ns[i] → upd H' D (.lst (((ns.take i).map enc).map V.int ++ [V.int z])) D = some (.lst (((ns.take (i + 1)).map enc).map V.int)) := fun z e => by
      rw [upd_same, List.take_add_one, List.getElem?_eq_getElem hi2, List.map_append, List.map_append, e]
      rfl
    have ll : (((ns.take i).map enc).map V.int).length < sizeLine := by
      rw [List.length_map, List.length_map, List.length_take]
      exact smallL (by omega)
    refine ⟨rfl, yes_ ⟨_, rfl, _, _, rfl, rfl, _, rfl, ite2 (fun e => ?_) (fun e => ?_)⟩⟩
    · have e' : ns[i] ≥ 0 := of_decide_eq_true e
      exact ⟨_, rfl, _, _, rfl, rfl, .inl ⟨by decide, by decide⟩, _, hd, ll, hi2, Same.upd sm hD, fin _ (by unfold enc; rw [if_pos e'])⟩
    · have e' : ¬ ns[i] ≥ 0 := fun z => e (decide_eq_true z)
      exact ⟨_, rfl, _, rfl, _, _, rfl, rfl, .inl ⟨by decide, by decide⟩, _, _, rfl, rfl, _, hd, ll, hi2, Same.upd sm hD, fin _ (by unfold enc; rw [if_neg (by omega)])⟩
  · rintro H' ⟨_, sm, hd⟩
    rw [List.length_map, List.take_of_length_le (Nat.le_refl _)] at hd
    refine ⟨small (by show 4 ≤ _; decide), fun p hp => ?_⟩
    refine q _ p D (Same.upd sm (sm.free hp)) (sm.free hp) ⟨ns.map enc, 0, 0, 17, upd_same, by rw [upd_ne (ne_of_none hd hp)]; exact hd, ne_of_none hd hp, fun n hn => ?_, by decide, by decide, by decide, by decide, False.elim⟩
    obtain ⟨z, _, rfl⟩ := List.mem_map.mp hn
    unfold enc
    split <;> omega
end
/-! slim data -/
theorem slim_tup {ds : List PyData} (h : ds.length ≤ 1000) (h2 : slimAll ds = true) : slim (.tuple ds) = true := by
  unfold slim
  exact Bool.and_eq_true_iff.mpr ⟨decide_eq_true h, h2⟩
theorem slim_list {ds : List PyData} (h : ds.length ≤ 1000) (h2 : slimAll ds = true) : slim (.list ds) = true := by
  unfold slim
  exact Bool.and_eq_true_iff.mpr ⟨decide_eq_true h, h2⟩
theorem slim_all : ∀ {ds : List PyData}, (∀ d ∈ ds, slim d = true) → slimAll ds = true
  | [], _ => by unfold slimAll; rfl
  | d :: r, h => by
    unfold slimAll
    exact Bool.and_eq_true_iff.mpr ⟨h d List.mem_cons_self, slim_all fun x hx => h x (List.mem_cons_of_mem _ hx)⟩
theorem slim_str (x : Str) : slim (.str x) = true := by unfold slim; rfl
theorem depth_all : ∀ {ds : List PyData} {n : Nat}, (∀ d ∈ ds, d.depth ≤ n) → PyData.depthAll ds ≤ n
  | [], _, _ => Nat.zero_le _
  | d :: r, n, h => by
    show max _ _ ≤ n
    have h1 := h d List.mem_cons_self
    have h2 := depth_all (ds := r) fun x hx => h x (List.mem_cons_of_mem _ hx)
    omega
/-! the dict of what is found -/
end PK
namespace PK
open PySem L2
section
variable {X : Cx} {x : Str} {p : Pos}
theorem pe_glI {n : Int} (hg : Gl X x) (h : ∃ t, X.mg x = some (.int n t)) (hd : (x == ("__debug__" : Str)) = false := by decide) : PE X (.Name x p) (tC (.int n)) := by
  obtain ⟨t, h⟩ := h
  exact pe_glob hg h ⟨_, rfl⟩ hd
theorem pe_glS {s : Str} (hg : Gl X x) (h : ∃ t, X.mg x = some (.str s t)) (hd : (x == ("__debug__" : Str)) = false := by decide) : PE X (.Name x p) (tC (.str s)) := by
  obtain ⟨t, h⟩ := h
  exact pe_glob hg h ⟨_, rfl⟩ hd
end
theorem le_le {i j k : Int} {H : Hp} {Q : Bool → Hp → Prop} (h : Q (decide (i ≤ j ∧ j ≤ k)) H) :
    ∃ a b, V.int i = .int a ∧ V.int j = .int b ∧ ∃ y, V.bl (decide (a ≤ b)) = .bl y ∧ (if y = true then ∃ a b, V.int j = .int a ∧ V.int k = .int b ∧ ∃ z, V.bl (decide (a ≤ b)) = .bl z ∧ Q z H else ∃ z, V.bl false = .bl z ∧ Q z H) := by
  refine ⟨_, _, rfl, rfl, _, rfl, ?_⟩
  by_cases e : i ≤ j
  · rw [decide_eq_true e]
    refine iteT ⟨_, _, rfl, rfl, _, rfl, ?_⟩
    by_cases f : j ≤ k
    · rw [decide_eq_true f]; rwa [decide_eq_true ⟨e, f⟩] at h
    · rw [decide_eq_false f]; rwa [decide_eq_false (fun z => f z.2)] at h
  · rw [decide_eq_false e]
    refine iteF ⟨_, rfl, ?_⟩
    rwa [decide_eq_false (fun z => e z.1)] at h
/-- a list or a tuple -/
def Sq (K : PySem.W.Frag) (H : Hp) (p : Addr) (xs : List V) : Prop := SqL K H p xs ∨ SqT K H p xs
theorem Sq.same {K : PySem.W.Frag} {H H' : Hp} {p : Addr} {xs : List V} (h : Sq K H p xs) (e : Same H H') : Sq K H' p xs := h.imp (fun q => e.seq q) fun q => Same.seqT e q
theorem for_seq {K : PySem.W.Frag} {i : Nat} {p : Addr} {xs : List V} {g : TG} {tb : TS} {D : Ends} {σ : L2.St} {H0 H : Hp} (hq : Sq K H0 p xs) (hv : σ[i]? = some (some (.ref p))) (Pv : Nat → L2.St → Hp → Prop) (h0 : Pv 0 σ H)
    (hG : ∀ i σ H, i ≤ xs.length → Pv i σ H → Same H0 H) (hs : ∀ i x σ H, xs[i]? = some x → Pv i σ H → g x σ H fun σ2 H2 => tb { D with nx := Pv (i + 1), ct := Pv (i + 1), bk := D.nx } σ2 H2) (hd : ∀ σ H, Pv xs.length σ H → D.nx σ H) :
    tFor (fun σ H R => iList K (tVar i) σ H R ∨ iTup K (tVar i) σ H R) g tb D σ H := by
  have e0 := hG 0 σ H (Nat.zero_le _) h0
  rcases hq with hq | hq
  · refine .inl ⟨_, hv, p, rfl, ⟨xs, e0.seq hq⟩, for_it (walk_list (xs := xs)) Pv h0 (fun j σ H hj k => (hG j σ H hj k).seq hq) (fun j x σ H H' hj k y => ?_) hd⟩
    obtain ⟨rfl, gx⟩ := y
    exact hs j x σ H' gx k
  · refine .inr ⟨_, hv, p, rfl, ⟨xs, Same.seqT e0 hq⟩, for_it (walk_tup (xs := xs)) Pv h0 (fun j σ H hj k => Same.seqT (hG j σ H hj k) hq) (fun j x σ H H' hj k y => ?_) hd⟩
    obtain ⟨rfl, gx⟩ := y
    exact hs j x σ H' gx k
theorem walk_enumT {K : PySem.W.Frag} {a : Addr} {xs : List V} : Walk (PKR.ItE K a) xs.length (fun H => SqT K H a xs) (YPair (fun i => some (.int (i : Nat))) (fun i => xs[i]?)) := by
  refine ⟨fun i _ hi q => ⟨xs, xs[i], q, by simp [hi]⟩, fun _ q => ⟨xs, q, rfl⟩, fun i H v H' _ q y => ?_⟩
  obtain ⟨T, x, h1, h2, h3, h4⟩ := y
  exact ⟨T, .int (i : Nat), x, h1, h2, h3, rfl, h4 xs q⟩
theorem for_enum {K : PySem.W.Frag} {i : Nat} {p : Addr} {xs : List V} {g : TG} {tb : TS} {D : Ends} {σ : L2.St} {H0 H : Hp} (hq : Sq K H0 p xs) (hv : σ[i]? = some (some (.ref p))) (Pv : Nat → L2.St → Hp → Prop) (h0 : Pv 0 σ H)
    (hG : ∀ i σ H, i ≤ xs.length → Pv i σ H → Same H0 H) (hs : ∀ i x σ H T, xs[i]? = some x → Pv i σ H → H T = none → g (.ref T) σ (upd H T (.tup [.int (i : Nat), x])) fun σ2 H2 => tb { D with nx := Pv (i + 1), ct := Pv (i + 1), bk := D.nx } σ2 H2)
    (hd : ∀ σ H, Pv xs.length σ H → D.nx σ H) :
    tFor (fun σ H R => iEnum K (tCons (tVar i) tNil) σ H R ∨ PKR.iEnumT K (tCons (tVar i) tNil) σ H R) g tb D σ H := by
  have e0 := hG 0 σ H (Nat.zero_le _) h0
  rcases hq with hq | hq
  · refine .inl ⟨_, hv, p, xs, rfl, e0.seq hq, for_it (walk_enum (xs := xs)) Pv h0 (fun j σ H hj k => (hG j σ H hj k).seq hq) (fun j x σ H H' hj k y => ?_) hd⟩
    obtain ⟨T, a, b, rfl, hT, rfl, ea, eb⟩ := y
    cases ea
    exact hs j b σ H T eb k hT
  · refine .inr ⟨_, hv, p, xs, rfl, Same.seqT e0 hq, for_it (walk_enumT (xs := xs)) Pv h0 (fun j σ H hj k => Same.seqT (hG j σ H hj k) hq) (fun j x σ H H' hj k y => ?_) hd⟩
    obtain ⟨T, a, b, rfl, hT, rfl, ea, eb⟩ := y
    cases ea
    exact hs j b σ H T eb k hT
structure TxtP (K : PySem.W.Frag) (mg : Str → Option Value) (aR : Addr) : Prop extends Txt K mg where
  z_enumerate : mg "enumerate" = none
  g_MC : ∃ t, mg "MOST_CHARACTERS" = some (.int 12 t)
  g_MA : ∃ t, mg "MOST_ARGUMENTS" = some (.int 6 t)
  g_MO : ∃ t, mg "MOST_CONSTRUCTORS" = some (.int 40 t)
  g_LET : ∃ t, mg "LETTERS" = some (.str LET t)
  g_OTH : ∃ t, mg "WORD_CHARACTERS" = some (.str OTH t)
  g_R : mg "_RESERVED" = some (.ref aR)
  bar : ∀ H, SqT K H aR (BARRED.map V.str)
def isWd (x : Str) : Bool := decide (1 ≤ x.length ∧ x.length ≤ 12) && (decide (x.cps.toList.headD 0 ∈ LET.cps.toList) && x.cps.toList.all fun s => decide (s ∈ OTH.cps.toList))
def spWord : Sp := fun vs H Q _ => ∃ x : Str, vs = [.str x] ∧ x.length ≤ 1000 ∧ ∀ H', Same H H' → Q (.bl (isWd x)) H'
def spWhole : Sp := fun vs H Q _ => ∃ n : Int, vs = [.int n] ∧ Q (.bl true) H
section
variable {P : Program} {w : World} {K : PySem.W.Frag} {mg : Str → Option Value} {base : Heap} {aR : Addr}
abbrev s_is_word : Stmt := topS 6
theorem sc_is_word : FnScope ["text", "sign"] ["text"] (defScope s_is_word) := ⟨rfl, rfl, rfl, by decide +kernel, rfl, by decide +kernel, by decide +kernel⟩
-- slots: 0:text 1:sign(comp)
abbrev s_is_whole : Stmt := topS 7
theorem sc_is_whole : FnScope ["number"] ["number"] (defScope s_is_whole) := ⟨rfl, rfl, rfl, by decide +kernel, rfl, by decide +kernel, by decide +kernel⟩
-- slots: 0:number
theorem ok_whole {f : Addr} {fd : FuncData} (F : Fun K "is_whole" "is_whole" s_is_whole f fd) (T : TxtP K mg aR) : FnOk P w K mg base CX0 1 f fd ["number"] spWhole := by
  refine F.ok sc_is_whole (fun vs H Q E h => ?_) (fun cdv A outer s H vs Q E hr h => ?_)
  · obtain ⟨x, rfl, _⟩ := h
    rfl
  obtain ⟨n, rfl, q⟩ := h
  refine ⟨_, (pss_one (ps_ret (pe_and (pe_callB call_isi (by rfl) T.z_isinstance (by decide +kernel) (pa_cons (pv 0) (pa_cons (pe_bltn (v := .ty "int") (by rfl) T.z_int (by decide +kernel) rfl) pa_nil))) (pe_one (pe_not (pe_callB call_isi (by rfl) T.z_isinstance (by decide +kernel) (pa_cons (pv 0) (pa_cons (pe_bltn (v := .ty "bool") (by rfl) T.z_bool (by decide +kernel) rfl) pa_nil)))))))), ?_⟩
  have ty : TyX K H (.int n) (.type "int") := .base (.int n)
  refine vIsi rfl ty (b := true) (by decide +kernel) ⟨_, rfl, iteT (vIsi rfl ty (b := false) (by decide +kernel) ⟨_, rfl, ?_⟩)⟩
  exact q
theorem ok_word {f : Addr} {fd : FuncData} (F : Fun K "is_word" "is_word" s_is_word f fd) (T : TxtP K mg aR) : FnOk P w K mg base CX0 1 f fd ["text"] spWord := by
  refine F.ok sc_is_word (fun vs H Q E h => ?_) (fun cdv A outer s H vs Q E hr h => ?_)
  · obtain ⟨x, rfl, _⟩ := h
    rfl
  obtain ⟨x, rfl, hx, q⟩ := h
  refine ⟨_, (pss_cons (ps_if (PW.pt (pw_or (pt_not (pt_val (pe_callB call_isi (by rfl) T.z_isinstance (by decide +kernel) (pa_cons (pv 0) (pa_cons (pe_bltn (v := .ty "str") (by rfl) T.z_str (by decide +kernel) rfl) pa_nil))))) (pw_or1 (pt_not (pt_chain op_le op_le pe_int (pe_callB call_len_str (by rfl) T.z_len (by decide +kernel) (pa_cons (pv 0) pa_nil)) (pe_glI (n := 12) rfl T.g_MC)))))) (pss_one (ps_ret pe_bl)) pss_nil)
    (pss_one (ps_ret (pe_and (pe_cmpR op_in_sign (pe_ix ix_str (pv 0) pe_int (fun _ _ => rfl)) (pe_glS (s := LET) rfl T.g_LET) rfl) (pe_one (pe_callB (cr_all (by rfl)) (by rfl) T.z_all (by decide +kernel) (pa_cons (pe_lc (own := [("sign", 1)]) (g := (gName 1)) (tt := tYes) (by rfl) sc_is_word.nd (pi_str (pv 0)) (blkOk_by (N := ["text", "sign"]) (sc := defScope s_is_word) (by decide +kernel)) (fun _ _ _ _ _ => (pg_name (i := 1) sc_is_word.nd rfl (Or.inl rfl))) (fun _ _ _ _ _ => pts_nil) (fun _ _ _ _ _ => (pe_cmpR op_in_sign (pv 1) (pe_glS (s := OTH) rfl T.g_OTH) rfl))) pa_nil))))))), ?_⟩
  have ty : TyX K H (.str x) (.type "str") := .base (.str x)
  refine vIsi rfl ty (b := true) (by decide +kernel) ?_
  refine ⟨_, rfl, iteF ⟨_, rfl, x, rfl, small (by omega), le_le ?_⟩⟩
  by_cases hl : 1 ≤ x.length ∧ x.length ≤ 12
  · rw [decide_eq_true (show (1 : Int) ≤ (x.length : Int) ∧ (x.length : Int) ≤ 12 by omega)]
    have en : x.cps.toList.length = x.length := (len_list x).symm
    obtain ⟨s0, r, e0⟩ : ∃ s0 r, x.cps.toList = s0 :: r := by
      cases e : x.cps.toList with
      | nil => rw [e] at en; simp at en; omega
      | cons a b => exact ⟨a, b, rfl⟩
    refine iteF ⟨_, rfl, x, 0, s0, rfl, rfl, small (by omega), by rw [e0]; exact atI_nat (j := 0) rfl, s0, LET, rfl, rfl, ⟨_, rfl, ?_⟩⟩
    have fin : isWd x = (decide (s0 ∈ LET.cps.toList) && x.cps.toList.all fun s => decide (s ∈ OTH.cps.toList)) := by
      unfold isWd
      rw [decide_eq_true hl, e0]; rfl
    by_cases h0 : s0 ∈ LET.cps.toList
    · rw [decide_eq_true h0]
      refine iteT ⟨_, rfl, x, rfl, fun D hD => lc_it (walk_str (z := x)) (fun i H' => Same H H' ∧ H' D = some (.lst (((x.cps.toList.take i).map fun s => decide (s ∈ OTH.cps.toList)).map V.bl))) ?_ (fun _ _ _ _ => trivial) ?_ ?_⟩
      · exact ⟨same_new hD, upd_same⟩
      · rintro i v H1 H2 hi ⟨sm, hd⟩ ⟨rfl, c, gc, rfl⟩
        have gl : x.cps.toList[i]? = some c := by simpa using gc
        refine ⟨rfl, yes_ ⟨_, rfl, c, OTH, rfl, rfl, _, hd, ?_, Same.upd sm hD, ?_⟩⟩
        · rw [List.length_map, List.length_map, List.length_take]; exact smallL (by omega)
        · rw [upd_same, List.take_add_one, gl]; simp
      · rintro H' ⟨sm, hd⟩
        have z : x.cps.toList.take x.cps.size = x.cps.toList := List.take_of_length_le (by simp)
        rw [z] at hd
        refine ⟨D, _, rfl, SqL.of hd, ?_⟩
        have := q H' sm
        rw [fin, decide_eq_true h0, Bool.true_and] at this
        rwa [List.all_map]
    · rw [decide_eq_false h0]
      refine iteF ?_
      have := q H (Same.refl H)
      rwa [fin, decide_eq_false h0, Bool.false_and] at this
  · rw [decide_eq_false (show ¬ ((1 : Int) ≤ (x.length : Int) ∧ (x.length : Int) ≤ 12) by omega)]
    have := q H (Same.refl H)
    unfold isWd at this
    rw [decide_eq_false hl, Bool.false_and] at this
    exact iteT this
end
end PK
namespace PK
open PySem L2
theorem le_lt {i j k : Int} {H : Hp} {Q : Bool → Hp → Prop} (h : Q (decide (i ≤ j ∧ j < k)) H) :
    ∃ a b, V.int i = .int a ∧ V.int j = .int b ∧ ∃ y, V.bl (decide (a ≤ b)) = .bl y ∧ (if y = true then ∃ u, some (some (V.int k)) = some (some u) ∧ ∃ a b, V.int j = .int a ∧ u = .int b ∧ ∃ z, V.bl (decide (a < b)) = .bl z ∧ Q z H else ∃ z, V.bl false = .bl z ∧ Q z H) := by
  refine ⟨_, _, rfl, rfl, _, rfl, ?_⟩
  by_cases e : i ≤ j
  · rw [decide_eq_true e]
    refine iteT ⟨_, rfl, _, _, rfl, rfl, _, rfl, ?_⟩
    by_cases f : j < k
    · rw [decide_eq_true f]; rwa [decide_eq_true ⟨e, f⟩] at h
    · rw [decide_eq_false f]; rwa [decide_eq_false (fun z => f z.2)] at h
  · rw [decide_eq_false e]
    refine iteF ⟨_, rfl, ?_⟩
    rwa [decide_eq_false (fun z => e z.1)] at h
def seenK (ks : List Key) : List (Key × V) := ks.map fun k => (k, V.bl true)
theorem seen_val (k : Key) : ∀ ks : List Key, (valV (seenK ks) k).isSome = true ↔ k ∈ ks
  | [] => by simp [seenK, valV]
  | a :: r => by
    rw [← valV_any]
    have ih := seen_val k r
    rw [← valV_any] at ih
    unfold seenK at ih ⊢
    rw [List.map_cons, List.any_cons, Bool.or_eq_true, ih, List.mem_cons, decide_eq_true_iff]
    exact ⟨fun h => h.imp Eq.symm id, fun h => h.imp Eq.symm id⟩
theorem seen_no {k : Key} {ks : List Key} (h : k ∉ ks) : valV (seenK ks) k = none := by
  cases e : valV (seenK ks) k with
  | none => rfl
  | some v => exact absurd ((seen_val k ks).mp (by rw [e]; rfl)) h
theorem seen_yes {k : Key} {ks : List Key} (h : k ∈ ks) : (valV (seenK ks) k).isSome = true := (seen_val k ks).mpr h
theorem seen_put {k : Key} {ks : List Key} (h : k ∉ ks) : putK (seenK ks) k (.bl true) = seenK (ks ++ [k]) := by
  rw [putK_new _ (seen_no h)]
  unfold seenK
  simp
theorem seen_len (ks : List Key) : (seenK ks).length = ks.length := List.length_map ..
def okPl (many : Int) (ps : List Int) : Bool := decide (ps.Nodup ∧ ∀ p ∈ ps, 0 ≤ p ∧ p < many)
def spPlaces (K : PySem.W.Frag) : Sp := fun vs H Q _ => ∃ (p : Addr) (many : Int) (ps : List Int), vs = [.ref p, .int many] ∧ Sq K H p (ps.map V.int) ∧ ps.length ≤ 1000 ∧ ∀ H', Same H H' → Q (.bl (okPl many ps)) H'
structure Rw where
  name : Str
  many : Int
  kind : Str
  strict : List Int
def RowAt (K : PySem.W.Frag) (H : Hp) (v : V) (r : Rw) : Prop := ∃ a p, v = .ref a ∧ SqT K H a [.str r.name, .int r.many, .str r.kind, .ref p] ∧ Sq K H p (r.strict.map V.int)
theorem RowAt.same {K : PySem.W.Frag} {H H' : Hp} {v : V} {r : Rw} (h : RowAt K H v r) (e : Same H H') : RowAt K H' v r := by
  obtain ⟨a, p, rfl, h1, h2⟩ := h
  exact ⟨a, p, rfl, Same.seqT e h1, h2.same e⟩
def Rw.small (r : Rw) : Prop := r.name.length ≤ 1000 ∧ r.strict.length ≤ 1000
def Rw.wrong (r : Rw) : Option Str :=
  if isWd r.name = false ∨ r.name ∈ BARRED then some "name" else if ¬ (0 ≤ r.many ∧ r.many ≤ 6) then some "many" else if r.kind ∉ (["value", "plain"] : List Str) then some "kind" else if okPl r.many r.strict = false then some "strict" else none
def optV : Option Str → V
  | none => .non
  | some s => .str s
def spWrong (K : PySem.W.Frag) : Sp := fun vs H Q _ => ∃ (v : V) (r : Rw), vs = [v] ∧ RowAt K H v r ∧ r.small ∧ ∀ H', Same H H' → Q (optV r.wrong) H'
section
variable {P : Program} {w : World} {K : PySem.W.Frag} {mg : Str → Option Value} {base : Heap} {aR : Addr}
abbrev s_are_places : Stmt := topS 16
theorem sc_are_places : FnScope ["strict", "many", "seen", "place"] ["strict", "many"] (defScope s_are_places) := ⟨rfl, rfl, rfl, by decide +kernel, rfl, by decide +kernel, by decide +kernel⟩
-- slots: 0:strict 1:many 2:seen 3:place
abbrev s_wrong_part : Stmt := topS 15
theorem sc_wrong_part : FnScope ["constructor", "name", "many", "kind", "strict"] ["constructor"] (defScope s_wrong_part) := ⟨rfl, rfl, rfl, by decide +kernel, rfl, by decide +kernel, by decide +kernel⟩
-- slots: 0:constructor 1:name 2:many 3:kind 4:strict
theorem ok_places {f : Addr} {fd : FuncData} (F : Fun K "_are_places" "_are_places" s_are_places f fd) (T : TxtP K mg aR) (C_is_whole : C8.Cal P w K mg base 1 "is_whole" spWhole []) :
    FnOk P w K mg base CX0 2 f fd ["strict", "many"] (spPlaces K) := by
  refine F.ok sc_are_places (fun vs H Q E h => ?_) (fun cdv A outer s H vs Q E hr h => ?_)
  · obtain ⟨_, _, _, rfl, _⟩ := h
    rfl
  obtain ⟨p, many, ps, rfl, hp, hl, q⟩ := h
  refine ⟨_, (pss_cons (ps_set (i := 2) sc_are_places.nd rfl (Or.inl rfl) pe_dnewK)
    (pss_cons (ps_for PassesOwn.never rfl (PKR.pi_or (pi_list (pv 0)) (pi_tup (pv 0))) (pg_name (i := 3) sc_are_places.nd rfl (Or.inl rfl)) (pss_cons (ps_if (PW.pt (pw_or (pt_not (pt_val (C8.pe_c C_is_whole hr (by decide) rfl (pa_cons (pv 3) pa_nil)))) (pw_or (pt_not (pt_chain op_le op_lt pe_int (pv 3) (pv 1))) (pw_or1 (pt_cmp (pc_din (hu_of hr) (pv 3) (pv 2))))))) (pss_one (ps_ret pe_bl)) pss_nil)
    (pss_one (ps_dput (hu_of hr) (pv 2) (pv 3) pe_bl rfl))))
    (pss_one (ps_ret pe_bl)))), ?_⟩
  intro d hd
  refine for_seq (H0 := H) hp rfl (fun i σ H' => ∃ pl, σ = [some (.ref p), some (.int many), some (.ref d), pl] ∧ Same H H' ∧ H' d = some (.dK (seenK ((ps.take i).map Sum.inl))) ∧ okPl many (ps.take i) = true) ?_ (fun i σ H' _ h => ?_) ?_ ?_
  · exact ⟨none, rfl, same_new hd, upd_same, rfl⟩
  · obtain ⟨_, _, h, _⟩ := h
    exact h
  · rintro i x σ H' gx ⟨pl, rfl, sm, hdd, ok⟩
    have gp : ∃ n, ps[i]? = some n ∧ x = .int n := by
      rw [List.getElem?_map] at gx
      cases e : ps[i]? with
      | none => rw [e] at gx; cases gx
      | some n => rw [e] at gx; cases gx; exact ⟨n, rfl, rfl⟩
    obtain ⟨n, gn, rfl⟩ := gp
    refine ⟨_, rfl, n, rfl, ⟨_, rfl, iteF ?_⟩⟩
    refine ⟨_, rfl, le_lt ?_⟩
    have tk : ps.take (i + 1) = ps.take i ++ [n] := by rw [List.take_add_one, gn]; rfl
    obtain ⟨nd, rg⟩ := of_decide_eq_true (show decide _ = true from ok)
    have sub : okPl many ps = true → okPl many (ps.take (i + 1)) = true := fun h => by
      obtain ⟨h1, h2⟩ := of_decide_eq_true (show decide _ = true from h)
      exact decide_eq_true ⟨h1.sublist (List.take_sublist ..), fun p hp => h2 p (List.mem_of_mem_take hp)⟩
    have bad : okPl many (ps.take (i + 1)) = false → Q (.bl false) H' := fun h => by
      have : okPl many ps = false := by
        cases e : okPl many ps with
        | false => rfl
        | true => rw [sub e] at h; cases h
      rw [← this]
      exact q H' sm
    by_cases hr1 : 0 ≤ n ∧ n < many
    · rw [decide_eq_true hr1]
      refine iteF ⟨_, rfl, _, rfl, d, _, rfl, DGet.k (k := Sum.inl n) hdd, ?_⟩
      by_cases hm : n ∈ ps.take i
      · rw [seen_yes (List.mem_map_of_mem hm)]
        refine ⟨_, rfl, iteT (bad (decide_eq_false fun z => ?_))⟩
        have z1 := z.1
        rw [tk, List.nodup_append] at z1
        exact z1.2.2 n hm n (by simp) rfl
      · have hk : (Sum.inl n : Key) ∉ (ps.take i).map Sum.inl := fun z => by
          obtain ⟨m, h1, h2⟩ := List.mem_map.mp z
          cases h2
          exact hm h1
        rw [seen_no hk]
        have hlt : (seenK ((ps.take i).map Sum.inl)).length < sizeLine := by
          rw [seen_len, List.length_map, List.length_take]; exact smallL (by omega)
        refine ⟨_, rfl, iteF ⟨_, rfl, _, rfl, d, _, rfl, DPut.k (k := Sum.inl n) hdd hlt, _, rfl, ?_⟩⟩
        refine ⟨fun b o e => ?_, ?_, ?_⟩
        · rw [upd_ne (ne_of_none e hd)]; exact sm b o e
        · rw [upd_same, seen_put hk, tk, List.map_append]; rfl
        · refine decide_eq_true ⟨?_, fun p hp => ?_⟩
          · rw [tk, List.nodup_append]
            refine ⟨nd, by simp, fun a ha b hb e => ?_⟩
            rw [List.mem_singleton] at hb
            subst hb e
            exact hm ha
          · rw [tk] at hp
            rcases List.mem_append.mp hp with z | z
            · exact rg p z
            · rw [List.mem_singleton.mp z]; exact hr1
    · rw [decide_eq_false hr1]
      refine iteT (bad (decide_eq_false fun z => hr1 (z.2 n ?_)))
      rw [tk]
      simp
  · rintro σ H' ⟨pl, rfl, sm, hdd, ok⟩
    have := q H' sm
    rw [List.length_map, List.take_length] at ok
    rw [ok] at this
    exact this
theorem ok_wrong {f : Addr} {fd : FuncData} (F : Fun K "_wrong_part" "_wrong_part" s_wrong_part f fd) (T : TxtP K mg aR) (C_is_whole : C8.Cal P w K mg base 1 "is_whole" spWhole []) (C_is_word : C8.Cal P w K mg base 1 "is_word" spWord [])
    (C_are_places : C8.Cal P w K mg base 2 "_are_places" (spPlaces K) []) : FnOk P w K mg base CX0 3 f fd ["constructor"] (spWrong K) := by
  refine F.ok sc_wrong_part (fun vs H Q E h => ?_) (fun cdv A outer s H vs Q E hr h => ?_)
  · obtain ⟨_, _, rfl, _⟩ := h
    rfl
  obtain ⟨v, ⟨name, many, kind, strict⟩, rfl, ⟨a, p, rfl, hs, hp⟩, ⟨hz1, hz2⟩, q⟩ := h
  refine ⟨_, (pss_cons (ps_asg (pv 0) (pg_tup (by rfl) (pgs_cons (pg_name (i := 1) sc_wrong_part.nd rfl (Or.inl rfl)) (pgs_cons (pg_name (i := 2) sc_wrong_part.nd rfl (Or.inl rfl)) (pgs_cons (pg_name (i := 3) sc_wrong_part.nd rfl (Or.inl rfl)) (pgs_cons (pg_name (i := 4) sc_wrong_part.nd rfl (Or.inl rfl)) pgs_nil))))))
    (pss_cons (ps_if (PW.pt (pw_or (pt_not (pt_val (C8.pe_c C_is_word hr (by decide) rfl (pa_cons (pv 1) pa_nil)))) (pw_or1 (pt_cmpR op_in_seq (pv 1) (pe_glob (v := .ref aR) rfl T.g_R rfl) rfl)))) (pss_one (ps_ret pe_str)) pss_nil)
    (pss_cons (ps_if (PW.pt (pw_or (pt_not (pt_val (C8.pe_c C_is_whole hr (by decide) rfl (pa_cons (pv 2) pa_nil)))) (pw_or1 (pt_not (pt_chain op_le op_le pe_int (pv 2) (pe_glI (n := 6) rfl T.g_MA)))))) (pss_one (ps_ret pe_str)) pss_nil)
    (pss_cons (ps_if (pt_cmpR op_notIn_seq (pv 3) (pe_tup (pa_cons pe_str (pa_cons pe_str pa_nil))) rfl) (pss_one (ps_ret pe_str)) pss_nil)
    (pss_cons (ps_if (pt_not (pt_val (C8.pe_c C_are_places hr (by decide) rfl (pa_cons (pv 4) (pa_cons (pv 2) pa_nil))))) (pss_one (ps_ret pe_str)) pss_nil)
    (pss_one (ps_ret pe_non))))))), ?_⟩
  refine ⟨_, rfl, a, _, rfl, hs, rfl, _, _, rfl, _, _, rfl, _, _, rfl, _, _, rfl, rfl, ?_⟩
  have fin : ∀ {x : V} {H' : Hp}, Same H H' → x = optV (Rw.wrong ⟨name, many, kind, strict⟩) → Q x H' := fun sm e => e ▸ q _ sm
  refine ⟨_, rfl, name, rfl, hz1, fun H1 s1 => ⟨_, rfl, ?_⟩⟩
  cases h1 : isWd name with
  | false => exact iteT (fin s1 (by unfold Rw.wrong; rw [if_pos (.inl h1)]; rfl))
  | true =>
  refine iteF ⟨_, rfl, aR, _, rfl, .inr (T.bar _), rfl, flat_strs _, _, rfl, ?_⟩
  rw [inV_str]
  by_cases h2 : name ∈ BARRED
  · rw [decide_eq_true h2]
    exact iteT (fin s1 (by unfold Rw.wrong; rw [if_pos (.inr h2)]; rfl))
  rw [decide_eq_false h2]
  have e1 : ¬ (isWd name = false ∨ name ∈ BARRED) := fun z => z.elim (fun z => by rw [h1] at z; cases z) h2
  refine iteF ⟨_, rfl, many, rfl, ⟨_, rfl, iteF ⟨_, rfl, le_le ?_⟩⟩⟩
  by_cases e3 : ¬ (0 ≤ many ∧ many ≤ 6)
  · rw [decide_eq_false e3]
    exact iteT (fin s1 (by unfold Rw.wrong; rw [if_neg e1, if_pos e3]; rfl))
  rw [decide_eq_true (Decidable.not_not.mp e3)]
  refine iteF ⟨_, rfl, small (by decide), fun t ht => ⟨t, _, rfl, .inr (SqT.of upd_same), rfl, flat_strs ["value", "plain"], _, rfl, ?_⟩⟩
  have s2 : Same H (upd H1 t (.tup [V.str "value", .str "plain"])) := Same.upd s1 (s1.free ht)
  rw [show inV (V.str kind) [V.str "value", .str "plain"] = decide (kind ∈ (["value", "plain"] : List Str)) from inV_str kind ["value", "plain"]]
  by_cases e4 : kind ∉ (["value", "plain"] : List Str)
  · rw [decide_eq_false e4]
    exact iteT (fin s2 (by unfold Rw.wrong; rw [if_neg e1, if_neg e3, if_pos e4]; rfl))
  rw [decide_eq_true (Decidable.not_not.mp e4)]
  refine iteF ⟨_, rfl, _, rfl, p, many, strict, rfl, hp.same s2, hz2, fun H3 s3 => ⟨_, rfl, ?_⟩⟩
  cases h5 : okPl many strict with
  | false => exact iteT (fin (s2.trans s3) (by unfold Rw.wrong; rw [if_neg e1, if_neg e3, if_neg e4, if_pos h5]; rfl))
  | true => exact iteF (fin (s2.trans s3) (by unfold Rw.wrong; rw [if_neg e1, if_neg e3, if_neg e4, if_neg (by rw [h5]; exact fun z => nomatch z)]; rfl))
end
end PK
namespace PK
open PySem L2
/-! own errors -/
abbrev s_init1 : Stmt := (C8.clsBody (topS 12)).getD 0 (.Pass ⟨0, 0, 0, 0⟩)
abbrev s_init2 : Stmt := (C8.clsBody (topS 13)).getD 0 (.Pass ⟨0, 0, 0, 0⟩)
theorem sc_init1 : FnScope ["self", "reason"] ["self", "reason"] (defScope s_init1) := ⟨rfl, rfl, rfl, by decide +kernel, rfl, by decide +kernel, by decide +kernel⟩
theorem sc_init2 : FnScope ["self", "number", "reason"] ["self", "number", "reason"] (defScope s_init2) := ⟨rfl, rfl, rfl, by decide +kernel, rfl, by decide +kernel, by decide +kernel⟩
structure NoF (K : PySem.W.Frag) (C : Addr) : Prop where
  ox : OexC K C
  n : PySem.W.findIn K (.ref C) "number" = some none
  r : PySem.W.findIn K (.ref C) "reason" = some none
def spI1 (K : PySem.W.Frag) : Sp := fun vs H Q _ => ∃ (C a : Addr) (v : V), vs = [.ref a, v] ∧ NoF K C ∧ H a = some (exo a C none) ∧ ∀ dx, H dx = none → dx ≠ a → Q .non (upd (upd H dx (exd dx [("reason", v)])) a (exo a C (some dx)))
def spI2 (K : PySem.W.Frag) : Sp := fun vs H Q _ => ∃ (C a : Addr) (u v : V), vs = [.ref a, u, v] ∧ NoF K C ∧ H a = some (exo a C none) ∧ ∀ dx, H dx = none → dx ≠ a →
  Q .non (upd (upd (upd H dx (exd dx [("number", u)])) a (exo a C (some dx))) dx (exd dx [("reason", v), ("number", u)]))
section
variable {P : Program} {w : World} {K : PySem.W.Frag} {mg : Str → Option Value} {base : Heap} {aR : Addr}
theorem ok_init1 {qual : Str} {f : Addr} {fd : FuncData} (F : Fun K "__init__" qual s_init1 f fd) : FnOk P w K mg base CX0 1 f fd ["self", "reason"] (spI1 K) := by
  refine F.ok sc_init1 (fun vs H Q E h => ?_) (fun cdv A outer s H vs Q E hr h => ?_)
  · obtain ⟨_, _, _, rfl, _⟩ := h
    rfl
  obtain ⟨C, a, v, rfl, N, ha, q⟩ := h
  refine ⟨_, (pss_one (ps_ost (pv 0) (pv 1))), ?_⟩
  exact ⟨_, rfl, _, rfl, a, C, rfl, N.ox, N.r, .inl ⟨ha, q⟩⟩
theorem ok_init2 {qual : Str} {f : Addr} {fd : FuncData} (F : Fun K "__init__" qual s_init2 f fd) : FnOk P w K mg base CX0 1 f fd ["self", "number", "reason"] (spI2 K) := by
  refine F.ok sc_init2 (fun vs H Q E h => ?_) (fun cdv A outer s H vs Q E hr h => ?_)
  · obtain ⟨_, _, _, _, rfl, _⟩ := h
    rfl
  obtain ⟨C, a, u, v, rfl, N, ha, q⟩ := h
  refine ⟨_, (pss_cons (ps_ost (pv 0) (pv 1)) (pss_one (ps_ost (pv 0) (pv 2)))), ?_⟩
  refine ⟨_, rfl, _, rfl, a, C, rfl, N.ox, N.n, .inl ⟨ha, fun dx hd hne => ?_⟩⟩
  exact ⟨_, rfl, _, rfl, a, C, rfl, N.ox, N.r, .inr ⟨dx, _, upd_same, by rw [upd_ne hne, upd_same], (by show 1 ≤ 900; decide), q dx hd hne⟩⟩
end
/-- an own class that is made by its name -/
structure CalX (P : Program) (w : World) (K : PySem.W.Frag) (mg : Str → Option Value) (base : Heap) (k : Nat) (x : Str) (C : Addr) (sp : Sp) : Prop where
  no : NoF K C
  gC : mg x = some (.ref C)
  ex : ∃ (fI : Addr) (fd : FuncData) (ps : List Str), PySem.W.findIn K (.ref C) "__init__" = some (some (.ref fI)) ∧ PySem.W.typeIn K (.ref fI) = some (.type "function") ∧ FnOk P w K mg base CX0 k fI fd ps sp ∧ Binds K fd ps []
theorem pmk_c {X : Cx} {k j : Nat} {x : Str} {C : Addr} {sp : Sp} {e : Expr} {es : List Expr} {ta : TA} {p pos : Pos} (c : CalX X.prog X.w X.K X.mg X.base k x C sp) (hr : Room j X.A) (hk : k + 1 ≤ j) (hg : Gl X x) (ha : PA X (e :: es) ta)
    (hdb : (x == ("__debug__" : Str)) = false := by decide) (he : starEach (e :: es) X.env = (false, eval e X.env) :: starEach es X.env := by rfl) (hpl : (backTo pos (starEach es X.env)).any (·.1) = false := by rfl) :
    PMk X (.Call (.Name x p) (e :: es) [] pos) (tMkO C sp [] ta) := by
  obtain ⟨fI, fd, ps, i, t, F, b⟩ := c.ex
  exact pmk_oex c.no.ox i t F (hr.mono hk) b .nil pass0 hg c.gC ha hdb he hpl
/-- what is left when the error is made -/
theorem made1 {K : PySem.W.Frag} {C : Addr} {v : V} {σ : L2.St} {H : Hp} {Q : XK} (N : NoF K C) (q : ∀ d H', Same H H' → H' d = some (.xd [("reason", v)]) → Q (.ref C) (some d) H') : tMkO C (spI1 K) [] (fun _ H Q => Q [v] H) σ H Q := by
  refine ⟨(by show 1 ≤ 1000; decide), fun a ha => ⟨C, a, v, rfl, N, upd_same, fun d hd hne => ⟨rfl, d, _, upd_same, by rw [upd_ne hne, upd_same], ?_, q d _ ?_ upd_same⟩⟩⟩
  · rwa [upd_ne hne] at hd
  · rw [upd_ne hne] at hd
    intro b o e
    have h1 := ne_of_none e ha
    have h2 := ne_of_none e hd
    rw [upd_ne h2, del_ne h1, upd_ne h1, upd_ne h2, upd_ne h1]; exact e
theorem made2 {K : PySem.W.Frag} {C : Addr} {u v : V} {σ : L2.St} {H : Hp} {Q : XK} (N : NoF K C) (q : ∀ d H', Same H H' → H' d = some (.xd [("reason", v), ("number", u)]) → Q (.ref C) (some d) H') : tMkO C (spI2 K) [] (fun _ H Q => Q [u, v] H) σ H Q := by
  refine ⟨(by show 2 ≤ 1000; decide), fun a ha => ⟨C, a, u, v, rfl, N, upd_same, fun d hd hne => ⟨rfl, d, _, by rw [upd_ne hne.symm, upd_same], upd_same, ?_, q d _ ?_ upd_same⟩⟩⟩
  · rwa [upd_ne hne] at hd
  · rw [upd_ne hne] at hd
    intro b o e
    have h1 := ne_of_none e ha
    have h2 := ne_of_none e hd
    rw [upd_ne h2, del_ne h1, upd_ne h2, upd_ne h1, upd_ne h2, upd_ne h1]; exact e
end PK
namespace PK
open PySem L2
inductive Er where
  | lang (r : Str)
  | con (i : Nat) (r : Str)
def firstWrong : Nat → List Rw → Option Er
  | _, [] => none
  | i, r :: rs => match r.wrong with
    | some s => some (.con i s)
    | none => firstWrong (i + 1) rs
def firstDouble : Nat → List Str → List Rw → Option Er
  | _, _, [] => none
  | i, seen, r :: rs => if r.name ∈ seen then some (.con i "double") else firstDouble (i + 1) (seen ++ [r.name]) rs
theorem fw_cons (i : Nat) (r : Rw) (rs : List Rw) : firstWrong i (r :: rs) = match r.wrong with
    | some s => some (.con i s)
    | none => firstWrong (i + 1) rs := rfl
theorem fd_cons (i : Nat) (seen : List Str) (r : Rw) (rs : List Rw) : firstDouble i seen (r :: rs) = if r.name ∈ seen then some (.con i "double") else firstDouble (i + 1) (seen ++ [r.name]) rs := rfl
def chk (rows : List Rw) : Option Er :=
  if ¬ (1 ≤ rows.length ∧ rows.length ≤ 40) then some (.lang "constructors") else match firstWrong 0 rows with
    | some e => some e
    | none => firstDouble 0 [] rows
/-- what stands of the rows -/
def Rows (K : PySem.W.Frag) (H : Hp) (vs : List V) (rows : List Rw) : Prop := vs.length = rows.length ∧ ∀ (i : Nat) (v : V) (r : Rw), vs[i]? = some v → rows[i]? = some r → RowAt K H v r
def outE (CL CC : Addr) (H : Hp) (Q : VK) (E : XK) : Option Er → Prop
  | none => ∀ H', Same H H' → Q .non H'
  | some (.lang r) => ∀ d H', Same H H' → H' d = some (.xd [("reason", .str r)]) → E (.ref CL) (some d) H'
  | some (.con i r) => ∀ d H', Same H H' → H' d = some (.xd [("reason", .str r), ("number", .int (i : Nat))]) → E (.ref CC) (some d) H'
def spCheck (K : PySem.W.Frag) (CL CC : Addr) : Sp := fun vs H Q E => ∃ (p : Addr) (ws : List V) (rows : List Rw), vs = [.ref p] ∧ Sq K H p ws ∧ Rows K H ws rows ∧ (∀ r ∈ rows, r.small) ∧ rows.length ≤ 100 ∧ outE CL CC H Q E (chk rows)
theorem outE.same {CL CC : Addr} {H H1 : Hp} {Q : VK} {E : XK} {e : Option Er} (h : outE CL CC H Q E e) (s : Same H H1) : outE CL CC H1 Q E e := by
  cases e with
  | none => exact fun H' s' => h H' (s.trans s')
  | some e =>
    cases e with
    | lang r => exact fun d H' s' => h d H' (s.trans s')
    | con i r => exact fun d H' s' => h d H' (s.trans s')
section
variable {P : Program} {w : World} {K : PySem.W.Frag} {mg : Str → Option Value} {base : Heap} {aR CL CC : Addr}
abbrev s_check_constructors : Stmt := topS 14
theorem sc_check_constructors : FnScope ["constructors", "number", "constructor", "reason", "seen"] ["constructors"] (defScope s_check_constructors) := ⟨rfl, rfl, rfl, by decide +kernel, rfl, by decide +kernel, by decide +kernel⟩
-- slots: 0:constructors 1:number 2:constructor 3:reason 4:seen
theorem ok_check {f : Addr} {fd : FuncData} (F : Fun K "check_constructors" "check_constructors" s_check_constructors f fd) (T : TxtP K mg aR) (C_wrong_part : C8.Cal P w K mg base 3 "_wrong_part" (spWrong K) [])
    (XL : CalX P w K mg base 1 "BadLanguage" CL (spI1 K)) (XC : CalX P w K mg base 1 "BadConstructor" CC (spI2 K)) : FnOk P w K mg base (L2.CX P w) 4 f fd ["constructors"] (spCheck K CL CC) := by
  refine F.okX sc_check_constructors (fun vs H Q E h => ?_) (fun cdv A outer s H vs Q E hr h => ?_)
  · obtain ⟨_, _, _, rfl, _⟩ := h
    rfl
  obtain ⟨p, ws, rows, rfl, hp, hrs, hsm, hlen, q⟩ := h
  refine ⟨_, (pss_cons (ps_if (pt_not (pt_chain op_le op_le pe_int (pe_callB call_len_seq (by rfl) T.z_len (by decide +kernel) (pa_cons (pv 0) pa_nil)) (pe_glI (n := 40) rfl T.g_MO))) (pss_one (ps_raise rfl (takes_of rfl rfl rfl rfl) <| pmk_c XL hr (by decide) rfl (pa_cons pe_str pa_nil))) pss_nil)
    (pss_cons (ps_for (passes_of rfl) rfl (PKR.pi_or (pi_enum (by rfl) T.z_enumerate (pa_cons (pv 0) pa_nil)) (PKR.pi_enumT (by rfl) T.z_enumerate (pa_cons (pv 0) pa_nil))) (pg_tup (by rfl) (pgs_cons (pg_name (i := 1) sc_check_constructors.nd rfl (Or.inl rfl)) (pgs_cons (pg_name (i := 2) sc_check_constructors.nd rfl (Or.inl rfl)) pgs_nil))) (pss_cons (ps_set (i := 3) sc_check_constructors.nd rfl (Or.inl rfl) (C8.pe_c C_wrong_part hr (by decide) rfl (pa_cons (pv 2) pa_nil)))
    (pss_one (ps_if (pt_cmpR op_notN (pv 3) pe_non (nomark _)) (pss_one (ps_raise rfl (takes_of rfl rfl rfl rfl) <| pmk_c XC hr (by decide) rfl (pa_cons (pv 1) (pa_cons (pv 3) pa_nil)))) pss_nil))))
    (pss_cons (ps_set (i := 4) sc_check_constructors.nd rfl (Or.inl rfl) pe_dnewK)
    (pss_one (ps_for (passes_of rfl) rfl (PKR.pi_or (pi_enum (by rfl) T.z_enumerate (pa_cons (pv 0) pa_nil)) (PKR.pi_enumT (by rfl) T.z_enumerate (pa_cons (pv 0) pa_nil))) (pg_tup (by rfl) (pgs_cons (pg_name (i := 1) sc_check_constructors.nd rfl (Or.inl rfl)) (pgs_cons (pg_name (i := 2) sc_check_constructors.nd rfl (Or.inl rfl)) pgs_nil))) (pss_cons (ps_if (pt_cmp (pc_din (hu_of hr) (pe_ix ix_tup (pv 2) pe_int (fun _ _ => rfl)) (pv 4))) (pss_one (ps_raise rfl (takes_of rfl rfl rfl rfl) <| pmk_c XC hr (by decide) rfl (pa_cons (pv 1) (pa_cons pe_str pa_nil)))) pss_nil)
    (pss_one (ps_dput (hu_of hr) (pv 4) (pe_ix ix_tup (pv 2) pe_int (fun _ _ => rfl)) pe_bl rfl)))))))), ?_⟩
  have ew : ws.length = rows.length := hrs.1
  refine ⟨_, rfl, p, ws, rfl, hp, le_le ?_⟩
  by_cases h1 : 1 ≤ rows.length ∧ rows.length ≤ 40
  · rw [decide_eq_true (show (1 : Int) ≤ (ws.length : Int) ∧ (ws.length : Int) ≤ 40 by omega)]
    have ec : chk rows = match firstWrong 0 rows with
        | some e => some e
        | none => firstDouble 0 [] rows := by unfold chk; rw [if_neg (fun z => z h1)]
    refine iteF (for_enum (H0 := H) hp rfl (fun i σ H' => ∃ a b c, σ = [some (.ref p), a, b, c, none] ∧ Same H H' ∧ firstWrong 0 rows = firstWrong i (rows.drop i)) ?_ (fun i σ H' _ h => ?_) ?_ ?_)
    · exact ⟨none, none, none, rfl, Same.refl H, rfl⟩
    · obtain ⟨_, _, _, _, h, _⟩ := h
      exact h
    · rintro i v σ H' t gv ⟨a, b, c, rfl, sm, ef⟩ ht
      have hi : i < rows.length := by
        have := (List.getElem?_eq_some_iff.mp gv).1
        omega
      have gr : rows[i]? = some rows[i] := List.getElem?_eq_getElem hi
      have s1 : Same H (upd H' t (.tup [.int (i : Nat), v])) := Same.upd sm (sm.free ht)
      refine ⟨t, _, rfl, SqT.of upd_same, rfl, _, _, rfl, _, _, rfl, rfl, ?_⟩
      refine ⟨_, rfl, v, rows[i], rfl, (hrs.2 i v _ gv gr).same s1, hsm _ (List.getElem_mem hi), fun H2 s2 => ?_⟩
      have dr : rows.drop i = rows[i] :: rows.drop (i + 1) := List.drop_eq_getElem_cons hi
      have s2' : Same H H2 := s1.trans s2
      rw [dr] at ef
      rw [fw_cons] at ef
      cases e1 : rows[i].wrong with
      | some z =>
        rw [e1] at ef
        have e2 : chk rows = some (.con i z) := by rw [ec, show firstWrong 0 rows = some (.con i z) from ef]
        rw [e2] at q
        refine ⟨_, rfl, rfl, _, rfl, iteT ⟨_, rfl, _, rfl, made2 (σ := []) XC.no fun d H' s' hd => q d H' (s2'.trans s') hd⟩⟩
      | none =>
        rw [e1] at ef
        refine ⟨_, rfl, rfl, _, rfl, iteF ⟨_, _, _, rfl, s2', ef⟩⟩
    · rintro σ H' ⟨a, b, c, rfl, sm, ef⟩
      rw [ew, List.drop_length] at ef
      have ef2 : firstWrong 0 rows = none := ef
      have ec2 : chk rows = firstDouble 0 [] rows := by rw [ec, ef2]
      rw [ec2] at q
      intro d hd
      have hd0 : H d = none := sm.free hd
      refine for_enum (H0 := H) hp rfl (fun i σ H' => ∃ a b c, σ = [some (.ref p), a, b, c, some (.ref d)] ∧ Same H H' ∧ H' d = some (.dK (seenK ((rows.take i).map fun r => Sum.inr r.name))) ∧
        firstDouble 0 [] rows = firstDouble i ((rows.take i).map Rw.name) (rows.drop i)) ?_ (fun i σ H' _ h => ?_) ?_ ?_
      · exact ⟨_, _, _, rfl, Same.upd sm hd0, upd_same, rfl⟩
      · obtain ⟨_, _, _, _, h, _⟩ := h
        exact h
      · rintro i v σ H' t gv ⟨a, b, c, rfl, sm, hdd, ef⟩ ht
        have hi : i < rows.length := by
          have := (List.getElem?_eq_some_iff.mp gv).1
          omega
        have gr : rows[i]? = some rows[i] := List.getElem?_eq_getElem hi
        have s1 : Same H (upd H' t (.tup [.int (i : Nat), v])) := Same.upd sm (sm.free ht)
        have dr : rows.drop i = rows[i] :: rows.drop (i + 1) := List.drop_eq_getElem_cons hi
        obtain ⟨ra, rp, rfl, hs, _⟩ := (hrs.2 i v _ gv gr).same s1
        have hdt : (upd H' t (.tup [.int (i : Nat), .ref ra])) d = some (.dK (seenK ((rows.take i).map fun r => Sum.inr r.name))) := by rw [upd_ne (ne_of_none hdd ht)]; exact hdd
        refine ⟨t, _, rfl, SqT.of upd_same, rfl, _, _, rfl, _, _, rfl, rfl, ?_⟩
        refine ⟨_, rfl, ra, _, 0, _, rfl, rfl, hs, atI_nat (j := 0) rfl, _, rfl, d, _, rfl, DGet.k (k := Sum.inr rows[i].name) hdt, ?_⟩
        rw [dr] at ef
        rw [fd_cons] at ef
        by_cases hm : rows[i].name ∈ (rows.take i).map Rw.name
        · rw [if_pos hm] at ef
          rw [ef] at q
          have hm2 : (Sum.inr rows[i].name : Key) ∈ (rows.take i).map fun r => Sum.inr r.name := by
            obtain ⟨r, h1, h2⟩ := List.mem_map.mp hm
            exact List.mem_map.mpr ⟨r, h1, by rw [h2]⟩
          rw [seen_yes hm2]
          exact ⟨_, rfl, iteT ⟨_, rfl, made2 (σ := []) XC.no fun d H' s' hd => q d H' (s1.trans s') hd⟩⟩
        · rw [if_neg hm] at ef
          have hm2 : (Sum.inr rows[i].name : Key) ∉ (rows.take i).map fun r => Sum.inr r.name := fun z => by
            obtain ⟨r, h1, h2⟩ := List.mem_map.mp z
            exact hm (List.mem_map.mpr ⟨r, h1, Sum.inr.inj h2⟩)
          rw [seen_no hm2]
          have tk : rows.take (i + 1) = rows.take i ++ [rows[i]] := by rw [List.take_add_one, gr]; rfl
          have hlt : (seenK ((rows.take i).map fun r => Sum.inr r.name)).length < sizeLine := by
            rw [seen_len, List.length_map, List.length_take]; exact smallL (by omega)
          refine ⟨_, rfl, iteF ⟨_, rfl, _, rfl, ra, _, 0, _, rfl, rfl, hs, atI_nat (j := 0) rfl, d, _, rfl, DPut.k (k := Sum.inr rows[i].name) hdt hlt, _, _, _, rfl, ?_, ?_, ?_⟩⟩
          · intro b o e
            rw [upd_ne (ne_of_none e hd0)]
            exact s1 b o e
          · rw [upd_same, seen_put hm2, tk, List.map_append]; rfl
          · rw [ef, tk, List.map_append]; rfl
      · rintro σ H' ⟨a, b, c, rfl, sm, hdd, ef⟩
        rw [ew, List.drop_length] at ef
        rw [show firstDouble 0 [] rows = none from ef] at q
        exact q H' sm
  · rw [decide_eq_false (show ¬ ((1 : Int) ≤ (ws.length : Int) ∧ (ws.length : Int) ≤ 40) by omega)]
    have e : chk rows = some (.lang "constructors") := by unfold chk; rw [if_pos h1]
    rw [e] at q
    exact iteT (made1 XL.no q)
end
end PK
namespace PK
open PySem L2
/-! the rows that the law draws -/
def Rw.d (r : Rw) : PyData := .tuple [.str r.name, .int r.many, .str r.kind, .tuple (r.strict.map PyData.int)]
theorem ints_v {K : PySem.W.Frag} {H : Hp} : ∀ {ns : List Int} {xs : List V}, DtAll K H xs (ns.map PyData.int) → xs = ns.map V.int
  | [], _, h => by cases h; rfl
  | n :: r, _, h => by
    cases h with
    | cons h1 h2 => rw [h1.i, ints_v h2]; rfl
theorem ints_dt {K : PySem.W.Frag} {H : Hp} : ∀ ns : List Int, DtAll K H (ns.map V.int) (ns.map PyData.int)
  | [] => .nil
  | n :: r => .cons (.int n) (ints_dt r)
/-- the row's tuple and its places' tuple -/
theorem row_of {K : PySem.W.Frag} {H : Hp} {v : V} {r : Rw} (h : Dt K H v r.d) : ∃ a p, v = .ref a ∧ SqT K H a [.str r.name, .int r.many, .str r.kind, .ref p] ∧ SqT K H p (r.strict.map V.int) := by
  obtain ⟨a, xs, rfl, hs, ha⟩ := Dt.tn h
  cases ha with
  | cons h1 ha =>
  cases ha with
  | cons h2 ha =>
  cases ha with
  | cons h3 ha =>
  cases ha with
  | cons h4 ha =>
  cases ha
  obtain ⟨p, ys, rfl, hp, hy⟩ := Dt.tn h4
  rw [h1.s, h2.i, h3.s] at hs
  rw [ints_v hy] at hp
  exact ⟨a, p, rfl, hs, hp⟩
theorem row_dt {K : PySem.W.Frag} {H : Hp} {a p : Addr} {r : Rw} (h1 : SqT K H a [.str r.name, .int r.many, .str r.kind, .ref p]) (h2 : SqT K H p (r.strict.map V.int)) : Dt K H (.ref a) r.d :=
  .tup h1 (.cons (.str _) (.cons (.int _) (.cons (.str _) (.cons (.tup h2 (ints_dt _)) .nil))))
theorem row_at {K : PySem.W.Frag} {H : Hp} {v : V} {r : Rw} (h : Dt K H v r.d) : RowAt K H v r := by
  obtain ⟨a, p, rfl, h1, h2⟩ := row_of h
  exact ⟨a, p, rfl, h1, .inr h2⟩
/-- all but the name is as it should be -/
structure Fair (r : Rw) : Prop where
  many : 0 ≤ r.many ∧ r.many ≤ 6
  kind : r.kind ∈ (["value", "plain"] : List Str)
  pl : okPl r.many r.strict = true
theorem place_le : ∀ {n : Nat} {ps : List Int}, ps.Nodup → (∀ p ∈ ps, 0 ≤ p ∧ p < (n : Int)) → ps.length ≤ n := by
  intro n ps h1 h2
  have e : ∀ p ∈ ps, p.toNat ∈ List.range n := fun p hp => by
    have := h2 p hp
    rw [List.mem_range]; omega
  have nd : (ps.map Int.toNat).Nodup := by
    refine List.pairwise_map.mpr (List.Pairwise.imp_of_mem (fun {a b} ha hb ne z => ?_) h1)
    have := h2 a ha
    have := h2 b hb
    exact ne (by omega)
  have := List.Nodup.length_le_of_subset nd (fun x hx => by
    obtain ⟨p, hp, rfl⟩ := List.mem_map.mp hx
    exact e p hp)
  rwa [List.length_map, List.length_range] at this
theorem Fair.len {r : Rw} (h : Fair r) : r.strict.length ≤ 6 := by
  obtain ⟨h1, h2⟩ := of_decide_eq_true (show decide _ = true from h.pl)
  exact place_le (n := 6) h1 fun p hp => by have := h2 p hp; have := h.many; omega
theorem wd_is {x : Str} (h : Wd x) : isWd x = true := by
  unfold isWd
  obtain ⟨s, r, e, hs⟩ := h.hd
  rw [decide_eq_true ⟨h.lo, h.hi⟩, Bool.true_and, e]
  refine Bool.and_eq_true_iff.mpr ⟨decide_eq_true hs, List.all_eq_true.mpr fun z hz => decide_eq_true (h.al z (by rw [e]; exact hz))⟩
theorem good_of {r : Rw} (h1 : isWd r.name = true) (h2 : r.name ∉ BARRED) (h : Fair r) : r.wrong = none := by
  unfold Rw.wrong
  rw [if_neg (by rw [h1]; exact fun z => z.elim (fun z => nomatch z) h2), if_neg (fun z => z h.many), if_neg (fun z => z h.kind), if_neg (by rw [h.pl]; exact fun z => nomatch z)]
theorem at_in {α : Type} {β : Type} (f : α → β) (l : List α) {d : Int} (h0 : 0 ≤ d) (h1 : d < (l.length : Int)) : ∃ x, x ∈ l ∧ atI (l.map f) d = some (f x) := by
  obtain ⟨j, rfl⟩ : ∃ j : Nat, d = j := ⟨d.toNat, by omega⟩
  have hj : j < l.length := by omega
  exact ⟨l[j], List.getElem_mem hj, atI_nat (by rw [List.getElem?_map, List.getElem?_eq_getElem hj]; rfl)⟩
abbrev KINDS : List Str := ["value", "plain"]
def spCons (K : PySem.W.Frag) : Sp := fun vs H Q _ => ∃ (l c pw : Addr) (w : Str), vs = [.ref l, .ref pw] ∧ Pool H l c ∧ pw ≠ l ∧ H pw = some (.lst [.str w]) ∧
  ∀ (H' : Hp) (R : Addr) (v : V) (r : Rw), Ext l c H H' → H R = none → H' R = some (.lst [v]) → Dt K H' v r.d → r.name = w → Fair r → Q (.ref R) H'
section
variable {P : Program} {w : World} {K : PySem.W.Frag} {mg : Str → Option Value} {base : Heap} {aR CL CC : Addr}
abbrev s_law_constructors : Stmt := topS 21
theorem sc_law_constructors : FnScope ["pool", "words", "rows", "k", "many", "kind", "places", "place"] ["pool", "words"] (defScope s_law_constructors) := ⟨rfl, rfl, rfl, by decide +kernel, rfl, by decide +kernel, by decide +kernel⟩
-- slots: 0:pool 1:words 2:rows 3:k 4:many 5:kind 6:places 7:place
theorem ok_cons {f : Addr} {fd : FuncData} (F : Fun K "_law_constructors" "_law_constructors" s_law_constructors f fd) (T : Txt K mg) (C_law_take : C8.Cal P w K mg base 2 "_law_take" (spTake 2) []) :
    FnOk P w K mg base CX0 3 f fd ["pool", "words"] (spCons K) := by
  refine F.ok sc_law_constructors (fun vs H Q E h => ?_) (fun cdv A outer s H vs Q E hr h => ?_)
  · obtain ⟨_, _, _, _, rfl, _⟩ := h
    rfl
  obtain ⟨l, c, pw, wd, rfl, P0, hne, hpw, q⟩ := h
  refine ⟨_, (pss_cons (ps_set (i := 2) sc_law_constructors.nd rfl (Or.inl rfl) (pe_lst pa_nil))
    (pss_cons (ps_for PassesOwn.never rfl (pi_range1 (by rfl) T.z_range (pa_cons (pe_callB call_len_seq (by rfl) T.z_len (by decide +kernel) (pa_cons (pv 1) pa_nil)) pa_nil)) (pg_name (i := 3) sc_law_constructors.nd rfl (Or.inl rfl)) (pss_cons (ps_set (i := 4) sc_law_constructors.nd rfl (Or.inl rfl) (C8.pe_c C_law_take hr (by decide) rfl (pa_cons (pv 0) (pa_cons pe_int pa_nil))))
    (pss_cons (ps_set (i := 5) sc_law_constructors.nd rfl (Or.inl rfl) (pe_ix ix_tup (pe_tup (pa_cons pe_str (pa_cons pe_str pa_nil))) (C8.pe_c C_law_take hr (by decide) rfl (pa_cons (pv 0) (pa_cons pe_int pa_nil))) (fun _ _ => rfl)))
    (pss_cons (ps_if (pt_cmpR op_lt (pv 3) pe_int (nomark _)) (pss_one (ps_set (i := 5) sc_law_constructors.nd rfl (Or.inl rfl) (pe_ix ix_tup (pe_tup (pa_cons pe_str (pa_cons pe_str pa_nil))) (pv 3) (fun _ _ => rfl)))) pss_nil)
    (pss_cons (ps_set (i := 6) sc_law_constructors.nd rfl (Or.inl rfl) (pe_lst pa_nil))
    (pss_cons (ps_for PassesOwn.never rfl (pi_range1 (by rfl) T.z_range (pa_cons (pv 4) pa_nil)) (pg_name (i := 7) sc_law_constructors.nd rfl (Or.inl rfl)) (pss_one (ps_if (pt_cmpR op_gt (C8.pe_c C_law_take hr (by decide) rfl (pa_cons (pv 0) (pa_cons pe_int pa_nil))) pe_int (nomark _)) (pss_one (ps_expr (pe_bm PySem.F.plainAttrs_list PySem.F.slot_list_insert PySem.F.type_list_insert mt_insert (pv 6) (pa_cons (C8.pe_c C_law_take hr (by decide) rfl (pa_cons (pv 0) (pa_cons (pe_op op_add (pe_callB call_len_seq (by rfl) T.z_len (by decide +kernel) (pa_cons (pv 6) pa_nil)) pe_int) pa_nil))) (pa_cons (pv 7) pa_nil))))) pss_nil)))
    (pss_one (ps_expr (pe_bm PySem.F.plainAttrs_list PySem.F.slot_list_append PySem.F.type_list_append mt_append (pv 2) (pa_cons (pe_tup (pa_cons (pe_ix ix_list (pv 1) (pv 3) (fun _ _ => rfl)) (pa_cons (pv 4) (pa_cons (pv 5) (pa_cons (pe_callTy call_tuple_of (by rfl) T.z_tuple (by decide +kernel) (pa_cons (pv 6) pa_nil)) pa_nil))))) pa_nil))))))))))
    (pss_one (ps_ret (pv 2))))), ?_⟩
  refine ⟨Nat.zero_le _, fun R hR => ?_⟩
  have x0 : Ext l c H (upd H R (.lst [])) := (Ext.refl P0).new P0 hR
  have hpw1 := x0.keep _ _ hne hpw
  refine ⟨_, rfl, pw, _, rfl, .inl (SqL.of hpw1), 1, rfl, by decide, by decide, for_range (n := 1) (fun i σ H' => ∃ b c' d e g vs, σ = [some (.ref l), some (.ref pw), some (.ref R), b, c', d, e, g] ∧ Ext l c H H' ∧ H' R = some (.lst vs) ∧
    ((i = 0 ∧ vs = []) ∨ (i = 1 ∧ ∃ v r, vs = [v] ∧ Dt K H' v r.d ∧ r.name = wd ∧ Fair r))) ?_ ?_ ?_⟩
  · exact ⟨_, _, _, _, _, _, rfl, x0, upd_same, .inl ⟨rfl, rfl⟩⟩
  · rintro i σ H1 hi ⟨b, c', d, e, g, vs, rfl, x1, hR1, hv⟩
    obtain ⟨rfl, rfl⟩ : i = 0 ∧ vs = [] := hv.elim id fun z => by omega
    have P1 := x1.pool
    refine vTake rfl P1 (by decide) (by decide) fun m H2 m0 m4 x2 => ?_
    refine ⟨small (by decide), fun t ht => ?_⟩
    have y2 : Ext l c H1 (upd H2 t (.tup [.str "value", .str "plain"])) := x2.new P1 ht
    refine vTake rfl y2.pool (by decide) (by decide) fun d H3 d0 d2 x3 => ?_
    obtain ⟨kd, hkd, ha⟩ := at_in V.str KINDS d0 d2
    refine ⟨t, _, d, _, rfl, rfl, x3.seqT y2.pool (SqT.of upd_same), ha, ?_⟩
    have y3 : Ext l c H1 H3 := y2.trans x3
    refine ⟨_, rfl, _, _, rfl, rfl, _, rfl, iteT ⟨small (by decide), fun t2 ht2 => ⟨_, rfl, t2, _, 0, _, rfl, rfl, SqT.of upd_same, atI_nat (j := 0) rfl, ?_⟩⟩⟩
    have y4 : Ext l c H1 (upd H3 t2 (.tup [.str "value", .str "plain"])) := y3.new P1 ht2
    refine ⟨Nat.zero_le _, fun S hS => ?_⟩
    have y5 := y4.new (o := .lst []) P1 hS
    have nS : S ≠ l := (y4.pool.ne hS).1
    have nR : R ≠ l := (P0.ne hR).1
    refine ⟨_, rfl, m, rfl, by omega, by omega, for_range (n := m.toNat) (fun j σ H' => ∃ g ps, σ = [some (.ref l), some (.ref pw), some (.ref R), some (.int 0), some (.int m), some (.str "value"), some (.ref S), g] ∧ Ext l c H1 H' ∧ H' S = some (.lst (ps.map V.int)) ∧ okPl (j : Nat) ps = true) ?_ ?_ ?_⟩
    · exact ⟨_, [], rfl, y5, upd_same, rfl⟩
    · rintro j σ H' hj ⟨g, ps, rfl, xj, hS', ok⟩
      obtain ⟨nd, rg⟩ := of_decide_eq_true (show decide _ = true from ok)
      have pl : ps.length ≤ j := place_le nd rg
      have up : okPl ((j + 1 : Nat) : Int) ps = true := decide_eq_true ⟨nd, fun p hp => by have := rg p hp; omega⟩
      refine vTake rfl xj.pool (by decide) (by decide) fun z H6 z0 z4 x6 => ⟨_, _, rfl, rfl, _, rfl, ?_⟩
      have hS6 := x6.keep _ _ nS hS'
      by_cases hz : 0 < z
      · rw [decide_eq_true hz]
        refine iteT ⟨_, rfl, .inl ⟨rfl, _, SqL.of hS6⟩, ⟨_, rfl, ⟨_, rfl, S, _, rfl, .inl (SqL.of hS6), _, _, rfl, rfl, l, c, _, False, rfl, x6.pool, ?_, ?_, .inl (Nat.le_refl 2), fun at_ H7 a0 a1 x7 => ?_⟩⟩⟩
        · omega
        · rw [List.length_map]; omega
        rw [List.length_map] at a1
        have hS7 := x7.keep _ _ nS hS6
        refine ⟨_, rfl, S, _, at_, _, rfl, rfl, hS7, ?_, a0, by omega, ?_⟩
        · rw [List.length_map]; exact smallL (by omega)
        have e0 : (0 : Int) + (j : Int) = (j : Int) := Int.zero_add _
        refine ⟨_, ps.take at_.toNat ++ [(j : Int)] ++ ps.drop at_.toNat, rfl, ((xj.trans x6).trans x7).upd P1 (y4.free P1 hS), ?_, ?_⟩
        · rw [upd_same, e0]; simp
        · refine decide_eq_true ⟨?_, fun p hp => ?_⟩
          · have e : (ps.take at_.toNat ++ [(j : Int)] ++ ps.drop at_.toNat).Perm ((j : Int) :: ps) := by
              rw [List.append_assoc]
              refine List.perm_middle.trans (.cons _ ?_)
              show (ps.take at_.toNat ++ ps.drop at_.toNat).Perm ps
              rw [List.take_append_drop]
            rw [e.nodup_iff, List.nodup_cons]
            exact ⟨fun z => by have := rg _ z; omega, nd⟩
          · rw [List.append_assoc] at hp
            rcases List.mem_append.mp hp with z | z
            · have := rg p (List.mem_of_mem_take z); omega
            · rcases List.mem_cons.mp z with z | z
              · omega
              · have := rg p (List.mem_of_mem_drop z); omega
      · rw [decide_eq_false hz]
        exact iteF ⟨_, ps, rfl, xj.trans x6, hS6, up⟩
    · rintro σ H' ⟨g, ps, rfl, xj, hS', ok⟩
      have em : ((m.toNat : Nat) : Int) = m := by omega
      rw [em] at ok
      have hR' := xj.keep _ _ nR hR1
      have hpw' := (x1.trans xj).keep _ _ hne hpw
      refine ⟨_, rfl, .inl ⟨rfl, _, SqL.of hR'⟩, ⟨_, rfl, _, rfl, pw, _, 0, _, rfl, rfl, SqL.of hpw', atI_nat (j := 0) rfl, _, rfl, _, rfl, ⟨_, rfl, S, _, rfl, .inl ⟨SqL.of hS', fun tp htp => ⟨small (by show 4 ≤ _; decide), fun tt htt => ?_⟩⟩⟩⟩⟩
      have hR2 : (upd (upd H' tp (.tup (ps.map V.int))) tt (.tup [.str wd, .int m, .str "value", .ref tp])) R = some (.lst []) := by
        rw [upd_ne (ne_of_none (show (upd H' tp (.tup (ps.map V.int))) R = some (.lst []) from by rw [upd_ne (ne_of_none hR' htp)]; exact hR') htt), upd_ne (ne_of_none hR' htp)]
        exact hR'
      refine ⟨R, _, _, rfl, rfl, hR2, smallL (by decide), ?_⟩
      have hx := ((x1.trans xj).new (o := .tup (ps.map V.int)) P0 htp).new (o := .tup [.str wd, .int m, .str "value", .ref tp]) P0 htt
      have hd := row_dt (K := K) (r := ⟨wd, m, "value", ps⟩) (SqT.of (upd_same (H := upd H' tp (.tup (ps.map V.int))) (a := tt))) (Same.seqT (same_new htt) (SqT.of upd_same))
      refine ⟨_, _, _, _, _, _, rfl, hx.upd P0 hR, upd_same, .inr ⟨rfl, _, ⟨wd, m, "value", ps⟩, rfl, ?_, rfl, ⟨⟨m0, by show m ≤ 6; omega⟩, by show ("value" : Str) ∈ (["value", "plain"] : List Str); decide, ok⟩⟩⟩
      exact Dt.mono (fun _ _ z => seqT_upd z hR2) _ _ hd
  · rintro σ H' ⟨b, c', d, e, g, vs, rfl, x, hR', hv⟩
    obtain ⟨_, v, r, rfl, dv, en, fr⟩ : 1 = 1 ∧ ∃ v r, vs = [v] ∧ Dt K H' v r.d ∧ r.name = wd ∧ Fair r := hv.elim (fun z => by omega) id
    exact ⟨_, rfl, q H' R v r x hR hR' dv en fr⟩
theorem DtAll.length2 {K : PySem.W.Frag} {H : Hp} : ∀ {xs : List V} {ds : List PyData}, DtAll K H xs ds → xs.length = ds.length
  | _, _, .nil => rfl
  | _, _, .cons _ t => by rw [List.length_cons, List.length_cons, DtAll.length2 t]
/-- good rows with different names -/
structure Goods (rows : List Rw) : Prop where
  names : (rows.map Rw.name).Nodup
  ok : ∀ r ∈ rows, r.wrong = none ∧ r.small ∧ Fair r
def spAllowed (K : PySem.W.Frag) : Sp := fun vs H Q _ => ∃ (l c : Addr) (m : Nat), vs = [.ref l, .int (m : Int)] ∧ Pool H l c ∧ m ≤ 25 ∧
  ∀ (H' : Hp) (R : Addr) (ws : List V) (rows : List Rw), Ext l c H H' → H R = none → H' R = some (.lst ws) → DtAll K H' ws (rows.map Rw.d) → rows.length = m → Goods rows → Q (.ref R) H'
abbrev s_law_allowed : Stmt := topS 23
theorem sc_law_allowed : FnScope ["pool", "many", "rows", "word", "row"] ["pool", "many"] (defScope s_law_allowed) := ⟨rfl, rfl, rfl, by decide +kernel, rfl, by decide +kernel, by decide +kernel⟩
-- slots: 0:pool 1:many 2:rows 3:word 4:row
theorem ok_allowed {f : Addr} {fd : FuncData} (F : Fun K "_law_allowed" "_law_allowed" s_law_allowed f fd) (C_law_take : C8.Cal P w K mg base 2 "_law_take" (spTake 2) []) (C_law_words : C8.Cal P w K mg base 3 "_law_words" spWords [])
    (C_law_constructors : C8.Cal P w K mg base 3 "_law_constructors" (spCons K) []) : FnOk P w K mg base CX0 4 f fd ["pool", "many"] (spAllowed K) := by
  refine F.ok sc_law_allowed (fun vs H Q E h => ?_) (fun cdv A outer s H vs Q E hr h => ?_)
  · obtain ⟨_, _, _, rfl, _⟩ := h
    rfl
  obtain ⟨l, c, m, rfl, P0, hm, q⟩ := h
  refine ⟨_, (pss_cons (ps_set (i := 2) sc_law_allowed.nd rfl (Or.inl rfl) (pe_lst pa_nil))
    (pss_cons (ps_for PassesOwn.never rfl (pi_list (C8.pe_c C_law_words hr (by decide) rfl (pa_cons (pv 0) (pa_cons (pv 1) pa_nil)))) (pg_name (i := 3) sc_law_allowed.nd rfl (Or.inl rfl)) (pss_cons (ps_set (i := 4) sc_law_allowed.nd rfl (Or.inl rfl) (pe_ix ix_list (C8.pe_c C_law_constructors hr (by decide) rfl (pa_cons (pv 0) (pa_cons (pe_lst (pa_cons (pv 3) pa_nil)) pa_nil))) pe_int (fun _ _ => rfl)))
    (pss_one (ps_expr (pe_bm PySem.F.plainAttrs_list PySem.F.slot_list_append PySem.F.type_list_append mt_append (pv 2) (pa_cons (pe_tup (pa_cons (pv 3) (pa_cons (pe_ix ix_tup (pv 4) pe_int (fun _ _ => rfl)) (pa_cons (pe_ix ix_tup (pe_tup (pa_cons pe_str (pa_cons pe_str pa_nil))) (C8.pe_c C_law_take hr (by decide) rfl (pa_cons (pv 0) (pa_cons pe_int pa_nil))) (fun _ _ => rfl)) (pa_cons (pe_ix ix_tup (pv 4) pe_int (fun _ _ => rfl)) pa_nil))))) pa_nil))))))
    (pss_one (ps_ret (pv 2))))), ?_⟩
  refine ⟨Nat.zero_le _, fun R hR => ?_⟩
  have x0 : Ext l c H (upd H R (.lst [])) := (Ext.refl P0).new P0 hR
  have nR : R ≠ l := (P0.ne hR).1
  refine ⟨_, rfl, _, rfl, l, c, m, rfl, x0.pool, hm, fun H1 W ws x1 hW0 hW hwl hwn hwd => ?_⟩
  have x1' : Ext l c H H1 := x0.trans x1
  have nW : W ≠ l := (x0.pool.ne hW0).1
  have hR1 : H1 R = some (.lst []) := x1.keep _ _ nR upd_same
  have nWR : W ≠ R := fun z => by rw [z, upd_same] at hW0; cases hW0
  have hWH : H W = none := x0.free P0 hW0
  refine ⟨W, rfl, ⟨_, SqL.of hW⟩, for_list (xs := ws.map V.str) (fun i σ H' => ∃ (b d : Option V) (vs : List V) (rows : List Rw), σ = [some (.ref l), some (.int (m : Int)), some (.ref R), b, d] ∧ Ext l c H H' ∧ H' R = some (.lst vs) ∧ H' W = some (.lst (ws.map V.str)) ∧ DtAll K H' vs (rows.map Rw.d) ∧ rows.map Rw.name = ws.take i ∧ ∀ r ∈ rows, Fair r) ?_ ?_ ?_ ?_⟩
  · exact ⟨none, none, [], [], rfl, x1', hR1, hW, .nil, rfl, fun _ h => nomatch h⟩
  · rintro i σ H' hi ⟨b, d, vs, rows, rfl, _, _, h, _⟩
    exact SqL.of h
  · rintro i x σ H' gx ⟨b, d, vs, rows, rfl, x2, hR2, hW2, dt, en, fr⟩
    obtain ⟨wd, gw, rfl⟩ : ∃ y, ws[i]? = some y ∧ x = .str y := by
      rw [List.getElem?_map] at gx
      cases e : ws[i]? with
      | none => rw [e] at gx; cases gx
      | some n => rw [e] at gx; cases gx; exact ⟨n, rfl, rfl⟩
    refine ⟨_, rfl, _, rfl, small (by show 1 ≤ _; decide), fun pw hpw => ⟨l, c, pw, wd, rfl, ?_, (x2.pool.ne hpw).1, upd_same, fun H3 RR v r x3 hRR hRR3 dv en2 fr2 => ?_⟩⟩
    · exact ((Ext.refl x2.pool).new x2.pool hpw).pool
    have y3 : Ext l c H' H3 := ((Ext.refl x2.pool).new (o := .lst [.str wd]) x2.pool hpw).trans x3
    refine ⟨RR, _, 0, _, rfl, rfl, SqL.of hRR3, atI_nat (j := 0) rfl, ?_⟩
    have hR3 := y3.keep _ _ nR hR2
    have hW3 := y3.keep _ _ nW hW2
    obtain ⟨a, p, rfl, hs, hp⟩ := row_of dv
    refine ⟨_, rfl, .inl ⟨rfl, _, SqL.of hR3⟩, _, rfl, ⟨_, rfl, a, _, 1, _, rfl, rfl, hs, atI_nat (j := 1) rfl, ?_⟩⟩
    refine ⟨small (by decide), fun t ht => ?_⟩
    have y4 := y3.new (o := .tup [.str "value", .str "plain"]) x2.pool ht
    refine vTake rfl y4.pool (by decide) (by decide) fun k H5 k0 k2 x5 => ?_
    obtain ⟨kd, hkd, ha⟩ := at_in V.str KINDS k0 k2
    refine ⟨t, _, k, _, rfl, rfl, x5.seqT y4.pool (SqT.of upd_same), ha, ?_⟩
    have s4 : Same H3 (upd H3 t (.tup [V.str "value", .str "plain"])) := same_new ht
    have P4 := y4.pool
    have hs5 := x5.seqT P4 (Same.seqT s4 hs)
    have hp5 := x5.seqT P4 (Same.seqT s4 hp)
    have y5 := y4.trans x5
    have hR5 := y5.keep _ _ nR hR2
    have hW5 := y5.keep _ _ nW hW2
    refine ⟨_, rfl, a, _, 3, _, rfl, rfl, hs5, atI_nat (j := 3) rfl, small (by show 4 ≤ _; decide), fun tt htt => ?_⟩
    have hR6 : (upd H5 tt (.tup [.str wd, .int r.many, .str kd, .ref p])) R = some (.lst vs) := by rw [upd_ne (ne_of_none hR5 htt)]; exact hR5
    have lv : vs.length ≤ 25 := by
      rw [DtAll.length2 dt, List.length_map, ← List.length_map (f := Rw.name), en, List.length_take]; omega
    refine ⟨R, _, _, rfl, rfl, hR6, smallL (by omega), ?_⟩
    have z6 := (x2.trans y5).new (o := .tup [.str wd, .int r.many, .str kd, .ref p]) P0 htt
    have dr := row_dt (K := K) (r := ⟨wd, r.many, kd, r.strict⟩) (SqT.of (upd_same (H := H5) (a := tt))) (Same.seqT (same_new htt) hp5)
    refine ⟨_, _, _, rows ++ [⟨wd, r.many, kd, r.strict⟩], rfl, z6.upd P0 hR, upd_same, ?_, ?_, ?_, ?_⟩
    · rw [upd_ne nWR, upd_ne (ne_of_none hW5 htt)]; exact hW5
    · rw [List.map_append]
      refine DtAll.mono (fun _ _ z => seqT_upd z hR6) _ _ (DtAll.append ?_ (.cons dr .nil))
      exact ((dt.ext x2.pool y5).same (same_new htt))
    · rw [List.map_append, en, List.take_add_one, gw]; rfl
    · intro r' hr'
      rcases List.mem_append.mp hr' with h | h
      · exact fr r' h
      · rw [List.mem_singleton.mp h]
        exact ⟨fr2.many, hkd, fr2.pl⟩
  · rintro σ H' ⟨b, d, vs, rows, rfl, x2, hR2, _, dt, en, fr⟩
    rw [List.length_map, List.take_length] at en
    refine ⟨_, rfl, q H' R vs rows x2 hR hR2 dt ?_ ⟨by rw [en]; exact hwn, fun r hr => ?_⟩⟩
    · rw [← List.length_map (f := Rw.name), en, hwl]
    · have hn : r.name ∈ ws := by rw [← en]; exact List.mem_map_of_mem hr
      obtain ⟨h1, h2⟩ := hwd _ hn
      have := h1.hi
      have := (fr r hr).len
      exact ⟨good_of (wd_is h1) h2 (fr r hr), ⟨by omega, by omega⟩, fr r hr⟩
end
end PK
namespace PK
open PySem L2
/-! a spoilt row -/
theorem cat_any {K : PySem.W.Frag} {H : Hp} {p b : Addr} {xs ys : List V} {Q : VK} (h1 : SqT K H p xs) (h2 : SqT K H b ys) (hy : ys ≠ []) (hz : xs.length + ys.length ≤ sizeLine) (q : ∀ p' H', Same H H' → SqT K H' p' (xs ++ ys) → Q (.ref p') H') :
    PKR.rCatA K (.ref p) (.ref b) H Q := by
  cases xs with
  | nil => exact .inr ⟨p, b, ys, rfl, rfl, h1, h2, q b H (Same.refl H) h2⟩
  | cons x r => exact .inl ⟨p, b, _, _, rfl, rfl, h1, h2, List.cons_ne_nil _ _, hz, fun z => absurd z hy, fun _ t ht => q t _ (same_new ht) (SqT.of upd_same)⟩
theorem wrong_name {r : Rw} (h : isWd r.name = false ∨ r.name ∈ BARRED) : r.wrong = some ("name" : Str) := by
  unfold Rw.wrong
  rw [if_pos h]
theorem wrong_many {r : Rw} (h : isWd r.name = true ∧ r.name ∉ BARRED) (h2 : ¬ (0 ≤ r.many ∧ r.many ≤ 6)) : r.wrong = some ("many" : Str) := by
  unfold Rw.wrong
  rw [if_neg (by rw [h.1]; exact fun z => z.elim (fun z => nomatch z) h.2), if_pos h2]
theorem wrong_kind {r : Rw} (h : isWd r.name = true ∧ r.name ∉ BARRED) (h2 : 0 ≤ r.many ∧ r.many ≤ 6) (h3 : r.kind ∉ (["value", "plain"] : List Str)) : r.wrong = some ("kind" : Str) := by
  unfold Rw.wrong
  rw [if_neg (by rw [h.1]; exact fun z => z.elim (fun z => nomatch z) h.2), if_neg (fun z => z h2), if_pos h3]
theorem wrong_strict {r : Rw} (h : isWd r.name = true ∧ r.name ∉ BARRED) (h2 : 0 ≤ r.many ∧ r.many ≤ 6) (h3 : r.kind ∈ (["value", "plain"] : List Str)) (h4 : okPl r.many r.strict = false) : r.wrong = some ("strict" : Str) := by
  unfold Rw.wrong
  rw [if_neg (by rw [h.1]; exact fun z => z.elim (fun z => nomatch z) h.2), if_neg (fun z => z h2), if_neg (fun z => z h3), if_pos h4]
theorem good_name {r : Rw} (h : r.wrong = none) : isWd r.name = true ∧ r.name ∉ BARRED := by
  have n : ¬ (isWd r.name = false ∨ r.name ∈ BARRED) := fun z => by rw [wrong_name z] at h; cases h
  exact ⟨by cases e : isWd r.name with
    | true => rfl
    | false => exact absurd (.inl e) n, fun z => n (.inr z)⟩
abbrev NAMES (b : Str) : List Str := ["", "1a", "aB", "_a", "abcdefghijklm", "a b", b]
theorem names_bad {b : Str} (hb : b ∈ BARRED) : ∀ n ∈ NAMES b, (isWd n = false ∨ n ∈ BARRED) ∧ n.length ≤ 1000 := by
  have h6 : ∀ n ∈ (["", "1a", "aB", "_a", "abcdefghijklm", "a b"] : List Str), isWd n = false ∧ n.length ≤ 1000 := by decide +kernel
  have h8 : ∀ n ∈ BARRED, n.length ≤ 1000 := by decide +kernel
  intro n hn
  rcases List.mem_append.mp (show n ∈ (["", "1a", "aB", "_a", "abcdefghijklm", "a b"] : List Str) ++ [b] from hn) with z | z
  · exact ⟨.inl (h6 n z).1, (h6 n z).2⟩
  · rw [List.mem_singleton.mp z]
    exact ⟨.inr hb, h8 b hb⟩
def spSpoilt (K : PySem.W.Frag) : Sp := fun vs H Q _ => ∃ (l c : Addr) (v : V) (r : Rw), vs = [.ref l, v] ∧ Pool H l c ∧ Dt K H v r.d ∧ r.wrong = none ∧ r.small ∧ Fair r ∧
  ∀ (H' : Hp) (t : V) (r' : Rw) (why : Str), Ext l c H H' → Dt K H' t (.tuple [r'.d, .str why]) → r'.wrong = some why → r'.small → Q t H'
section
variable {P : Program} {w : World} {K : PySem.W.Frag} {mg : Str → Option Value} {base : Heap} {aR CL CC : Addr}
abbrev s_law_spoilt : Stmt := topS 24
theorem sc_law_spoilt : FnScope ["pool", "row", "name", "many", "kind", "strict", "reasons", "told", "barred"] ["pool", "row"] (defScope s_law_spoilt) := ⟨rfl, rfl, rfl, by decide +kernel, rfl, by decide +kernel, by decide +kernel⟩
-- slots: 0:pool 1:row 2:name 3:many 4:kind 5:strict 6:reasons 7:told 8:barred
theorem ok_spoilt {f : Addr} {fd : FuncData} (F : Fun K "_law_spoilt" "_law_spoilt" s_law_spoilt f fd) (T : Txt K mg) (C_law_take : C8.Cal P w K mg base 2 "_law_take" (spTake 2) []) : FnOk P w K mg base CX0 3 f fd ["pool", "row"] (spSpoilt K) := by
  refine F.ok sc_law_spoilt (fun vs H Q E h => ?_) (fun cdv A outer s H vs Q E hr h => ?_)
  · obtain ⟨_, _, _, _, rfl, _⟩ := h
    rfl
  obtain ⟨l, c, v, r, rfl, P0, dv, wr, sm, fr, q⟩ := h
  refine ⟨_, (pss_cons (ps_set (i := 2) sc_law_spoilt.nd rfl (Or.inl rfl) (pe_ix ix_tup (pv 1) pe_int (fun _ _ => rfl)))
    (pss_cons (ps_set (i := 3) sc_law_spoilt.nd rfl (Or.inl rfl) (pe_ix ix_tup (pv 1) pe_int (fun _ _ => rfl)))
    (pss_cons (ps_set (i := 4) sc_law_spoilt.nd rfl (Or.inl rfl) (pe_ix ix_tup (pv 1) pe_int (fun _ _ => rfl)))
    (pss_cons (ps_set (i := 5) sc_law_spoilt.nd rfl (Or.inl rfl) (pe_ix ix_tup (pv 1) pe_int (fun _ _ => rfl)))
    (pss_cons (ps_set (i := 6) sc_law_spoilt.nd rfl (Or.inl rfl) (pe_lst pa_nil))
    (pss_cons (ps_set (i := 7) sc_law_spoilt.nd rfl (Or.inl rfl) (pe_op op_add pe_int (C8.pe_c C_law_take hr (by decide) rfl (pa_cons (pv 0) (pa_cons pe_int pa_nil)))))
    (C8.pss_cut (ps_if (pt_cmpR op_eq (pe_op op_mod (pe_callTy call_int1 (by rfl) T.z_int (by decide +kernel) (pa_cons (pv 7) pa_nil)) pe_int) pe_int (nomark _)) (pss_cons (ps_set (i := 8) sc_law_spoilt.nd rfl (Or.inl rfl) (pe_tup (pa_cons pe_str (pa_cons pe_str (pa_cons pe_str (pa_cons pe_str (pa_cons pe_str (pa_cons pe_str (pa_cons pe_str (pa_cons pe_str pa_nil))))))))))
    (pss_cons (ps_set (i := 2) sc_law_spoilt.nd rfl (Or.inl rfl) (pe_ix ix_tup (pe_tup (pa_cons pe_str (pa_cons pe_str (pa_cons pe_str (pa_cons pe_str (pa_cons pe_str (pa_cons pe_str (pa_cons (pe_ix ix_tup (pv 8) (C8.pe_c C_law_take hr (by decide) rfl (pa_cons (pv 0) (pa_cons pe_int pa_nil))) (fun _ _ => rfl)) pa_nil)))))))) (C8.pe_c C_law_take hr (by decide) rfl (pa_cons (pv 0) (pa_cons pe_int pa_nil))) (fun _ _ => rfl)))
    (pss_one (ps_expr (pe_bm PySem.F.plainAttrs_list PySem.F.slot_list_append PySem.F.type_list_append mt_append (pv 6) (pa_cons pe_str pa_nil)))))) pss_nil)
    (C8.pss_cut (ps_if (pt_cmpR op_eq (pe_op op_mod (pe_callTy call_int1 (by rfl) T.z_int (by decide +kernel) (pa_cons (pe_op op_fdivW (pv 7) pe_int) pa_nil)) pe_int) pe_int (nomark _)) (pss_cons (ps_set (i := 3) sc_law_spoilt.nd rfl (Or.inl rfl) (pe_ix ix_tup (pe_tup (pa_cons pe_int (pa_cons (pe_un un_neg pe_int) (pa_cons (pe_op op_add pe_int (C8.pe_c C_law_take hr (by decide) rfl (pa_cons (pv 0) (pa_cons pe_int pa_nil)))) pa_nil)))) (C8.pe_c C_law_take hr (by decide) rfl (pa_cons (pv 0) (pa_cons pe_int pa_nil))) (fun _ _ => rfl)))
    (pss_one (ps_expr (pe_bm PySem.F.plainAttrs_list PySem.F.slot_list_append PySem.F.type_list_append mt_append (pv 6) (pa_cons pe_str pa_nil))))) pss_nil)
    (C8.pss_cut (ps_if (pt_cmpR op_eq (pe_op op_mod (pe_callTy call_int1 (by rfl) T.z_int (by decide +kernel) (pa_cons (pe_op op_fdivW (pv 7) pe_int) pa_nil)) pe_int) pe_int (nomark _)) (pss_cons (ps_set (i := 4) sc_law_spoilt.nd rfl (Or.inl rfl) (pe_ix ix_tup (pe_tup (pa_cons pe_str (pa_cons pe_str (pa_cons pe_str (pa_cons pe_str pa_nil))))) (C8.pe_c C_law_take hr (by decide) rfl (pa_cons (pv 0) (pa_cons pe_int pa_nil))) (fun _ _ => rfl)))
    (pss_one (ps_expr (pe_bm PySem.F.plainAttrs_list PySem.F.slot_list_append PySem.F.type_list_append mt_append (pv 6) (pa_cons pe_str pa_nil))))) pss_nil)
    (C8.pss_cut (ps_if (pt_cmpR op_gt (pv 7) pe_int (nomark _)) (pss_cons (ps_set (i := 5) sc_law_spoilt.nd rfl (Or.inl rfl) (pe_ix ix_tup (pe_tup (pa_cons (pe_op PKR.op_catA (pv 5) (pe_tup (pa_cons (pe_ix ix_tup (pv 1) pe_int (fun _ _ => rfl)) pa_nil))) (pa_cons (pe_op PKR.op_catA (pv 5) (pe_tup (pa_cons pe_int pa_nil))) (pa_cons (pe_op PKR.op_catA (pv 5) (pe_tup (pa_cons (pe_un un_neg pe_int) pa_nil))) (pa_cons (pe_op PKR.op_catA (pv 5) (pe_tup (pa_cons pe_int (pa_cons pe_int pa_nil)))) pa_nil))))) (C8.pe_c C_law_take hr (by decide) rfl (pa_cons (pv 0) (pa_cons pe_int pa_nil))) (fun _ _ => rfl)))
    (pss_one (ps_expr (pe_bm PySem.F.plainAttrs_list PySem.F.slot_list_append PySem.F.type_list_append mt_append (pv 6) (pa_cons pe_str pa_nil))))) pss_nil)
    (pss_one (ps_ret (pe_tup (pa_cons (pe_tup (pa_cons (pv 2) (pa_cons (pv 3) (pa_cons (pv 4) (pa_cons (pv 5) pa_nil))))) (pa_cons (pe_ix ix_list (pv 6) pe_int (fun _ _ => rfl)) pa_nil))))))))))))))), ?_⟩
  obtain ⟨a, p, rfl, hs, hp⟩ := row_of dv
  refine ⟨_, rfl, a, _, 0, _, rfl, rfl, hs, atI_nat (j := 0) rfl, _, rfl, a, _, 1, _, rfl, rfl, hs, atI_nat (j := 1) rfl, _, rfl, a, _, 2, _, rfl, rfl, hs, atI_nat (j := 2) rfl, _, rfl, a, _, 3, _, rfl, rfl, hs, atI_nat (j := 3) rfl, Nat.zero_le _, fun R hR => ?_⟩
  have x0 : Ext l c H (upd H R (.lst [])) := (Ext.refl P0).new P0 hR
  have nR : R ≠ l := (P0.ne hR).1
  refine vTake rfl x0.pool (by decide) (by decide) fun d H1 d0 d15 x1 => ?_
  have x2 : Ext l c H H1 := x0.trans x1
  have hR1 := x1.keep _ _ nR upd_same
  have gn := good_name wr
  refine ⟨_, _, rfl, rfl, ?_⟩
  refine ⟨fun σ H' => ∃ (n : Str) (B : Option V) (ws : List Str), σ = [some (.ref l), some (.ref a), some (.str n), some (.int r.many), some (.str r.kind), some (.ref p), some (.ref R), some (.int (1 + d)), B] ∧ Ext l c H H' ∧ H' R = some (.lst (ws.map V.str)) ∧ n.length ≤ 1000 ∧ ws.length ≤ 1 ∧
    ((ws = [] ∧ n = r.name ∧ (1 + d) % 2 ≠ 1) ∨ ∃ x rest, ws = x :: rest ∧ ∀ m k s, (⟨n, m, k, s⟩ : Rw).wrong = some x), ?_, ?_⟩
  · refine ⟨_, rfl, .inl ⟨_, rfl, _, _, rfl, rfl, (by show (0 : Int) < 2; decide), rfl, _, rfl, ite2 (fun e => ?_) (fun e => ?_)⟩⟩
    · refine ⟨small (by show 8 ≤ _; decide), fun bt hbt => ?_⟩
      have y1 := (Ext.refl x2.pool).new (o := .tup (BARRED.map V.str)) x2.pool hbt
      refine ⟨_, rfl, vTake rfl y1.pool (by decide) (by decide) fun k H2 k0 k8 y2 => ?_⟩
      obtain ⟨bw, hbw, ha⟩ := at_in V.str BARRED k0 k8
      refine ⟨bt, _, k, _, rfl, rfl, y2.seqT y1.pool (SqT.of upd_same), ha, small (by show 7 ≤ _; decide), fun nt hnt => ?_⟩
      have y3 := (y1.trans y2).new (o := .tup ((NAMES bw).map V.str)) x2.pool hnt
      refine vTake rfl y3.pool (by decide) (by decide) fun j H3 j0 j7 y4 => ?_
      obtain ⟨n, hn, hna⟩ := at_in V.str (NAMES bw) j0 j7
      refine ⟨nt, _, j, _, rfl, rfl, y4.seqT y3.pool (SqT.of upd_same), hna, ?_⟩
      have y5 := y3.trans y4
      have hR3 := y5.keep _ _ nR hR1
      refine ⟨_, rfl, .inl ⟨rfl, _, SqL.of hR3⟩, R, _, _, rfl, rfl, hR3, smallL (by decide), ?_⟩
      exact ⟨n, _, ["name"], rfl, (x2.trans y5).upd P0 hR, upd_same, (names_bad hbw n hn).2, Nat.le_refl 1, .inr ⟨_, [], rfl, fun m k s => wrong_name (names_bad hbw n hn).1⟩⟩
    · refine ⟨r.name, _, [], rfl, x2, hR1, sm.1, Nat.zero_le _, .inl ⟨rfl, rfl, fun z => ?_⟩⟩
      exact of_decide_eq_false (Bool.eq_false_iff.mpr e) (by show V.int ((1 + d) % 2) = V.int 1; rw [z])
  rintro σ' H2 ⟨n, B, ws, rfl, z1, hR2, ln, lw, J⟩
  have P2 := z1.pool
  refine ⟨fun σ H' => ∃ (m : Int) (B : Option V) (ws : List Str), σ = [some (.ref l), some (.ref a), some (.str n), some (.int m), some (.str r.kind), some (.ref p), some (.ref R), some (.int (1 + d)), B] ∧ Ext l c H H' ∧ H' R = some (.lst (ws.map V.str)) ∧ ws.length ≤ 2 ∧
    ((ws = [] ∧ n = r.name ∧ m = r.many ∧ (1 + d) % 2 ≠ 1 ∧ (1 + d) / 2 % 2 ≠ 1) ∨ ∃ x rest, ws = x :: rest ∧ ∀ k s, (⟨n, m, k, s⟩ : Rw).wrong = some x), ?_, ?_⟩
  · refine ⟨_, rfl, _, _, rfl, rfl, ⟨by decide, by decide⟩, .inl ⟨_, rfl, _, _, rfl, rfl, (by show (0 : Int) < 2; decide), rfl, _, rfl, ite2 (fun e => ?_) (fun e => ?_)⟩⟩
    · refine ⟨_, rfl, vTake rfl P2 (by decide) (by decide) fun e H3 e0 e1 w1 => ⟨_, _, rfl, rfl, small (by show 3 ≤ _; decide), fun nt hnt => ?_⟩⟩
      have y := w1.new (o := .tup (([7, -1, 8 + e] : List Int).map V.int)) P2 hnt
      refine vTake rfl y.pool (by decide) (by decide) fun j H4 j0 j3 w2 => ?_
      obtain ⟨m, hm, hma⟩ := at_in V.int [7, -1, 8 + e] j0 j3
      refine ⟨nt, _, j, _, rfl, rfl, w2.seqT y.pool (SqT.of upd_same), hma, ?_⟩
      have y5 := y.trans w2
      have hR3 := y5.keep _ _ nR hR2
      refine ⟨_, rfl, .inl ⟨rfl, _, SqL.of hR3⟩, R, _, _, rfl, rfl, hR3, (by rw [List.length_map]; exact smallL (by omega)), ?_⟩
      refine ⟨m, _, ws ++ (["many"] : List Str), rfl, (z1.trans y5).upd P0 hR, by rw [upd_same, List.map_append]; rfl, by rw [List.length_append]; show ws.length + 1 ≤ 2; omega, .inr ?_⟩
      rcases J with ⟨rfl, rfl, _⟩ | ⟨x, rest, rfl, J⟩
      · refine ⟨_, [], rfl, fun k s => wrong_many gn ?_⟩
        show ¬ (0 ≤ m ∧ m ≤ 6)
        simp only [List.mem_cons, List.not_mem_nil, or_false] at hm
        omega
      · exact ⟨x, rest ++ (["many"] : List Str), rfl, fun k s => J m k s⟩
    · refine ⟨r.many, _, ws, rfl, z1, hR2, by omega, ?_⟩
      rcases J with ⟨h1, h2, h3⟩ | ⟨x, rest, h1, J⟩
      · exact .inl ⟨h1, h2, rfl, h3, fun z => of_decide_eq_false (Bool.eq_false_iff.mpr e) (by show V.int ((1 + d) / 2 % 2) = V.int 1; rw [z])⟩
      · exact .inr ⟨x, rest, h1, fun k s => J _ k s⟩
  clear J hR2 lw
  rintro σ' H2 ⟨m, B, ws, rfl, z1, hR2, lw, J⟩
  have P2 := z1.pool
  refine ⟨fun σ H' => ∃ (k : Str) (B : Option V) (ws : List Str), σ = [some (.ref l), some (.ref a), some (.str n), some (.int m), some (.str k), some (.ref p), some (.ref R), some (.int (1 + d)), B] ∧ Ext l c H H' ∧ H' R = some (.lst (ws.map V.str)) ∧ ws.length ≤ 3 ∧
    ((ws = [] ∧ n = r.name ∧ m = r.many ∧ k = r.kind ∧ (1 + d) % 2 ≠ 1 ∧ (1 + d) / 2 % 2 ≠ 1 ∧ (1 + d) / 4 % 2 ≠ 1) ∨ ∃ x rest, ws = x :: rest ∧ ∀ s, (⟨n, m, k, s⟩ : Rw).wrong = some x), ?_, ?_⟩
  · refine ⟨_, rfl, _, _, rfl, rfl, ⟨by decide, by decide⟩, .inl ⟨_, rfl, _, _, rfl, rfl, (by show (0 : Int) < 2; decide), rfl, _, rfl, ite2 (fun e => ?_) (fun e => ?_)⟩⟩
    · refine ⟨small (by show 4 ≤ _; decide), fun nt hnt => ?_⟩
      have y := (Ext.refl P2).new (o := .tup ((["", "Value", "plains", "strict"] : List Str).map V.str)) P2 hnt
      refine vTake rfl y.pool (by decide) (by decide) fun j H4 j0 j3 w2 => ?_
      obtain ⟨k, hk, hka⟩ := at_in V.str ["", "Value", "plains", "strict"] j0 j3
      refine ⟨nt, _, j, _, rfl, rfl, w2.seqT y.pool (SqT.of upd_same), hka, ?_⟩
      have y5 := y.trans w2
      have hR3 := y5.keep _ _ nR hR2
      refine ⟨_, rfl, .inl ⟨rfl, _, SqL.of hR3⟩, R, _, _, rfl, rfl, hR3, (by rw [List.length_map]; exact smallL (by omega)), ?_⟩
      refine ⟨k, _, ws ++ (["kind"] : List Str), rfl, (z1.trans y5).upd P0 hR, by rw [upd_same, List.map_append]; rfl, by rw [List.length_append]; show ws.length + 1 ≤ 3; omega, .inr ?_⟩
      rcases J with ⟨rfl, rfl, rfl, _⟩ | ⟨x, rest, rfl, J⟩
      · refine ⟨_, [], rfl, fun s => wrong_kind gn fr.many ?_⟩
        have : ∀ k ∈ (["", "Value", "plains", "strict"] : List Str), k ∉ (["value", "plain"] : List Str) := by decide +kernel
        exact this k hk
      · exact ⟨x, rest ++ (["kind"] : List Str), rfl, fun s => J k s⟩
    · refine ⟨r.kind, _, ws, rfl, z1, hR2, by omega, ?_⟩
      rcases J with ⟨h1, h2, h3, h4, h5⟩ | ⟨x, rest, h1, J⟩
      · exact .inl ⟨h1, h2, h3, rfl, h4, h5, fun z => of_decide_eq_false (Bool.eq_false_iff.mpr e) (by show V.int ((1 + d) / 4 % 2) = V.int 1; rw [z])⟩
      · exact .inr ⟨x, rest, h1, fun s => J _ s⟩
  clear J hR2 lw
  rintro σ' H2 ⟨k, B, ws, rfl, z1, hR2, lw, J⟩
  have P2 := z1.pool
  have hsA := z1.seqT P0 hs
  have hpA := z1.seqT P0 hp
  refine ⟨fun σ H' => ∃ (pz : Addr) (st : List Int) (B : Option V) (ws : List Str), σ = [some (.ref l), some (.ref a), some (.str n), some (.int m), some (.str k), some (.ref pz), some (.ref R), some (.int (1 + d)), B] ∧ Ext l c H H' ∧ H' R = some (.lst (ws.map V.str)) ∧ SqT K H' pz (st.map V.int) ∧ st.length ≤ 1000 ∧
    ∃ x rest, ws = x :: rest ∧ (⟨n, m, k, st⟩ : Rw).wrong = some x, ?_, ?_⟩
  · refine ⟨_, rfl, _, _, rfl, rfl, _, rfl, ite2 (fun e => ?_) (fun e => ?_)⟩
    · have zz : ∀ {ys : List V}, ys.length ≤ 2 → (r.strict.map V.int).length + ys.length ≤ sizeLine := fun h => small (by have := sm.2; rw [List.length_map]; omega)
      refine ⟨_, rfl, _, rfl, a, _, 1, _, rfl, rfl, hsA, atI_nat (j := 1) rfl, small (by show 1 ≤ _; decide), fun t1 ht1 => cat_any (xs := r.strict.map V.int) (ys := [.int r.many]) (Same.seqT (same_new ht1) hpA) (SqT.of upd_same) (List.cons_ne_nil _ _) (zz (by show 1 ≤ 2; decide)) fun p1 H5 s5 hp1 => ?_⟩
      have u5 : Same H2 H5 := (same_new ht1).trans s5
      refine ⟨_, rfl, small (by show 1 ≤ _; decide), fun t2 ht2 => cat_any (xs := r.strict.map V.int) (ys := [.int 7]) (Same.seqT (u5.trans (same_new ht2)) hpA) (SqT.of upd_same) (List.cons_ne_nil _ _) (zz (by show 1 ≤ 2; decide)) fun p2 H6 s6 hp2 => ?_⟩
      have v6 : Same H5 H6 := (same_new ht2).trans s6
      have u6 := u5.trans v6
      refine ⟨_, rfl, _, rfl, small (by show 1 ≤ _; decide), fun t3 ht3 => cat_any (xs := r.strict.map V.int) (ys := [.int (-1)]) (Same.seqT (u6.trans (same_new ht3)) hpA) (SqT.of upd_same) (List.cons_ne_nil _ _) (zz (by show 1 ≤ 2; decide)) fun p3 H7 s7 hp3 => ?_⟩
      have v7 : Same H6 H7 := (same_new ht3).trans s7
      have u7 := u6.trans v7
      refine ⟨_, rfl, small (by show 2 ≤ _; decide), fun t4 ht4 => cat_any (xs := r.strict.map V.int) (ys := [.int 0, .int 0]) (Same.seqT (u7.trans (same_new ht4)) hpA) (SqT.of upd_same) (List.cons_ne_nil _ _) (zz (by show 2 ≤ 2; decide)) fun p4 H8 s8 hp4 => ?_⟩
      have v8 : Same H7 H8 := (same_new ht4).trans s8
      have u8 := u7.trans v8
      refine ⟨small (by show 4 ≤ _; decide), fun t5 ht5 => ?_⟩
      have x9 := ((Ext.refl P2).same u8).new (o := .tup [.ref p1, .ref p2, .ref p3, .ref p4]) P2 ht5
      refine vTake rfl x9.pool (by decide) (by decide) fun j H9 j0 j4 w2 => ?_
      have to9 : ∀ {pp : Addr} {xs : List V}, SqT K H8 pp xs → SqT K H9 pp xs := fun h => w2.seqT x9.pool (Same.seqT (same_new ht5) h)
      have app : ∀ ys : List Int, r.strict.map V.int ++ ys.map V.int = (r.strict ++ ys).map V.int := fun ys => (List.map_append ..).symm
      have all4 : ∀ z ∈ ([(p1, [r.many]), (p2, [7]), (p3, [-1]), (p4, [0, 0])] : List (Addr × List Int)), SqT K H9 z.1 ((r.strict ++ z.2).map V.int) ∧ okPl r.many (r.strict ++ z.2) = false ∧ (r.strict ++ z.2).length ≤ 1000 := by
        have hm := fr.many
        have hl := fr.len
        have out : ∀ {y : Int} {ys : List Int}, y ∈ ys → ¬ (0 ≤ y ∧ y < r.many) → okPl r.many (r.strict ++ ys) = false := fun {y ys} h1 h2 => decide_eq_false fun z => h2 (z.2 y (List.mem_append_right _ h1))
        intro z hz
        simp only [List.mem_cons, List.not_mem_nil, or_false] at hz
        rcases hz with rfl | rfl | rfl | rfl
        · exact ⟨by rw [← app]; exact to9 (Same.seqT ((v6.trans v7).trans v8) hp1), out (.head _) (by omega), by rw [List.length_append]; show r.strict.length + 1 ≤ 1000; omega⟩
        · exact ⟨by rw [← app]; exact to9 (Same.seqT (v7.trans v8) hp2), out (.head _) (by omega), by rw [List.length_append]; show r.strict.length + 1 ≤ 1000; omega⟩
        · exact ⟨by rw [← app]; exact to9 (Same.seqT v8 hp3), out (.head _) (by omega), by rw [List.length_append]; show r.strict.length + 1 ≤ 1000; omega⟩
        · refine ⟨by rw [← app]; exact to9 hp4, decide_eq_false fun z => ?_, by rw [List.length_append]; show r.strict.length + 2 ≤ 1000; omega⟩
          have := (List.nodup_append.mp z.1).2.1
          simp at this
      obtain ⟨z, hz, hza⟩ := at_in (fun z : Addr × List Int => V.ref z.1) [(p1, [r.many]), (p2, [7]), (p3, [-1]), (p4, [0, 0])] j0 j4
      obtain ⟨g1, g2, g3⟩ := all4 z hz
      refine ⟨t5, _, j, _, rfl, rfl, w2.seqT x9.pool (SqT.of upd_same), hza, ?_⟩
      have y5 := x9.trans w2
      have hR3 := y5.keep _ _ nR hR2
      refine ⟨_, rfl, .inl ⟨rfl, _, SqL.of hR3⟩, R, _, _, rfl, rfl, hR3, (by rw [List.length_map]; exact smallL (by omega)), ?_⟩
      refine ⟨z.1, r.strict ++ z.2, _, ws ++ (["strict"] : List Str), rfl, (z1.trans y5).upd P0 hR, by rw [upd_same, List.map_append]; rfl, seqT_upd g1 hR3, g3, ?_⟩
      rcases J with ⟨rfl, rfl, rfl, rfl, _⟩ | ⟨x, rest, rfl, J⟩
      · exact ⟨_, [], rfl, wrong_strict gn fr.many fr.kind g2⟩
      · exact ⟨x, rest ++ (["strict"] : List Str), rfl, J _⟩
    · refine ⟨p, r.strict, _, ws, rfl, z1, hR2, hpA, sm.2, ?_⟩
      have e' := of_decide_eq_false (Bool.eq_false_iff.mpr e)
      rcases J with ⟨h1, h2, h3, h4, h5⟩ | ⟨x, rest, h1, J⟩
      · omega
      · exact ⟨x, rest, h1, J _⟩
  clear J hR2 lw hpA
  rintro σ' H2 ⟨pz, st, B, ws, rfl, z1, hR2, hpz, lst, x, rest, rfl, wx⟩
  refine ⟨_, rfl, _, rfl, _, rfl, _, rfl, small (by show 4 ≤ _; decide), fun t1 ht1 => ?_⟩
  have hR3 : (upd H2 t1 (.tup [.str n, .int m, .str k, .ref pz])) R = some (.lst (V.str x :: rest.map V.str)) := by rw [upd_ne (ne_of_none hR2 ht1)]; exact hR2
  refine ⟨_, rfl, R, _, 0, _, rfl, rfl, SqL.of hR3, atI_nat (j := 0) rfl, small (by show 2 ≤ _; decide), fun t2 ht2 => ?_⟩
  have dr := row_dt (K := K) (r := ⟨n, m, k, st⟩) (SqT.of (upd_same (H := H2) (a := t1))) (Same.seqT (same_new ht1) hpz)
  exact q _ _ ⟨n, m, k, st⟩ x ((z1.new P0 ht1).new P0 ht2) (Dt.mk2 ht2 dr (.str x)) wx ⟨ln, lst⟩
end
end PK
namespace PK
open PySem L2
/-- a def that may raise, called by its name -/
structure CalR (P : Program) (w : World) (K : PySem.W.Frag) (mg : Str → Option Value) (base : Heap) (k : Nat) (x : Str) (sp : Sp) : Prop where
  ex : ∃ (f : Addr) (fd : FuncData) (ps : List Str), FnOk P w K mg base (L2.CX P w) k f fd ps sp ∧ mg x = some (.ref f) ∧ PySem.W.keepIn K (.ref f) = true ∧ Binds K fd ps []
section
variable {X : Cx} {k j : Nat} {x : Str} {sp : Sp} {p pos : Pos} {e : Expr} {es : List Expr} {t : TA} {W : WX}
theorem pe_cr (c : CalR X.prog X.w X.K X.mg X.base k x sp) (hr : Room j X.A) (hk : k ≤ j) (hg : Gl X x) (ha : PA X (e :: es) t)
    (hdb : (x == ("__debug__" : Str)) = false := by decide) (he : starEach (e :: es) X.env = (false, eval e X.env) :: starEach es X.env := by rfl) (hpl : (backTo pos (starEach es X.env)).any (·.1) = false := by rfl) :
    PE X (.Call (.Name x p) (e :: es) [] pos) (tCall sp [] C8.E0 t) := by
  obtain ⟨f, fd, ps, F, hm, kp, b⟩ := c.ex
  exact pe_call F (hr.mono hk) hg hm kp b .nil passL ha hdb he hpl
theorem pe_crS (c : CalR X.prog X.w X.K X.mg X.base k x sp) (tk : Takes X W) (hr : Room j X.A) (hk : k ≤ j) (hg : Gl X x) (ha : PA X (e :: es) t)
    (hdb : (x == ("__debug__" : Str)) = false := by decide) (he : starEach (e :: es) X.env = (false, eval e X.env) :: starEach es X.env := by rfl) (hpl : (backTo pos (starEach es X.env)).any (·.1) = false := by rfl) :
    PE X (.Call (.Name x p) (e :: es) [] pos) (tCallS sp (WE W) t) := by
  obtain ⟨f, fd, ps, F, hm, kp, b⟩ := c.ex
  exact pe_callS F (hr.mono hk) hg hm kp b (fun σ => passAt tk σ) ha hdb he hpl
end
theorem valR {v : V} {r : List (Str × V)} : List.lookup ("reason" : Str) ((("reason" : Str), v) :: r) = some v := by simp [List.lookup]
theorem valN {u v : V} : List.lookup ("number" : Str) [(("reason" : Str), v), (("number" : Str), u)] = some u := by
  have e : (("number" : Str) == ("reason" : Str)) = false := by decide +kernel
  simp [List.lookup, e]
structure ClsX (K : PySem.W.Frag) (mg : Str → Option Value) (CP CL CC : Addr) : Prop where
  gP : mg "PassError" = some (.ref CP)
  gL : mg "BadLanguage" = some (.ref CL)
  gC : mg "BadConstructor" = some (.ref CC)
  eL : ExcC K CL
  eC : ExcC K CC
  xL : XfC K CL
  xC : XfC K CC
  nL : NoF K CL
  nC : NoF K CC
  kLP : PySem.W.kitOne K (.ref CL) (.ref CP) = some true
  kLC : PySem.W.kitOne K (.ref CL) (.ref CC) = some false
  kCP : PySem.W.kitOne K (.ref CC) (.ref CP) = some true
  kCL : PySem.W.kitOne K (.ref CC) (.ref CL) = some false
  mCC : PySem.W.exmOne K (.ref CC) (.ref CC) = some true
  mLC : PySem.W.exmOne K (.ref CL) (.ref CC) = some false
  mLL : PySem.W.exmOne K (.ref CL) (.ref CL) = some true
def dueD : Er → PyData
  | .lang r => .tuple [.bool true, .str r]
  | .con i r => .tuple [.bool true, .int i, .str r]
def spAsked (K : PySem.W.Frag) : Sp := fun vs H Q _ => ∃ (p : Addr) (ws : List V) (rows : List Rw) (e : Er), vs = [.ref p] ∧ Sq K H p ws ∧ Rows K H ws rows ∧ (∀ r ∈ rows, r.small) ∧ rows.length ≤ 100 ∧ chk rows = some e ∧
  ∀ H' v, Same H H' → Dt K H' v (dueD e) → Q v H'
section
variable {P : Program} {w : World} {K : PySem.W.Frag} {mg : Str → Option Value} {base : Heap} {CP CL CC : Addr}
abbrev s_law_asked : Stmt := topS 25
theorem sc_law_asked : FnScope ["rows", "wrong"] ["rows"] (defScope s_law_asked) := ⟨rfl, rfl, rfl, by decide +kernel, rfl, by decide +kernel, by decide +kernel⟩
-- slots: 0:rows 1:wrong
theorem ok_asked {f : Addr} {fd : FuncData} (F : Fun K "_law_asked" "_law_asked" s_law_asked f fd) (T : Txt K mg) (X : ClsX K mg CP CL CC) (C_check : CalR P w K mg base 4 "check_constructors" (spCheck K CL CC)) : FnOk P w K mg base CX0 5 f fd ["rows"] (spAsked K) := by
  refine F.ok sc_law_asked (fun vs H Q E h => ?_) (fun cdv A outer s H vs Q E hr h => ?_)
  · obtain ⟨_, _, _, _, rfl, _⟩ := h
    rfl
  obtain ⟨p, ws, rows, e, rfl, hp, hrs, hsm, hlen, ce, q⟩ := h
  refine ⟨_, pss_one (PKR.ps_try_row rfl rfl sc_law_asked.nd takes0
    (fun W pn xe tk _ => pss_one (ps_ret (pe_crS C_check tk hr (by decide) rfl (pa_cons (pv 0) pa_nil))))
    (.cons (i := 1) (c := .ref CC) rfl rfl ⟨rfl, by decide, .inl X.gC⟩
      (fun a oe cls d pn hz hf => pss_one (ps_ret (pe_tup (pa_cons (pe_and (pe_callB (PKR.call_isX hz hf) (by rfl) T.z_isinstance (by decide +kernel) (pa_cons (pv 1) (pa_cons (pe_glob (v := .ref CP) rfl X.gP rfl) pa_nil)))
        (pe_one (pe_not (pe_callB (PKR.call_isX hz hf) (by rfl) T.z_isinstance (by decide +kernel) (pa_cons (pv 1) (pa_cons (pe_glob (v := .ref CL) rfl X.gL rfl) pa_nil)))))) (pa_cons (pe_xf X.xC X.nC.n hz hf (pv 1)) (pa_cons (pe_xf X.xC X.nC.r hz hf (pv 1)) pa_nil))))))
      (.cons (i := 1) (c := .ref CL) rfl rfl ⟨rfl, by decide, .inl X.gL⟩
        (fun a oe cls d pn hz hf => pss_one (ps_ret (pe_tup (pa_cons (pe_and (pe_callB (PKR.call_isX hz hf) (by rfl) T.z_isinstance (by decide +kernel) (pa_cons (pv 1) (pa_cons (pe_glob (v := .ref CP) rfl X.gP rfl) pa_nil)))
          (pe_one (pe_not (pe_callB (PKR.call_isX hz hf) (by rfl) T.z_isinstance (by decide +kernel) (pa_cons (pv 1) (pa_cons (pe_glob (v := .ref CC) rfl X.gC rfl) pa_nil)))))) (pa_cons (pe_xf X.xL X.nL.r hz hf (pv 1)) pa_nil)))))
        .nil))), ?_⟩
  refine ⟨_, rfl, p, ws, rows, rfl, hp, hrs, hsm, hlen, ?_⟩
  rw [ce]
  cases e with
  | lang r =>
    intro d H' sm hd
    refine ⟨false, X.mLC, fun z => Bool.noConfusion z, fun _ => ⟨true, X.mLL, fun _ a na => ?_, fun z => Bool.noConfusion z⟩⟩
    refine ⟨_, rfl, .ref CP, .ref CP, true, CL, d, _, rfl, fun u h => h, rfl, rfl, hd, X.eL, X.kLP, _, rfl, iteT ⟨_, rfl, .ref CC, .ref CC, false, CL, d, _, rfl, fun u h => h, rfl, rfl, hd, X.eL, X.kLC, _, rfl, ?_⟩⟩
    refine ⟨_, rfl, rfl, rfl, d, _, _, rfl, hd, valR, small (by show 2 ≤ _; decide), fun t ht => ?_⟩
    exact q _ _ (Same.upd sm (sm.free ht)) (.tup (SqT.of upd_same) (.cons (.bl true) (.cons (.str r) .nil)))
  | con i r =>
    intro d H' sm hd
    refine ⟨true, X.mCC, fun _ a na => ?_, fun z => Bool.noConfusion z⟩
    refine ⟨_, rfl, .ref CP, .ref CP, true, CC, d, _, rfl, fun u h => h, rfl, rfl, hd, X.eC, X.kCP, _, rfl, iteT ⟨_, rfl, .ref CL, .ref CL, false, CC, d, _, rfl, fun u h => h, rfl, rfl, hd, X.eC, X.kCL, _, rfl, ?_⟩⟩
    refine ⟨_, rfl, rfl, rfl, d, _, _, rfl, hd, valN, _, rfl, rfl, rfl, d, _, _, rfl, hd, valR, small (by show 3 ≤ _; decide), fun t ht => ?_⟩
    exact q _ _ (Same.upd sm (sm.free ht)) (.tup (SqT.of upd_same) (.cons (.bl true) (.cons (.int i) (.cons (.str r) .nil))))
end
end PK
namespace PK
open PySem L2
/-! what the changed rows are refused for -/
theorem fw_app : ∀ {as bs : List Rw} {i : Nat}, (∀ r ∈ as, r.wrong = none) → firstWrong i (as ++ bs) = firstWrong (i + as.length) bs
  | [], _, _, _ => rfl
  | a :: as, bs, i, h => by
    rw [List.cons_append, fw_cons, h a (.head _)]
    show firstWrong (i + 1) (as ++ bs) = _
    rw [fw_app fun r hr => h r (.tail _ hr), List.length_cons, show i + 1 + as.length = i + (as.length + 1) by omega]
theorem fd_app : ∀ {as bs : List Rw} {i : Nat} {seen : List Str}, (seen ++ as.map Rw.name).Nodup → firstDouble i seen (as ++ bs) = firstDouble (i + as.length) (seen ++ as.map Rw.name) bs
  | [], _, _, _, _ => by simp
  | a :: as, bs, i, seen, h => by
    have h' : ((seen ++ [a.name]) ++ as.map Rw.name).Nodup := by rw [List.append_assoc]; exact h
    have n : a.name ∉ seen := fun z => (List.nodup_append.mp h).2.2 a.name z a.name (.head _) rfl
    rw [List.cons_append, fd_cons, if_neg n, fd_app h', List.length_cons, List.map_cons, List.append_assoc, show i + 1 + as.length = i + (as.length + 1) by omega]
    rfl
theorem chk_none {rows : List Rw} (g : Goods rows) (h : 1 ≤ rows.length ∧ rows.length ≤ 40) : chk rows = none := by
  have e1 := fw_app (bs := []) (i := 0) fun r hr => (g.ok r hr).1
  have e2 := fd_app (bs := []) (i := 0) (seen := []) (as := rows) (by simpa using g.names)
  rw [List.append_nil] at e1 e2
  unfold chk
  rw [if_neg (fun z => z h), e1]
  show firstDouble 0 [] rows = none
  rw [e2]
  rfl
theorem chk_long {rows : List Rw} (h : ¬ (1 ≤ rows.length ∧ rows.length ≤ 40)) : chk rows = some (.lang "constructors") := by
  unfold chk
  rw [if_pos h]
theorem chk_double {rows more : List Rw} {r : Rw} (g : Goods rows) (hr : r.wrong = none) (hm : ∀ r ∈ more, r.wrong = none) (hn : r.name ∈ rows.map Rw.name) (hl : rows.length + 1 + more.length ≤ 40) : chk (rows ++ r :: more) = some (.con rows.length "double") := by
  have w : ∀ x ∈ rows ++ r :: more, x.wrong = none := fun x hx => by
    rcases List.mem_append.mp hx with h | h
    · exact (g.ok x h).1
    · rcases List.mem_cons.mp h with h | h
      · rw [h]; exact hr
      · exact hm x h
  have e1 := fw_app (bs := []) (i := 0) w
  rw [List.append_nil] at e1
  have e2 := fd_app (bs := r :: more) (i := 0) (seen := []) (as := rows) (by simpa using g.names)
  unfold chk
  rw [if_neg (fun z => z (by rw [List.length_append, List.length_cons]; omega)), e1]
  show firstDouble 0 [] (rows ++ r :: more) = _
  rw [e2, fd_cons, List.nil_append, if_pos hn, Nat.zero_add]
theorem chk_spoilt {as bs : List Rw} {r : Rw} {why : Str} (ha : ∀ r ∈ as, r.wrong = none) (hr : r.wrong = some why) (hl : as.length + 1 + bs.length ≤ 40) : chk (as ++ r :: bs) = some (.con as.length why) := by
  have e1 := fw_app (bs := r :: bs) (i := 0) ha
  rw [fw_cons, hr, Nat.zero_add] at e1
  unfold chk
  rw [if_neg (fun z => z (by rw [List.length_append, List.length_cons]; omega)), e1]
section
variable {K : PySem.W.Frag} {H : Hp}
theorem DtAll.getD : ∀ {xs : List V} {ds : List PyData} {i : Nat} {d : PyData}, DtAll K H xs ds → ds[i]? = some d → ∃ x, xs[i]? = some x ∧ Dt K H x d
  | _, _, _, _, .nil, e => by simp at e
  | _, _, 0, _, .cons h _, e => by simp at e; subst e; exact ⟨_, rfl, h⟩
  | _, _, i + 1, _, .cons _ t, e => by
    obtain ⟨d, h1, h2⟩ := DtAll.getD (i := i) t (by simpa using e)
    exact ⟨d, by simpa using h1, h2⟩
theorem DtAll.takeN : ∀ {xs : List V} {ds : List PyData} (n : Nat), DtAll K H xs ds → DtAll K H (xs.take n) (ds.take n)
  | _, _, 0, _ => by rw [List.take_zero, List.take_zero]; exact .nil
  | _, _, _ + 1, .nil => .nil
  | _, _, n + 1, .cons h t => .cons h (DtAll.takeN n t)
theorem DtAll.setN : ∀ {xs : List V} {ds : List PyData} {v : V} {d : PyData} (n : Nat), DtAll K H xs ds → Dt K H v d → DtAll K H (xs.set n v) (ds.set n d)
  | _, _, _, _, _, .nil, _ => .nil
  | _, _, _, _, 0, .cons _ t, h => .cons h t
  | _, _, _, _, n + 1, .cons h0 t, h => .cons h0 (DtAll.setN n t h)
theorem rows_of {ws : List V} {rows : List Rw} (h : DtAll K H ws (rows.map Rw.d)) : Rows K H ws rows := by
  refine ⟨by rw [DtAll.length2 h, List.length_map], fun i v r hv hr => ?_⟩
  obtain ⟨x, h1, h2⟩ := DtAll.getD (i := i) (d := r.d) h (by rw [List.getElem?_map, hr]; rfl)
  rw [hv] at h1
  cases h1
  exact row_at h2
end
theorem cut_take (xs : List V) (n : Nat) : cutV xs none (some (n : Int)) = xs.take n := by
  unfold cutV
  rw [HT.sIx_none, HT.sIx_nat, List.drop_zero, Nat.sub_zero]
  by_cases h : n ≤ xs.length
  · rw [show min n xs.length = n by omega]
  · rw [show min n xs.length = xs.length by omega, List.take_length, List.take_of_length_le (by omega)]
theorem Goods.take {rows : List Rw} (g : Goods rows) (n : Nat) : Goods (rows.take n) :=
  ⟨by rw [List.map_take]; exact g.names.sublist (List.take_sublist ..), fun r hr => g.ok r (List.mem_of_mem_take hr)⟩
def spChanged (K : PySem.W.Frag) : Sp := fun vs H Q _ => ∃ (l c pr : Addr) (ws : List V) (rows : List Rw), vs = [.ref l, .ref pr] ∧ Pool H l c ∧ pr ≠ l ∧ H pr = some (.lst ws) ∧ DtAll K H ws (rows.map Rw.d) ∧ Goods rows ∧ 1 ≤ rows.length ∧
  ∀ (H' : Hp) (t pf : Addr) (vd : V) (ws2 : List V) (rows2 : List Rw) (e : Er), Ext l c H H' → SqT K H' t [.ref pf, vd] → H' pf = some (.lst ws2) → DtAll K H' ws2 (rows2.map Rw.d) → (∀ r ∈ rows2, r.small) → rows2.length ≤ 100 → chk rows2 = some e → Dt K H' vd (dueD e) → Q (.ref t) H'
section
variable {P : Program} {w : World} {K : PySem.W.Frag} {mg : Str → Option Value} {base : Heap} {CP CL CC : Addr}
abbrev s_law_changed : Stmt := topS 26
theorem sc_law_changed : FnScope ["pool", "rows", "kind", "at", "found", "more", "spoilt"] ["pool", "rows"] (defScope s_law_changed) := ⟨rfl, rfl, rfl, by decide +kernel, rfl, by decide +kernel, by decide +kernel⟩
-- slots: 0:pool 1:rows 2:kind 3:at 4:found 5:more 6:spoilt
theorem ok_changed {f : Addr} {fd : FuncData} (F : Fun K "_law_changed" "_law_changed" s_law_changed f fd) (T : Txt K mg) (C_law_take : C8.Cal P w K mg base 2 "_law_take" (spTake 2) []) (C_law_allowed : C8.Cal P w K mg base 4 "_law_allowed" (spAllowed K) [])
    (C_law_spoilt : C8.Cal P w K mg base 3 "_law_spoilt" (spSpoilt K) []) : FnOk P w K mg base CX0 5 f fd ["pool", "rows"] (spChanged K) := by
  refine F.ok sc_law_changed (fun vs H Q E h => ?_) (fun cdv A outer s H vs Q E hr h => ?_)
  · obtain ⟨_, _, _, _, _, rfl, _⟩ := h
    rfl
  obtain ⟨l, c, pr, ws, rows, rfl, P0, npr, hpr, dt, g, h1, q⟩ := h
  refine ⟨_, (pss_cons (ps_set (i := 2) sc_law_changed.nd rfl (Or.inl rfl) (C8.pe_c C_law_take hr (by decide) rfl (pa_cons (pv 0) (pa_cons pe_int pa_nil))))
    (pss_cons (ps_set (i := 1) sc_law_changed.nd rfl (Or.inl rfl) (pe_slice sl_list (pv 1) po_none (po_some pe_int)))
    (pss_cons (ps_set (i := 3) sc_law_changed.nd rfl (Or.inl rfl) (C8.pe_c C_law_take hr (by decide) rfl (pa_cons (pv 0) (pa_cons (pe_callB call_len_seq (by rfl) T.z_len (by decide +kernel) (pa_cons (pv 1) pa_nil)) pa_nil))))
    (pss_cons (ps_set (i := 4) sc_law_changed.nd rfl (Or.inl rfl) (pe_callTy call_list_of (by rfl) T.z_list (by decide +kernel) (pa_cons (pv 1) pa_nil)))
    (pss_cons (ps_if (pt_cmpR op_eq (pv 2) pe_int (nomark _)) (pss_one (ps_ret (pe_tup (pa_cons (pe_lst pa_nil) (pa_cons (pe_tup (pa_cons pe_bl (pa_cons pe_str pa_nil))) pa_nil))))) pss_nil)
    (pss_cons (ps_if (pt_cmpR op_eq (pv 2) pe_int (nomark _)) (pss_cons (ps_set (i := 5) sc_law_changed.nd rfl (Or.inl rfl) (C8.pe_c C_law_allowed hr (by decide) rfl (pa_cons (pv 0) (pa_cons pe_int pa_nil))))
    (pss_one (ps_ret (pe_tup (pa_cons (pe_slice sl_list (pe_op op_cat (pv 5) (pv 5)) po_none (po_some (pe_op op_add pe_int (C8.pe_c C_law_take hr (by decide) rfl (pa_cons (pv 0) (pa_cons pe_int pa_nil)))))) (pa_cons (pe_tup (pa_cons pe_bl (pa_cons pe_str pa_nil))) pa_nil)))))) pss_nil)
    (pss_cons (ps_if (pt_cmpR op_eq (pv 2) pe_int (nomark _)) (pss_cons (ps_expr (pe_bm PySem.F.plainAttrs_list PySem.F.slot_list_append PySem.F.type_list_append mt_append (pv 4) (pa_cons (pe_ix ix_list (pv 1) (pv 3) (fun _ _ => rfl)) pa_nil)))
    (C8.pss_cut (ps_if (pt_cmpR op_eq (C8.pe_c C_law_take hr (by decide) rfl (pa_cons (pv 0) (pa_cons pe_int pa_nil))) pe_int (nomark _)) (pss_one (ps_expr (pe_bm PySem.F.plainAttrs_list PySem.F.slot_list_append PySem.F.type_list_append mt_append (pv 4) (pa_cons (pe_tup (pa_cons pe_str (pa_cons pe_int (pa_cons pe_str (pa_cons (pe_tup pa_nil) pa_nil))))) pa_nil)))) pss_nil)
    (pss_one (ps_ret (pe_tup (pa_cons (pv 4) (pa_cons (pe_tup (pa_cons pe_bl (pa_cons (pe_callB call_len_seq (by rfl) T.z_len (by decide +kernel) (pa_cons (pv 1) pa_nil)) (pa_cons pe_str pa_nil)))) pa_nil))))))) pss_nil)
    (pss_cons (ps_set (i := 6) sc_law_changed.nd rfl (Or.inl rfl) (C8.pe_c C_law_spoilt hr (by decide) rfl (pa_cons (pv 0) (pa_cons (pe_ix ix_list (pv 1) (pv 3) (fun _ _ => rfl)) pa_nil))))
    (pss_cons (ps_asg (pe_ix ix_tup (pv 6) pe_int (fun _ _ => rfl)) (pg_sub (pv 4) (pv 3) set_list))
    (C8.pss_cut (ps_if (pt_cmpR op_eq (pv 2) pe_int (nomark _)) (pss_one (ps_expr (pe_bm PySem.F.plainAttrs_list PySem.F.slot_list_append PySem.F.type_list_append mt_append (pv 4) (pa_cons (pe_ix ix_tup (C8.pe_c C_law_spoilt hr (by decide) rfl (pa_cons (pv 0) (pa_cons (pe_ix ix_list (pv 1) (pv 3) (fun _ _ => rfl)) pa_nil))) pe_int (fun _ _ => rfl)) pa_nil)))) pss_nil)
    (C8.pss_cut (ps_if (pt_cmpR op_eq (pv 2) pe_int (nomark _)) (pss_one (ps_expr (pe_bm PySem.F.plainAttrs_list PySem.F.slot_list_append PySem.F.type_list_append mt_append (pv 4) (pa_cons (pe_ix ix_list (pv 1) (pe_op op_sub (pe_callB call_len_seq (by rfl) T.z_len (by decide +kernel) (pa_cons (pv 1) pa_nil)) pe_int) (fun _ _ => rfl)) pa_nil)))) pss_nil)
    (pss_one (ps_ret (pe_tup (pa_cons (pv 4) (pa_cons (pe_tup (pa_cons pe_bl (pa_cons (pv 3) (pa_cons (pe_ix ix_tup (pv 6) pe_int (fun _ _ => rfl)) pa_nil)))) pa_nil)))))))))))))))), ?_⟩
  refine vTake rfl P0 (by decide) (by decide) fun kd H1 k0 k6 x1 => ?_
  have hpr1 := x1.keep _ _ npr hpr
  refine ⟨_, rfl, 30, rfl, pr, ws, rfl, SqL.of hpr1, fun p0 hp0 => ?_⟩
  rw [show cutV ws none (some 30) = ws.take 30 from cut_take ws 30]
  have x2 := x1.new (o := .lst (ws.take 30)) P0 hp0
  have dt0 : DtAll K H (ws.take 30) ((rows.take 30).map Rw.d) := by rw [List.map_take]; exact dt.takeN 30
  have g0 := g.take 30
  have n0 : 1 ≤ (rows.take 30).length ∧ (rows.take 30).length ≤ 30 := by rw [List.length_take]; omega
  generalize rows.take 30 = rs at dt0 g0 n0
  generalize hws : ws.take 30 = vs at x2 dt0 ⊢
  have lv : vs.length = rs.length := by rw [DtAll.length2 dt0, List.length_map]
  have np0 : p0 ≠ l := (x1.pool.ne hp0).1
  refine ⟨_, rfl, ⟨_, rfl, p0, vs, rfl, .inl (SqL.of upd_same), ⟨l, c, _, False, rfl, x2.pool, ?_, ?_, .inl (Nat.le_refl 2), fun at_ H2 a0 a1 x3 => ?_⟩⟩⟩
  · omega
  · omega
  have hp02 := x3.keep _ _ np0 upd_same
  refine ⟨_, rfl, p0, vs, rfl, .inl (SqL.of hp02), fun pf hpf => ?_⟩
  have x4 := (x2.trans x3).new (o := .lst vs) P0 hpf
  have hp03 := ((Ext.refl x3.pool).new (o := .lst vs) x3.pool hpf).keep _ _ np0 hp02
  have npf : pf ≠ l := (x3.pool.ne hpf).1
  have npp : pf ≠ p0 := fun z => by rw [z, hp02] at hpf; cases hpf
  have hpf0 : H pf = none := (x2.trans x3).free P0 hpf
  have P4 := x4.pool
  have dt4 := dt0.ext P0 x4
  have fin : ∀ {Hx : Hp} {pf t : Addr} {vd : V} {ws2 : List V} {rows2 : List Rw} {e : Er}, Ext l c H Hx → Hx pf = some (.lst ws2) → DtAll K Hx ws2 (rows2.map Rw.d) → (∀ r ∈ rows2, r.small) → rows2.length ≤ 100 → chk rows2 = some e → Dt K Hx vd (dueD e) → Hx t = none →
      Q (.ref t) (upd Hx t (.tup [.ref pf, vd])) := fun x h d h1 h2 h3 h4 ht => q _ _ _ _ _ _ _ (x.new P0 ht) (SqT.of upd_same) (by rw [upd_ne (ne_of_none h ht)]; exact h) (d.same (same_new ht)) h1 h2 h3 (h4.same (same_new ht))
  obtain ⟨a, rfl⟩ : ∃ a : Nat, at_ = a := ⟨at_.toNat, by omega⟩
  have ha : a < rs.length := by omega
  have ga : rs[a]? = some rs[a] := List.getElem?_eq_getElem ha
  obtain ⟨v, gv, dv⟩ := DtAll.getD (i := a) (d := rs[a].d) dt0 (by rw [List.getElem?_map, ga]; rfl)
  have rok := g0.ok _ (List.getElem_mem ha)
  refine ⟨_, rfl, rfl, _, rfl, ite2 (fun e => ?_) (fun e0 => ?_)⟩
  · refine ⟨Nat.zero_le _, fun q1 hq1 => ⟨small (by show 2 ≤ _; decide), fun t1 ht1 => ⟨small (by show 2 ≤ _; decide), fun t2 ht2 => ?_⟩⟩⟩
    refine fin (ws2 := []) (rows2 := []) (e := .lang "constructors") ((x4.new P0 hq1).new P0 ht1) ?_ .nil (fun _ h => nomatch h) (Nat.zero_le _) (chk_long (by show ¬ (1 ≤ 0 ∧ 0 ≤ 40); decide)) (.tup (SqT.of upd_same) (.cons (.bl true) (.cons (.str _) .nil))) ht2
    rw [upd_ne (ne_of_none upd_same ht1)]
    exact upd_same
  refine ⟨_, rfl, rfl, _, rfl, ite2 (fun e => ?_) (fun e1 => ?_)⟩
  · refine ⟨_, rfl, l, c, 25, rfl, P4, Nat.le_refl 25, fun H3 M wm rm x5 hM0 hM dm lm gm => ?_⟩
    have lwm : wm.length = 25 := by rw [DtAll.length2 dm, List.length_map, lm]
    refine ⟨_, rfl, _, rfl, M, M, wm, wm, rfl, rfl, hM, hM, small (by omega), fun pm hpm => ?_⟩
    have x6 := (x4.trans x5).new (o := .lst (wm ++ wm)) P0 hpm
    have dm6 := dm.same (same_new (o := .lst (wm ++ wm)) hpm)
    refine vTake rfl x6.pool (by decide) (by decide) fun j H5 j0 j9 x7 => ⟨_, _, rfl, rfl, 41 + j, rfl, pm, _, rfl, SqL.of (x7.keep _ _ ((x4.trans x5).pool.ne hpm).1 upd_same), fun pz hpz => ?_⟩
    obtain ⟨k, rfl⟩ : ∃ k : Nat, j = k := ⟨j.toNat, by omega⟩
    rw [show (41 : Int) + (k : Int) = ((41 + k : Nat) : Int) by omega, cut_take]
    have dz := (dm6.ext x6.pool x7).same (same_new (o := .lst ((wm ++ wm).take (41 + k))) hpz)
    refine ⟨small (by show 2 ≤ _; decide), fun t1 ht1 => ⟨small (by show 2 ≤ _; decide), fun t2 ht2 => ?_⟩⟩
    refine fin (ws2 := (wm ++ wm).take (41 + k)) (rows2 := (rm ++ rm).take (41 + k)) (e := .lang "constructors") (((x6.trans x7).new P0 hpz).new P0 ht1) ?_ ?_ ?_ ?_ (chk_long ?_) (.tup (SqT.of upd_same) (.cons (.bl true) (.cons (.str _) .nil))) ht2
    · rw [upd_ne (ne_of_none upd_same ht1)]
      exact upd_same
    · rw [List.map_take, List.map_append]
      exact ((DtAll.append dz dz).takeN _).same (same_new ht1)
    · intro r hr
      rcases List.mem_append.mp (List.mem_of_mem_take hr) with h | h
      · exact (gm.ok r h).2.1
      · exact (gm.ok r h).2.1
    · rw [List.length_take, List.length_append]; omega
    · rw [List.length_take, List.length_append]; omega
  refine ⟨_, rfl, rfl, _, rfl, ite2 (fun e => ?_) (fun e2 => ?_)⟩
  · refine ⟨_, rfl, .inl ⟨rfl, _, SqL.of upd_same⟩, ⟨_, rfl, _, rfl, p0, vs, (a : Int), v, rfl, rfl, SqL.of hp03, atI_nat gv, pf, _, _, rfl, rfl, upd_same, smallL (by omega), ?_⟩⟩
    rw [upd_upd]
    have y := (x2.trans x3).upd (o := .lst (vs ++ [v])) P0 hpf0
    have yp : (upd H2 pf (.lst (vs ++ [v]))) p0 = some (.lst vs) := by rw [upd_ne npp.symm]; exact hp02
    refine ⟨fun σ H' => ∃ (wm : List V) (rm : List Rw), σ = [some (.ref l), some (.ref p0), some (.int kd), some (.int a), some (.ref pf), none, none] ∧ Ext l c H H' ∧ H' p0 = some (.lst vs) ∧ H' pf = some (.lst (vs ++ v :: wm)) ∧ DtAll K H' (vs ++ v :: wm) ((rs ++ rs[a] :: rm).map Rw.d) ∧
      (∀ r ∈ rm, r.wrong = none ∧ r.small) ∧ rm.length ≤ 1, ?_, ?_⟩
    · have dd : ∀ {H' : Hp}, Ext l c H H' → DtAll K H' (vs ++ [v]) ((rs ++ [rs[a]]).map Rw.d) := fun x => by
        rw [List.map_append]
        exact DtAll.append (dt0.ext P0 x) (.cons (dv.ext P0 x) .nil)
      refine vTake rfl y.pool (by decide) (by decide) fun j H5 j0 j2 x5 => ⟨rfl, _, rfl, ite2 (fun e => ?_) (fun e => ?_)⟩
      · have y5 := y.trans x5
        have h5 := x5.keep _ _ npf upd_same
        have h5p := x5.keep _ _ np0 yp
        refine ⟨_, rfl, .inl ⟨rfl, _, SqL.of h5⟩, ⟨Nat.zero_le _, fun tn htn => ⟨small (by show 4 ≤ _; decide), fun tt htt => ?_⟩⟩⟩
        have y6 := (y5.new (o := .tup []) P0 htn).new (o := .tup [.str "end0", .int 0, .str "value", .ref tn]) P0 htt
        have h6 : (upd (upd H5 tn (.tup [])) tt (.tup [.str "end0", .int 0, .str "value", .ref tn])) pf = some (.lst (vs ++ [v])) := by
          have : (upd H5 tn (.tup [])) pf = some (.lst (vs ++ [v])) := by rw [upd_ne (ne_of_none h5 htn)]; exact h5
          rw [upd_ne (ne_of_none this htt)]; exact this
        have h6p : (upd (upd H5 tn (.tup [])) tt (.tup [.str "end0", .int 0, .str "value", .ref tn])) p0 = some (.lst vs) := by
          have : (upd H5 tn (.tup [])) p0 = some (.lst vs) := by rw [upd_ne (ne_of_none h5p htn)]; exact h5p
          rw [upd_ne (ne_of_none this htt)]; exact this
        refine ⟨pf, _, _, rfl, rfl, h6, smallL (by rw [List.length_append]; show vs.length + 1 < _; omega), ?_⟩
        have dr := row_dt (K := K) (r := ⟨"end0", 0, "value", []⟩) (SqT.of (upd_same (H := upd H5 tn (.tup [])) (a := tt))) (Same.seqT (same_new htt) (SqT.of upd_same))
        refine ⟨[.ref tt], [⟨"end0", 0, "value", []⟩], rfl, y6.upd P0 hpf0, ?_, ?_, ?_, fun r hr => ?_, Nat.le_refl 1⟩
        · rw [upd_ne npp.symm]; exact h6p
        · rw [upd_same, List.append_assoc]; rfl
        · have := DtAll.mono (K := K) (fun _ _ z => seqT_upd (ws := vs ++ [v] ++ [.ref tt]) z h6) _ _ (DtAll.append (dd y6) (.cons dr .nil))
          rw [show rs ++ rs[a] :: [⟨"end0", 0, "value", []⟩] = (rs ++ [rs[a]]) ++ [⟨"end0", 0, "value", []⟩] by rw [List.append_assoc]; rfl, List.map_append]
          show DtAll K _ (vs ++ ([v] ++ [V.ref tt])) _
          rw [← List.append_assoc]
          exact this
        · rw [List.mem_singleton.mp hr]
          exact ⟨good_of (by decide +kernel) (by decide +kernel) ⟨⟨by decide, by decide⟩, by decide +kernel, by decide +kernel⟩, ⟨by decide +kernel, by decide +kernel⟩⟩
      · exact ⟨[], [], rfl, y.trans x5, x5.keep _ _ np0 yp, x5.keep _ _ npf upd_same, dd (y.trans x5), fun _ h => (nomatch h), Nat.zero_le _⟩
    · rintro σ' H' ⟨wm, rm, rfl, z, hz0, hzf, dz, ok, lr⟩
      refine ⟨_, rfl, ⟨_, rfl, p0, vs, rfl, .inl (SqL.of hz0), small (by show 3 ≤ _; decide), fun t1 ht1 => ⟨small (by show 2 ≤ _; decide), fun t2 ht2 => ?_⟩⟩⟩
      refine fin (rows2 := rs ++ rs[a] :: rm) (e := .con rs.length "double") (z.new P0 ht1) (by rw [upd_ne (ne_of_none hzf ht1)]; exact hzf) (dz.same (same_new ht1)) (fun r hr => ?_) ?_ (chk_double g0 rok.1 (fun r hr => (ok r hr).1) (List.mem_map_of_mem (List.getElem_mem ha)) (by omega)) ?_ ht2
      · rcases List.mem_append.mp hr with h | h
        · exact (g0.ok r h).2.1
        · rcases List.mem_cons.mp h with h | h
          · rw [h]; exact rok.2.1
          · exact (ok r h).2
      · rw [List.length_append, List.length_cons]; omega
      · rw [lv]
        exact .tup (SqT.of upd_same) (.cons (.bl true) (.cons (.int _) (.cons (.str _) .nil)))
  -- a spoilt row
  have P5 := x4.pool
  refine ⟨_, rfl, ⟨_, rfl, _, rfl, p0, vs, (a : Int), v, rfl, rfl, SqL.of hp03, atI_nat gv, l, c, v, rs[a], rfl, P5, dv.ext P0 x4, rok.1, rok.2.1, rok.2.2, fun H5 tv r' why x5 dtv wr' sm' => ?_⟩⟩
  obtain ⟨ta, x, y, rfl, hta, dx, dy⟩ := Dt.t2 dtv
  obtain rfl := dy.s
  have y5 := x4.trans x5
  have h5 := x5.keep _ _ npf upd_same
  have h5p := x5.keep _ _ np0 hp03
  have lset : (vs.set a x).length = rs.length := by rw [List.length_set, lv]
  refine ⟨_, rfl, ta, _, 0, _, rfl, rfl, hta, atI_nat (j := 0) rfl, _, rfl, _, rfl, pf, vs, (a : Int), a, rfl, rfl, h5, ?_, ?_⟩
  · rw [ixN_of a0 a1]; rfl
  have y6 := y5.upd (o := .lst (vs.set a x)) P0 hpf0
  have h6p : (upd H5 pf (.lst (vs.set a x))) p0 = some (.lst vs) := by rw [upd_ne npp.symm]; exact h5p
  have d6 : DtAll K (upd H5 pf (.lst (vs.set a x))) (vs.set a x) ((rs.set a r').map Rw.d) := by
    rw [List.map_set]
    exact DtAll.mono (fun _ _ z => seqT_upd z h5) _ _ ((dt0.ext P0 y5).setN a dx)
  -- one more behind the others
  have push : ∀ {H' : Hp} {wm : List V} {rm : List Rw} {u : V} {ru : Rw}, Ext l c H H' → H' p0 = some (.lst vs) → SqT K H' ta [x, .str why] → H' pf = some (.lst (vs.set a x ++ wm)) → DtAll K H' (vs.set a x ++ wm) ((rs.set a r' ++ rm).map Rw.d) → Dt K H' u ru.d →
      Ext l c H (upd H' pf (.lst (vs.set a x ++ wm ++ [u]))) ∧ (upd H' pf (.lst (vs.set a x ++ wm ++ [u]))) p0 = some (.lst vs) ∧ SqT K (upd H' pf (.lst (vs.set a x ++ wm ++ [u]))) ta [x, .str why] ∧ (upd H' pf (.lst (vs.set a x ++ wm ++ [u]))) pf = some (.lst (vs.set a x ++ (wm ++ [u]))) ∧
        DtAll K (upd H' pf (.lst (vs.set a x ++ wm ++ [u]))) (vs.set a x ++ (wm ++ [u])) ((rs.set a r' ++ (rm ++ [ru])).map Rw.d) := fun {H' wm rm u ru} z h1 h2 h3 d du => by
    refine ⟨z.upd P0 hpf0, by rw [upd_ne npp.symm]; exact h1, seqT_upd h2 h3, by rw [upd_same, List.append_assoc], ?_⟩
    rw [← List.append_assoc, ← List.append_assoc, List.map_append]
    exact DtAll.mono (fun _ _ w => seqT_upd w h3) _ _ (DtAll.append d (.cons du .nil))
  refine ⟨fun σ H' => ∃ (wm : List V) (rm : List Rw), σ = [some (.ref l), some (.ref p0), some (.int kd), some (.int a), some (.ref pf), none, some (.ref ta)] ∧ Ext l c H H' ∧ H' p0 = some (.lst vs) ∧ SqT K H' ta [x, .str why] ∧ H' pf = some (.lst (vs.set a x ++ wm)) ∧ DtAll K H' (vs.set a x ++ wm) ((rs.set a r' ++ rm).map Rw.d) ∧ (∀ r ∈ rm, r.small) ∧ rm.length ≤ 1, ?_, ?_⟩
  · refine ⟨_, rfl, rfl, _, rfl, ite2 (fun e => ?_) (fun e => ⟨[], [], rfl, y6, h6p, seqT_upd hta h5, by rw [upd_same, List.append_nil], by rw [List.append_nil, List.append_nil]; exact d6, fun _ h => (nomatch h), Nat.zero_le _⟩)⟩
    refine ⟨_, rfl, .inl ⟨rfl, _, SqL.of upd_same⟩, ⟨_, rfl, ⟨_, rfl, _, rfl, p0, vs, (a : Int), v, rfl, rfl, SqL.of h6p, atI_nat gv, l, c, v, rs[a], rfl, y6.pool, dv.ext P0 y6, rok.1, rok.2.1, rok.2.2, fun H7 tv r2 why2 x7 dtv2 wr2 sm2 => ?_⟩⟩⟩
    obtain ⟨tb, x2', y2', rfl, htb, dx2, dy2⟩ := Dt.t2 dtv2
    have h7 := x7.keep _ _ npf upd_same
    have h7p := x7.keep _ _ np0 h6p
    refine ⟨tb, _, 0, _, rfl, rfl, htb, atI_nat (j := 0) rfl, pf, _, _, rfl, rfl, h7, smallL (by rw [lset]; omega), ?_⟩
    have z := push (wm := []) (rm := []) (u := x2') (ru := r2) (y6.trans x7) h7p (x7.seqT y6.pool (seqT_upd hta h5)) (by rw [List.append_nil]; exact h7) (by rw [List.append_nil, List.append_nil]; exact d6.ext y6.pool x7) dx2
    rw [List.append_nil] at z
    exact ⟨_, [r2], rfl, z.1, z.2.1, z.2.2.1, z.2.2.2.1, z.2.2.2.2, fun r hr => by rw [List.mem_singleton.mp hr]; exact sm2, Nat.le_refl 1⟩
  rintro σ' H7 ⟨wm, rm, rfl, z1, hz0, hzt, hzf, dz, ok, lr⟩
  refine ⟨fun σ H' => ∃ (wm : List V) (rm : List Rw), σ = [some (.ref l), some (.ref p0), some (.int kd), some (.int a), some (.ref pf), none, some (.ref ta)] ∧ Ext l c H H' ∧ H' p0 = some (.lst vs) ∧ SqT K H' ta [x, .str why] ∧ H' pf = some (.lst (vs.set a x ++ wm)) ∧ DtAll K H' (vs.set a x ++ wm) ((rs.set a r' ++ rm).map Rw.d) ∧ (∀ r ∈ rm, r.small) ∧ rm.length ≤ 2, ?_, ?_⟩
  · refine ⟨_, rfl, rfl, _, rfl, ite2 (fun e => ?_) (fun e => ⟨wm, rm, rfl, z1, hz0, hzt, hzf, dz, ok, by omega⟩)⟩
    have gl : rs[rs.length - 1]? = some rs[rs.length - 1] := List.getElem?_eq_getElem (by omega)
    obtain ⟨u, gu, du⟩ := DtAll.getD (i := rs.length - 1) (d := rs[rs.length - 1].d) (dt0.ext P0 z1) (by rw [List.getElem?_map, gl]; rfl)
    have lw : wm.length ≤ 1 := by
      have := DtAll.length2 dz
      rw [List.length_map, List.length_append, List.length_append, lset, List.length_set] at this
      omega
    refine ⟨_, rfl, .inl ⟨rfl, _, SqL.of hzf⟩, ⟨_, rfl, ⟨_, rfl, p0, vs, rfl, .inl (SqL.of hz0), _, _, rfl, rfl, p0, vs, _, u, rfl, rfl, SqL.of hz0, ?_, pf, _, _, rfl, rfl, hzf, smallL (by rw [List.length_append, lset]; omega), ?_⟩⟩⟩
    · rw [show ((vs.length : Nat) : Int) - 1 = ((rs.length - 1 : Nat) : Int) by omega]
      exact atI_nat gu
    have z := push (u := u) (ru := rs[rs.length - 1]) z1 hz0 hzt hzf dz du
    refine ⟨_, rm ++ [rs[rs.length - 1]], rfl, z.1, z.2.1, z.2.2.1, z.2.2.2.1, z.2.2.2.2, fun r hr => ?_, by rw [List.length_append]; show rm.length + 1 ≤ 2; omega⟩
    rcases List.mem_append.mp hr with h | h
    · exact ok r h
    · rw [List.mem_singleton.mp h]
      exact (g0.ok _ (List.getElem_mem _)).2.1
  clear dz hzf hz0 hzt ok lr
  rintro σ' H8 ⟨wm, rm, rfl, z1, hz0, hzt, hzf, dz, ok, lr⟩
  refine ⟨_, rfl, ⟨_, rfl, ⟨_, rfl, ta, _, 1, _, rfl, rfl, hzt, atI_nat (j := 1) rfl, small (by show 3 ≤ _; decide), fun t1 ht1 => ⟨small (by show 2 ≤ _; decide), fun t2 ht2 => ?_⟩⟩⟩⟩
  have es : rs.set a r' ++ rm = rs.take a ++ r' :: (rs.drop (a + 1) ++ rm) := by rw [List.set_eq_take_append_cons_drop, if_pos ha, List.append_assoc]; rfl
  have la : (rs.take a).length = a := by rw [List.length_take]; omega
  have ck : chk (rs.set a r' ++ rm) = some (.con a why) := by
    rw [es, chk_spoilt (fun r hr => (g0.ok r (List.mem_of_mem_take hr)).1) wr' (by rw [la, List.length_append, List.length_drop]; omega), la]
  refine fin (rows2 := rs.set a r' ++ rm) (e := .con a why) (z1.new P0 ht1) (by rw [upd_ne (ne_of_none hzf ht1)]; exact hzf) (dz.same (same_new ht1)) (fun r hr => ?_) (by rw [List.length_append, List.length_set]; omega) ck (.tup (SqT.of upd_same) (.cons (.bl true) (.cons (.int _) (.cons (.str _) .nil)))) ht2
  rcases List.mem_append.mp hr with h | h
  · rcases List.mem_or_eq_of_mem_set h with h | h
    · exact (g0.ok r h).2.1
    · rw [h]; exact sm'
  · exact ok r h
end
end PK
namespace PK
open PySem L2
def rListOf (K : PySem.W.Frag) : List V → Hp → VK → Prop := fun xs H Q => ∃ p ys, xs = [.ref p] ∧ (SqL K H p ys ∨ SqT K H p ys) ∧ ∀ l, H l = none → Q (.ref l) (upd H l (.lst ys))
/-! the rows with their places in lists -/
def Rw.dl (r : Rw) : PyData := .tuple [.str r.name, .int r.many, .str r.kind, .list (r.strict.map PyData.int)]
def HRow (K : PySem.W.Frag) (H : Hp) (l D : Addr) (v : V) (r : Rw) : Prop := ∃ t p, v = .ref t ∧ SqT K H t [.str r.name, .int r.many, .str r.kind, .ref p] ∧ H p = some (.lst (r.strict.map V.int)) ∧ p ≠ D ∧ p ≠ l
inductive HAll (K : PySem.W.Frag) (H : Hp) (l D : Addr) : List V → List Rw → Prop
  | nil : HAll K H l D [] []
  | cons {v : V} {vs : List V} {r : Rw} {rs : List Rw} : HRow K H l D v r → HAll K H l D vs rs → HAll K H l D (v :: vs) (r :: rs)
section
variable {K : PySem.W.Frag} {H H' : Hp} {l D : Addr}
theorem HRow.mono {v : V} {r : Rw} (h : HRow K H l D v r) (hT : ∀ a xs, SqT K H a xs → SqT K H' a xs) (hL : ∀ p o, p ≠ D → p ≠ l → H p = some o → H' p = some o) : HRow K H' l D v r := by
  obtain ⟨t, p, rfl, h1, h2, h3⟩ := h
  exact ⟨t, p, rfl, hT _ _ h1, hL _ _ h3.1 h3.2 h2, h3⟩
theorem HAll.mono (hT : ∀ a xs, SqT K H a xs → SqT K H' a xs) (hL : ∀ p o, p ≠ D → p ≠ l → H p = some o → H' p = some o) : ∀ {vs : List V} {rs : List Rw}, HAll K H l D vs rs → HAll K H' l D vs rs
  | _, _, .nil => .nil
  | _, _, .cons h t => .cons (h.mono hT hL) (HAll.mono hT hL t)
theorem HAll.snoc : ∀ {vs : List V} {rs : List Rw} {v : V} {r : Rw}, HAll K H l D vs rs → HRow K H l D v r → HAll K H l D (vs ++ [v]) (rs ++ [r])
  | _, _, _, _, .nil, h => .cons h .nil
  | _, _, _, _, .cons h0 t, h => .cons h0 (HAll.snoc t h)
theorem HAll.len : ∀ {vs : List V} {rs : List Rw}, HAll K H l D vs rs → vs.length = rs.length
  | _, _, .nil => rfl
  | _, _, .cons _ t => by rw [List.length_cons, List.length_cons, HAll.len t]
theorem HAll.rows : ∀ {vs : List V} {rs : List Rw}, HAll K H l D vs rs → Rows K H vs rs := fun {vs rs} h => by
  refine ⟨h.len, ?_⟩
  induction h with
  | nil => intro i v r e; simp at e
  | cons h t ih =>
    intro i v r hv hr
    cases i with
    | zero =>
      simp at hv hr
      subst hv hr
      obtain ⟨t, p, rfl, h1, h2, _⟩ := h
      exact ⟨t, p, rfl, h1, .inl (SqL.of h2)⟩
    | succ i => exact ih i v r (by simpa using hv) (by simpa using hr)
theorem ints_dp : ∀ ns : List Int, DpAll K H (ns.map V.int) (ns.map PyData.int)
  | [] => .nil
  | n :: r => .cons (.int n) (ints_dp r)
theorem HAll.dp : ∀ {vs : List V} {rs : List Rw}, HAll K H l D vs rs → DpAll K H vs (rs.map Rw.dl)
  | _, _, .nil => .nil
  | _, _, .cons h t => by
    obtain ⟨t', p, rfl, h1, h2, _⟩ := h
    exact .cons (.tup h1 (.cons (.str _) (.cons (.int _) (.cons (.str _) (.cons (.lst (SqL.of h2) (ints_dp _)) .nil))))) (HAll.dp t)
end
theorem handed_lc {K : PySem.W.Frag} {a0 a1 a3 a4 a5 a6 : Option V} {H : Hp} {Q : VK} {l R : Addr} {ws : List V} {rows : List Rw} (hl : ∃ o, H l = some o) (hR : H R = some (.lst ws)) (dt : DtAll K H ws (rows.map Rw.d)) (hn : rows.length ≤ 100)
    (q : ∀ (D : Addr) (H' : Hp) (vs : List V), Same H H' → H D = none → H' D = some (.lst vs) → HAll K H' l D vs rows → Q (.ref D) H') :
    tLc (iList K (tVar 2)) (gName 6) tYes (tTup (tCons (tOp (rIxT K) (tVar 6) (tC (.int 0))) (tCons (tOp (rIxT K) (tVar 6) (tC (.int 1))) (tCons (tOp (rIxT K) (tVar 6) (tC (.int 2))) (tCons (tCB (rListOf K) (tCons (tOp (rIxT K) (tVar 6) (tC (.int 3))) tNil)) tNil)))))
      [6] [a0, a1, some (.ref R), a3, a4, a5, a6] H Q := by
  have lw : ws.length = rows.length := by rw [DtAll.length2 dt, List.length_map]
  refine ⟨_, rfl, R, rfl, ⟨_, SqL.of hR⟩, fun D hD => lc_list (xs := ws) (fun i H' => ∃ vs : List V, i ≤ rows.length ∧ Same H H' ∧ H' D = some (.lst vs) ∧ HAll K H' l D vs (rows.take i)) ?_ (fun i H' _ h => ?_) ?_ ?_⟩
  · exact ⟨[], Nat.zero_le _, same_new hD, upd_same, .nil⟩
  · obtain ⟨_, _, s, _⟩ := h
    exact SqL.of (s _ _ hR)
  · rintro i x H' gx ⟨vs, _, sm, hDv, ha⟩
    have hi : i < rows.length := by
      have := (List.getElem?_eq_some_iff.mp gx).1
      omega
    have gr : rows[i]? = some rows[i] := List.getElem?_eq_getElem hi
    obtain ⟨y, gy, dy⟩ := DtAll.getD (i := i) (d := rows[i].d) dt (by rw [List.getElem?_map, gr]; rfl)
    rw [gx] at gy
    cases gy
    obtain ⟨a, p, rfl, hs, hp⟩ := row_of dy
    have hs' := Same.seqT sm hs
    have hp' := Same.seqT sm hp
    refine ⟨rfl, yes_ ⟨_, rfl, a, _, 0, _, rfl, rfl, hs', atI_nat (j := 0) rfl, _, rfl, a, _, 1, _, rfl, rfl, hs', atI_nat (j := 1) rfl, _, rfl, a, _, 2, _, rfl, rfl, hs', atI_nat (j := 2) rfl, ⟨_, rfl, a, _, 3, _, rfl, rfl, hs', atI_nat (j := 3) rfl, p, _, rfl, .inr hp', fun q1 hq1 =>
      ⟨small (by show 4 ≤ _; decide), fun tt htt => ?_⟩⟩⟩⟩
    have e1 : (upd H' q1 (.lst (rows[i].strict.map V.int))) D = some (.lst vs) := by rw [upd_ne (ne_of_none hDv hq1)]; exact hDv
    have e2 : (upd (upd H' q1 (.lst (rows[i].strict.map V.int))) tt (.tup [.str rows[i].name, .int rows[i].many, .str rows[i].kind, .ref q1])) D = some (.lst vs) := by rw [upd_ne (ne_of_none e1 htt)]; exact e1
    have s2 : Same H' (upd (upd H' q1 (.lst (rows[i].strict.map V.int))) tt (.tup [.str rows[i].name, .int rows[i].many, .str rows[i].kind, .ref q1])) := Same.upd (same_new hq1) ((same_new hq1).free htt)
    have nq : q1 ≠ D := fun z => by rw [z, hDv] at hq1; cases hq1
    have nl : q1 ≠ l := fun z => by
      obtain ⟨o, ho⟩ := hl
      rw [z, sm _ _ ho] at hq1
      cases hq1
    have row : HRow K (upd (upd H' q1 (.lst (rows[i].strict.map V.int))) tt (.tup [.str rows[i].name, .int rows[i].many, .str rows[i].kind, .ref q1])) l D (.ref tt) rows[i] := by
      refine ⟨tt, q1, rfl, SqT.of upd_same, ?_, nq, nl⟩
      rw [upd_ne (ne_of_none upd_same htt)]
      exact upd_same
    refine ⟨vs, e2, smallL (by rw [ha.len, List.length_take]; omega), vs ++ [.ref tt], hi, fun b o e => ?_, upd_same, ?_⟩
    · rw [upd_ne (ne_of_none e hD)]
      exact s2 _ _ (sm _ _ e)
    · rw [List.take_add_one, gr]
      exact HAll.mono (fun _ _ z => seqT_upd z e2) (fun p o np _ e => by rw [upd_ne np]; exact e) (HAll.snoc (HAll.mono (fun _ _ z => Same.seqT s2 z) (fun p o _ _ e => s2 _ _ e) ha) row)
  · rintro H' ⟨vs, _, sm, hDv, ha⟩
    rw [lw, List.take_length] at ha
    exact q D H' vs sm hD hDv ha
abbrev nm40 (i : Nat) : Str := ("c" : Str) ++ (toString (i : Int) : Str)
theorem nm40_ok : ∀ i, i < 40 → isWd (nm40 i) = true ∧ nm40 i ∉ BARRED := by decide +kernel
theorem nm40_nd : ((List.range 40).map nm40).Nodup := by decide +kernel
theorem nm40_len : ∀ i : Nat, i < 40 → ((toString (i : Int) : String) : Str).length ≤ 2 := by decide +kernel
def pl40 (n : Nat) : List Int := (List.range n).map fun i => (0 : Int) + (i : Nat)
theorem pl40_ok : ∀ n : Nat, n < 7 → okPl n (pl40 n) = true := by decide +kernel
end PK
namespace PK
open PySem L2
theorem seq_asg {te : TE} {g : TG} {u : TS} {D : Ends} {σ : L2.St} {H : Hp} (h : te σ H fun x H1 => g x σ H1 (u D)) : tSeq (tAsg te g) u D σ H := h
def spLaw (K : PySem.W.Frag) : Sp := fun vs H Q _ => ∃ (a : Addr) (ns : List Int), vs = [.ref a] ∧ SqL K H a (ns.map V.int) ∧ ns.length ≤ 63 ∧ ∀ H', Q (.bl true) H'
section
variable {P : Program} {w : World} {K : PySem.W.Frag} {mg : Str → Option Value} {base : Heap} {CP CL CC : Addr}
abbrev s_law : Stmt := topS 27
theorem sc_law : FnScope ["script", "pool", "rows", "k", "handed", "changed", "row"] ["script"] (defScope s_law) := ⟨rfl, rfl, rfl, by decide +kernel, rfl, by decide +kernel, by decide +kernel⟩
-- slots: 0:script 1:pool 2:rows 3:k 4:handed 5:changed 6:row(comp)
theorem ok_law {f : Addr} {fd : FuncData} (F : Fun K "law" "law" s_law f fd) (T : Txt K mg) (C_law_pool : C8.Cal P w K mg base 1 "_law_pool" (spPool K) []) (C_law_take : C8.Cal P w K mg base 2 "_law_take" (spTake 2) []) (C_law_allowed : C8.Cal P w K mg base 4 "_law_allowed" (spAllowed K) [])
    (C_law_changed : C8.Cal P w K mg base 5 "_law_changed" (spChanged K) []) (C_law_asked : C8.Cal P w K mg base 5 "_law_asked" (spAsked K) []) (C_law_same : C8.Cal P w K mg base 8 "_law_same" (spSame K 8) [])
    (C_check_constructors : CalR P w K mg base 4 "check_constructors" (spCheck K CL CC)) : FnOk P w K mg base CX0 9 f fd ["script"] (spLaw K) := by
  refine F.ok sc_law (fun vs H Q E h => ?_) (fun cdv A outer s H vs Q E hr h => ?_)
  · obtain ⟨_, _, rfl, _⟩ := h
    rfl
  obtain ⟨sa, ns, rfl, hS, hlen, q⟩ := h
  refine ⟨_, (pss_cons (ps_set (i := 1) sc_law.nd rfl (Or.inl rfl) (C8.pe_c C_law_pool hr (by decide) rfl (pa_cons (pv 0) pa_nil)))
    (pss_cons (ps_set (i := 2) sc_law.nd rfl (Or.inl rfl) (C8.pe_c C_law_allowed hr (by decide) rfl (pa_cons (pv 1) (pa_cons (pe_op op_add pe_int (C8.pe_c C_law_take hr (by decide) rfl (pa_cons (pv 1) (pa_cons pe_int pa_nil)))) pa_nil))))
    (C8.pss_cut (ps_if (pt_cmpR op_eq (C8.pe_c C_law_take hr (by decide) rfl (pa_cons (pv 1) (pa_cons pe_int pa_nil))) pe_int (nomark _)) (pss_one (ps_setLc (i := 2) (own := [("k", 3)]) (g := (gName 3)) (tt := tYes) (by rfl) sc_law.nd rfl rfl (sw_true rfl rfl rfl (by decide +kernel)) (pi_range1 (by rfl) T.z_range (pa_cons pe_int pa_nil)) (blkOk_by (N := ["script", "pool", "rows", "k", "handed", "changed", "row"]) (sc := defScope s_law) (by decide +kernel)) (fun _ _ _ _ _ => (pg_name (i := 3) sc_law.nd rfl (Or.inl rfl))) (fun _ _ _ _ _ => pts_nil) (fun _ _ _ _ _ => (pe_tup (pa_cons (pe_op op_add_str pe_str (pe_callTy call_str_int (by rfl) T.z_str (by decide +kernel) (pa_cons (pv 3) pa_nil))) (pa_cons (pe_op op_mod (pe_callTy call_int1 (by rfl) T.z_int (by decide +kernel) (pa_cons (pv 3) pa_nil)) pe_int) (pa_cons (pe_ix (r := rIxT K) ix_tup (pe_tup (pa_cons pe_str (pa_cons pe_str pa_nil))) (pe_op op_mod (pe_callTy call_int1 (by rfl) T.z_int (by decide +kernel) (pa_cons (pv 3) pa_nil)) pe_int) (fun _ _ => rfl)) (pa_cons (pe_tupRg (by rfl) (by rfl) T.z_tuple (prg_1 (by rfl) T.z_range (pe_op op_mod (pe_callTy call_int1 (by rfl) T.z_int (by decide +kernel) (pa_cons (pv 3) pa_nil)) pe_int))) pa_nil)))))))) pss_nil)
    (pss_cons (ps_setLc (i := 4) (own := [("row", 6)]) (g := (gName 6)) (tt := tYes) (by rfl) sc_law.nd rfl rfl (sw_true rfl rfl rfl (by decide +kernel)) (pi_list (pv 2)) (blkOk_by (N := ["script", "pool", "rows", "k", "handed", "changed", "row"]) (sc := defScope s_law) (by decide +kernel)) (fun _ _ _ _ _ => (pg_name (i := 6) sc_law.nd rfl (Or.inl rfl))) (fun _ _ _ _ _ => pts_nil) (fun _ _ _ _ _ => (pe_tup (pa_cons (pe_ix (r := rIxT K) ix_tup (pv 6) pe_int (fun _ _ => rfl)) (pa_cons (pe_ix (r := rIxT K) ix_tup (pv 6) pe_int (fun _ _ => rfl)) (pa_cons (pe_ix (r := rIxT K) ix_tup (pv 6) pe_int (fun _ _ => rfl)) (pa_cons (pe_callTy (r := rListOf K) call_list_of (by rfl) T.z_list (by decide +kernel) (pa_cons (pe_ix (r := rIxT K) ix_tup (pv 6) pe_int (fun _ _ => rfl)) pa_nil)) pa_nil)))))))
    (pss_cons (ps_if (pt_cmpR op_notN (pe_cr C_check_constructors hr (by decide) rfl (pa_cons (pv 4) pa_nil)) pe_non (nomark _)) (pss_one (ps_ret pe_bl)) pss_nil)
    (pss_cons (ps_for PassesOwn.never rfl (pi_range1 (by rfl) T.z_range (pa_cons pe_int pa_nil)) (pg_name (i := 3) sc_law.nd rfl (Or.inl rfl)) (pss_cons (ps_set (i := 5) sc_law.nd rfl (Or.inl rfl) (C8.pe_c C_law_changed hr (by decide) rfl (pa_cons (pv 1) (pa_cons (pv 2) pa_nil))))
    (pss_one (ps_if (pt_not (pt_val (C8.pe_c C_law_same hr (by decide) rfl (pa_cons (C8.pe_c C_law_asked hr (by decide) rfl (pa_cons (pe_ix ix_tup (pv 5) pe_int (fun _ _ => rfl)) pa_nil)) (pa_cons (pe_ix ix_tup (pv 5) pe_int (fun _ _ => rfl)) pa_nil))))) (pss_one (ps_ret pe_bl)) pss_nil))))
    (pss_cons (ps_if (pt_not (pt_val (C8.pe_c C_law_same hr (by decide) rfl (pa_cons (pv 4) (pa_cons (pe_lc (own := [("row", 6)]) (g := (gName 6)) (tt := tYes) (by rfl) sc_law.nd (pi_list (pv 2)) (blkOk_by (N := ["script", "pool", "rows", "k", "handed", "changed", "row"]) (sc := defScope s_law) (by decide +kernel)) (fun _ _ _ _ _ => (pg_name (i := 6) sc_law.nd rfl (Or.inl rfl))) (fun _ _ _ _ _ => pts_nil) (fun _ _ _ _ _ => (pe_tup (pa_cons (pe_ix (r := rIxT K) ix_tup (pv 6) pe_int (fun _ _ => rfl)) (pa_cons (pe_ix (r := rIxT K) ix_tup (pv 6) pe_int (fun _ _ => rfl)) (pa_cons (pe_ix (r := rIxT K) ix_tup (pv 6) pe_int (fun _ _ => rfl)) (pa_cons (pe_callTy (r := rListOf K) call_list_of (by rfl) T.z_list (by decide +kernel) (pa_cons (pe_ix (r := rIxT K) ix_tup (pv 6) pe_int (fun _ _ => rfl)) pa_nil)) pa_nil))))))) pa_nil))))) (pss_one (ps_ret pe_bl)) pss_nil)
    (pss_one (ps_ret (pe_cmpR op_isN (pe_cr C_check_constructors hr (by decide) rfl (pa_cons (pe_callTy call_tuple_of (by rfl) T.z_tuple (by decide +kernel) (pa_cons (pv 2) pa_nil)) pa_nil)) pe_non (nomark _))))))))))), ?_⟩
  refine ⟨_, rfl, sa, ns, rfl, hS, hlen, fun H0 l c s0 hl0 P0 => ?_⟩
  refine ⟨_, rfl, vTake rfl P0 (by decide) (by decide) fun j H1 j0 j6 x1 => ?_⟩
  obtain ⟨j, rfl⟩ : ∃ k : Nat, j = k := ⟨j.toNat, by omega⟩
  refine ⟨_, _, rfl, rfl, l, c, 1 + j, ?_, x1.pool, by omega, fun H2 R ws rows x2 hR0 hR dt len g => ?_⟩
  · show [V.ref l, V.int (1 + (j : Int))] = [V.ref l, V.int ((1 + j : Nat) : Int)]
    rw [Int.natCast_add]; rfl
  have x2' := x1.trans x2
  refine ⟨fun σ H' => ∃ (R : Addr) (ws : List V) (rows : List Rw), σ = [some (.ref sa), some (.ref l), some (.ref R), none, none, none, none] ∧ Ext l c H0 H' ∧ R ≠ l ∧ H' R = some (.lst ws) ∧ DtAll K H' ws (rows.map Rw.d) ∧ Goods rows ∧ 1 ≤ rows.length ∧ rows.length ≤ 40, ?_, ?_⟩
  · refine vTake rfl x2'.pool (by decide) (by decide) fun d H3 d0 d6 x3 => ⟨rfl, _, rfl, ite2 (fun e => ?_) (fun e => ?_)⟩
    · have x4 := x2'.trans x3
      refine ⟨40, rfl, by decide, by decide, fun D hD => lc_range (lo := 0) (n := 40) (fun i H' => ∃ (vs : List V) (rs : List Rw), i ≤ 40 ∧ Ext l c H0 H' ∧ H' D = some (.lst vs) ∧ DtAll K H' vs (rs.map Rw.d) ∧ rs.map Rw.name = (List.range i).map nm40 ∧ ∀ r ∈ rs, Fair r) ?_ ?_ ?_⟩
      · exact ⟨[], [], Nat.zero_le _, x4.new P0 hD, upd_same, .nil, rfl, fun _ h => nomatch h⟩
      · rintro i H' hi ⟨vs, rs, _, x, hDv, dv, en, fr⟩
        have lr : rs.length = i := by rw [← List.length_map (f := Rw.name), en, List.length_map, List.length_range]
        have lv : vs.length = i := by rw [DtAll.length2 dv, List.length_map, lr]
        have n2 := nm40_len i hi
        have lgi : (0 + (i : Int)).natAbs.log2 < 1920 := Nat.lt_of_lt_of_le (PySem.Flt.log2_lt_of (k := 6) (by decide) (by show (0 + (i : Int)).natAbs < 64; omega)) (by decide)
        obtain ⟨n, en7, n7⟩ : ∃ n : Nat, (0 + (i : Int)) % 7 = n ∧ n < 7 := ⟨i % 7, by omega, by omega⟩
        refine ⟨rfl, yes_ ⟨_, rfl, _, rfl, lgi, _, _, rfl, rfl, small (by rw [Int.zero_add]; show 1 + _ ≤ _; omega), ⟨_, rfl, .inl ⟨_, rfl, _, _, rfl, rfl, (by show (0 : Int) < 7; decide), ⟨small (by show 2 ≤ _; decide), fun t ht => ?_⟩⟩⟩⟩⟩
        obtain ⟨kd, hkd, ha⟩ := at_in V.str KINDS (d := (0 + (i : Int)) % 2) (by omega) (by show (0 + (i : Int)) % 2 < 2; omega)
        refine ⟨_, rfl, .inl ⟨_, rfl, _, _, rfl, rfl, (by show (0 : Int) < 2; decide), t, _, _, _, rfl, rfl, SqT.of upd_same, ha, ⟨_, rfl, .inl ⟨_, rfl, _, _, rfl, rfl, (by show (0 : Int) < 7; decide), _, rfl, RgOk.of_le (by decide) (by omega) (by decide) (by omega), fun tp htp => ⟨small (by show 4 ≤ _; decide), fun tt htt => ?_⟩⟩⟩⟩⟩
        have eR : rgV 0 ((0 + (i : Int)) % 7) = (pl40 n).map V.int := by
          rw [en7]
          unfold rgV pl40
          rw [List.map_map, Int.sub_zero, Int.toNat_natCast]
          rfl
        have y1 := ((x.new (o := .tup [.str "value", .str "plain"]) P0 ht).new (o := .tup (rgV 0 ((0 + (i : Int)) % 7))) P0 htp).new (o := .tup [.str (("c" : Str) ++ (toString (0 + (i : Int)) : Str)), .int ((0 + (i : Int)) % 7), .str kd, .ref tp]) P0 htt
        have h1 : (upd H' t (.tup [.str "value", .str "plain"])) D = some (.lst vs) := by rw [upd_ne (ne_of_none hDv ht)]; exact hDv
        have h2 : (upd (upd H' t (.tup [.str "value", .str "plain"])) tp (.tup (rgV 0 ((0 + (i : Int)) % 7)))) D = some (.lst vs) := by rw [upd_ne (ne_of_none h1 htp)]; exact h1
        have h3 : (upd (upd (upd H' t (.tup [.str "value", .str "plain"])) tp (.tup (rgV 0 ((0 + (i : Int)) % 7)))) tt (.tup [.str (("c" : Str) ++ (toString (0 + (i : Int)) : Str)), .int ((0 + (i : Int)) % 7), .str kd, .ref tp])) D = some (.lst vs) := by rw [upd_ne (ne_of_none h2 htt)]; exact h2
        have s1 : Same H' (upd (upd (upd H' t (.tup [.str "value", .str "plain"])) tp (.tup (rgV 0 ((0 + (i : Int)) % 7)))) tt (.tup [.str (("c" : Str) ++ (toString (0 + (i : Int)) : Str)), .int ((0 + (i : Int)) % 7), .str kd, .ref tp])) := (same_new ht).trans ((same_new htp).trans (same_new htt))
        have dr := row_dt (K := K) (r := ⟨("c" : Str) ++ (toString (0 + (i : Int)) : Str), (0 + (i : Int)) % 7, kd, pl40 n⟩) (SqT.of (upd_same (H := upd (upd H' t (.tup [.str "value", .str "plain"])) tp (.tup (rgV 0 ((0 + (i : Int)) % 7)))) (a := tt)))
          (Same.seqT (same_new htt) (SqT.of (by rw [← eR]; exact upd_same)))
        refine ⟨vs, h3, smallL (by omega), vs ++ [.ref tt], rs ++ [⟨("c" : Str) ++ (toString (0 + (i : Int)) : Str), (0 + (i : Int)) % 7, kd, pl40 n⟩], by omega, y1.upd P0 (x4.free P0 hD), upd_same, ?_, ?_, ?_⟩
        · rw [List.map_append]
          exact DtAll.mono (fun _ _ z => seqT_upd z h3) _ _ (DtAll.append (dv.same s1) (.cons dr .nil))
        · rw [List.map_append, en, List.range_succ, List.map_append]
          show _ ++ [("c" : Str) ++ (toString (0 + (i : Int)) : Str)] = _ ++ [nm40 i]
          rw [Int.zero_add]
        · intro r hr
          rcases List.mem_append.mp hr with h | h
          · exact fr r h
          · rw [List.mem_singleton.mp h]
            exact ⟨⟨by show 0 ≤ (0 + (i : Int)) % 7; omega, by show (0 + (i : Int)) % 7 ≤ 6; omega⟩, hkd, by show okPl ((0 + (i : Int)) % 7) (pl40 n) = true; rw [en7]; exact pl40_ok n n7⟩
      · rintro H' ⟨vs, rs, _, x, hDv, dv, en, fr⟩
        have lr : rs.length = 40 := by rw [← List.length_map (f := Rw.name), en, List.length_map, List.length_range]
        refine ⟨D, vs, rs, rfl, x, (x4.pool.ne hD).1, hDv, dv, ⟨by rw [en]; exact nm40_nd, fun r hr => ?_⟩, by omega, by omega⟩
        have hn : r.name ∈ (List.range 40).map nm40 := by rw [← en]; exact List.mem_map_of_mem hr
        obtain ⟨k, hk, ek⟩ := List.mem_map.mp hn
        have hk' := List.mem_range.mp hk
        have ok := nm40_ok k hk'
        have hl := nm40_len k hk'
        have f := fr r hr
        have fl := f.len
        refine ⟨good_of (by rw [← ek]; exact ok.1) (by rw [← ek]; exact ok.2) f, ⟨?_, by omega⟩, f⟩
        rw [← ek, Str.length_append]
        show 1 + _ ≤ 1000
        omega
    · exact ⟨R, ws, rows, rfl, x2'.trans x3, (x1.pool.ne hR0).1, x3.keep _ _ (x1.pool.ne hR0).1 hR, dt.ext x2.pool x3, g, by omega, by omega⟩
  clear x2' g len dt hR hR0 x2 x1
  rintro σ' H3 ⟨R, ws, rows, rfl, x3, nR, hR, dt, g, h1, h40⟩
  have lw : ws.length = rows.length := by rw [DtAll.length2 dt, List.length_map]
  have hl3 : ∃ o, H3 l = some o := by
    obtain ⟨_, _, _, _, h, _⟩ := x3.pool
    exact ⟨_, h⟩
  have sml : ∀ r ∈ rows, r.small := fun r hr => (g.ok r hr).2.1
  refine seq_asg (handed_lc hl3 hR dt (by omega) fun D H4 vs s4 hD hDv ha => ?_)
  have P3 := x3.pool
  have P4 := P3.same s4
  have nD : D ≠ l := (P3.ne hD).1
  have hR4 := s4 _ _ hR
  have dt4 := dt.same s4
  refine ⟨_, rfl, D, vs, rows, rfl, .inl (SqL.of hDv), ha.rows, sml, by omega, ?_⟩
  rw [chk_none g ⟨h1, h40⟩]
  refine fun H5 s5 => ⟨rfl, _, rfl, iteF ?_⟩
  have P5 := P4.same s5
  have hR5 := s5 _ _ hR4
  have hD5 := s5 _ _ hDv
  have dt5 := dt4.same s5
  have ha5 : HAll K H5 l D vs rows := HAll.mono (fun _ _ z => Same.seqT s5 z) (fun p o _ _ e => s5 _ _ e) ha
  refine ⟨2, rfl, by decide, by decide, for_range (n := 2) (fun i σ H' => ∃ b c' : Option V, σ = [some (.ref sa), some (.ref l), some (.ref R), b, some (.ref D), c', none] ∧ Ext l c H5 H') ?_ ?_ ?_⟩
  · exact ⟨none, none, rfl, Ext.refl P5⟩
  · rintro i σ H' hi ⟨b, c', rfl, x⟩
    refine ⟨_, rfl, _, rfl, l, c, R, ws, rows, rfl, x.pool, nR, x.keep _ _ nR hR5, dt5.ext P5 x, g, h1, fun H6 t pf vd ws2 rows2 e x6 ht hpf d2 sm2 l2 ck dv => ?_⟩
    refine ⟨_, rfl, t, _, 0, _, rfl, rfl, ht, atI_nat (j := 0) rfl, pf, ws2, rows2, e, rfl, .inl (SqL.of hpf), rows_of d2, sm2, l2, ck, fun H7 v s7 dv7 => ?_⟩
    refine ⟨_, rfl, t, _, 1, _, rfl, rfl, Same.seqT s7 ht, atI_nat (j := 1) rfl, v, vd, dueD e, rfl, Dt.dp _ _ dv7, Dt.dp _ _ (dv.same s7), ?_, ?_, fun H8 s8 => ⟨_, rfl, iteF ⟨_, _, rfl, (x.trans x6).same (s7.trans s8)⟩⟩⟩
    · cases e with
      | lang r => exact Nat.le_of_ble_eq_true rfl
      | con i r => exact Nat.le_of_ble_eq_true rfl
    · cases e with
      | lang r => exact slim_tup (Nat.le_of_ble_eq_true rfl) (slim_all fun d hd => by
          simp only [List.mem_cons, List.not_mem_nil, or_false] at hd
          rcases hd with rfl | rfl <;> (unfold slim; rfl))
      | con i r => exact slim_tup (Nat.le_of_ble_eq_true rfl) (slim_all fun d hd => by
          simp only [List.mem_cons, List.not_mem_nil, or_false] at hd
          rcases hd with rfl | rfl | rfl <;> (unfold slim; rfl))
  rintro σ' H6 ⟨b, c', rfl, x⟩
  have hR6 := x.keep _ _ nR hR5
  have hD6 := x.keep _ _ nD hD5
  have dt6 := dt5.ext P5 x
  have ha6 : HAll K H6 l D vs rows := HAll.mono (fun _ _ z => x.seqT P5 z) (fun p o _ nl e => x.keep _ _ nl e) ha5
  have hl6 : ∃ o, H6 l = some o := by
    obtain ⟨_, _, _, _, h, _⟩ := x.pool
    exact ⟨_, h⟩
  refine ⟨_, rfl, handed_lc hl6 hR6 dt6 (by omega) fun D2 H7 vs2 s7 hD2 hDv2 ha7 => ?_⟩
  refine ⟨.ref D, .ref D2, .list (rows.map Rw.dl), rfl, .lst (SqL.of (s7 _ _ hD6)) (HAll.dp (HAll.mono (fun _ _ z => Same.seqT s7 z) (fun p o _ _ e => s7 _ _ e) ha6)), .lst (SqL.of hDv2) ha7.dp, ?_, ?_, fun H8 s8 => ⟨_, rfl, iteF ?_⟩⟩
  · have : PyData.depthAll (rows.map Rw.dl) ≤ 4 := depth_all fun d hd => by
      obtain ⟨r, _, rfl⟩ := List.mem_map.mp hd
      have i1 : PyData.depthAll (r.strict.map PyData.int) ≤ 1 := depth_all fun d hd => by
        obtain ⟨n, _, rfl⟩ := List.mem_map.mp hd
        exact Nat.le_of_ble_eq_true rfl
      have i2 : PyData.depthAll [.str r.name, .int r.many, .str r.kind, .list (r.strict.map PyData.int)] ≤ 3 := depth_all fun d hd => by
        simp only [List.mem_cons, List.not_mem_nil, or_false] at hd
        rcases hd with rfl | rfl | rfl | rfl
        · exact Nat.le_of_ble_eq_true rfl
        · exact Nat.le_of_ble_eq_true rfl
        · exact Nat.le_of_ble_eq_true rfl
        · show PyData.depthAll (r.strict.map PyData.int) + 1 ≤ 3
          omega
      show PyData.depthAll [.str r.name, .int r.many, .str r.kind, .list (r.strict.map PyData.int)] + 1 ≤ 4
      omega
    show PyData.depthAll (rows.map Rw.dl) + 1 < 8
    omega
  · refine slim_list (by rw [List.length_map]; omega) (slim_all fun d hd => ?_)
    obtain ⟨r, hr, rfl⟩ := List.mem_map.mp hd
    refine slim_tup (Nat.le_of_ble_eq_true rfl) (slim_all fun d hd => ?_)
    simp only [List.mem_cons, List.not_mem_nil, or_false] at hd
    rcases hd with rfl | rfl | rfl | rfl
    · exact slim_str _
    · unfold slim; rfl
    · exact slim_str _
    · refine slim_list (by rw [List.length_map]; exact (sml r hr).2) (slim_all fun d hd => ?_)
      obtain ⟨n, _, rfl⟩ := List.mem_map.mp hd
      unfold slim; rfl
  have s68 := s7.trans s8
  refine ⟨_, rfl, R, ws, rfl, .inl ⟨SqL.of (s68 _ _ hR6), fun tp htp => ?_⟩⟩
  refine ⟨tp, ws, rows, rfl, .inr (SqT.of upd_same), rows_of ((dt6.same s68).same (same_new htp)), sml, by omega, ?_⟩
  rw [chk_none g ⟨h1, h40⟩]
  exact fun H9 s9 => ⟨rfl, q H9⟩
end
end PK
namespace PK
open PySem L2
section
variable {P : Program} {w : World} {K : PySem.W.Frag} {mg : Str → Option Value} {base : Heap}
theorem none_ok {f : Addr} {fd : FuncData} {ps : List Str} {sp : Sp} {k : Nat} (no : ∀ vs H Q E, ¬ sp vs H Q E) : FnOk P w K mg base CX0 k f fd ps sp :=
  ⟨fun vs H Q E h => absurd h (no vs H Q E), fun A outer s H args us vs Q E _ _ _ _ h => absurd h (no vs H Q E)⟩
theorem cal_mk {x : Str} {f : Addr} {fd : FuncData} {ps : List Str} {sp : Sp} {k : Nat} (G : FnOk P w K mg base CX0 k f fd ps sp) (m : mg x = some (.ref f)) (kp : PySem.W.keepIn K (.ref f) = true) (b : Binds K fd ps []) : C8.Cal P w K mg base k x sp [] :=
  ⟨f, fd, ps, [], G, m, kp, b, .nil⟩
end
theorem kit_t {K : PySem.W.Frag} {D C : Addr} (h1 : PySem.W.isClsIn K C = true) (h2 : PySem.W.typeIn K (.ref C) = some (.type "type")) (h3 : PySem.W.subIn K (.ref D) (.ref C) = some true) : PySem.W.kitOne K (.ref D) (.ref C) = some true := by
  have h1' : (PySem.W.clsIn K C).isSome = true := h1
  unfold PySem.W.kitOne
  split
  · rfl
  · show (if ((PySem.W.clsIn K C).isSome && PySem.W.typeIn K (.ref C) == some (.type "type")) = true then PySem.W.subIn K (.ref D) (.ref C) else none) = some true
    rw [if_pos (by rw [h1', h2] <;> rfl)]
    exact h3
theorem kit_f {K : PySem.W.Frag} {D C : Addr} (ne : D ≠ C) (h1 : PySem.W.isClsIn K C = true) (h2 : PySem.W.typeIn K (.ref C) = some (.type "type")) (h3 : PySem.W.subIn K (.ref D) (.ref C) = some false) : PySem.W.kitOne K (.ref D) (.ref C) = some false := by
  have h1' : (PySem.W.clsIn K C).isSome = true := h1
  unfold PySem.W.kitOne
  split
  · rename_i e
    exact absurd (Value.ref.inj (beq_iff_eq.mp e)) ne
  · show (if ((PySem.W.clsIn K C).isSome && PySem.W.typeIn K (.ref C) == some (.type "type")) = true then PySem.W.subIn K (.ref D) (.ref C) else none) = some false
    rw [if_pos (by rw [h1', h2] <;> rfl)]
    exact h3
theorem all_mk {l : PySem.W.OpenLaw} {w : World} {K : PySem.W.Frag} {h : Heap} {mg : Str → Option Value} {fa f1 f2 f3 f4 f5 f6 f7 f8 f9 f10 f11 f12 f13 f14 f15 : Addr} (X : K.In h) (G : h.Ns mainGlobals mg) (hfa : mg "law" = some (.ref fa))
    {od1 an1 od2 an2 od3 an3 od4 an4 od5 an5 od6 an6 od7 an7 od8 an8 od9 an9 od10 an10 od11 an11 od12 an12 od13 an13 od14 an14 od15 an15 : Option Addr} {sl1 sl2 sl3 sl4 sl5 sl6 sl7 sl8 sl9 sl10 sl11 sl12 sl13 sl14 sl15 : Array (Option Value)} {oc1 kV1 dc1 pm1 cd1 ct1 oc2 kV2 dc2 pm2 cd2 ct2 oc3 kV3 dc3 pm3 cd3 ct3 oc4 kV4 dc4 pm4 cd4 ct4 oc5 kV5 dc5 pm5 cd5 ct5 oc6 kV6 dc6 pm6 cd6 ct6 oc7 kV7 dc7 pm7 cd7 ct7 oc8 kV8 dc8 pm8 cd8 ct8 oc9 kV9 dc9 pm9 cd9 ct9 oc10 kV10 dc10 pm10 cd10 ct10 oc11 kV11 dc11 pm11 cd11 ct11 oc12 kV12 dc12 pm12 cd12 ct12 oc13 kV13 dc13 pm13 cd13 ct13 oc14 kV14 dc14 pm14 cd14 ct14 oc15 kV15 dc15 pm15 cd15 ct15 : Value}
    (a1 : PySem.W.nsIn K mainGlobals "is_word" = some (some (.ref f1))) (l1 : K.lookup f1 = some ⟨oc1, od1, .func (PySem.W.fnOf "is_word" "is_word" (defArgs s_is_word) (defBody s_is_word) (defScope s_is_word) .none kV1 dc1 pm1 an1 cd1 ct1), sl1⟩) (c1 : PySem.W.codeIn K cd1 "is_word" = true) (k1 : PySem.W.keepIn K (.ref f1) = true)
    (a2 : PySem.W.nsIn K mainGlobals "is_whole" = some (some (.ref f2))) (l2 : K.lookup f2 = some ⟨oc2, od2, .func (PySem.W.fnOf "is_whole" "is_whole" (defArgs s_is_whole) (defBody s_is_whole) (defScope s_is_whole) .none kV2 dc2 pm2 an2 cd2 ct2), sl2⟩) (c2 : PySem.W.codeIn K cd2 "is_whole" = true) (k2 : PySem.W.keepIn K (.ref f2) = true)
    (a3 : PySem.W.nsIn K mainGlobals "check_constructors" = some (some (.ref f3))) (l3 : K.lookup f3 = some ⟨oc3, od3, .func (PySem.W.fnOf "check_constructors" "check_constructors" (defArgs s_check_constructors) (defBody s_check_constructors) (defScope s_check_constructors) .none kV3 dc3 pm3 an3 cd3 ct3), sl3⟩) (c3 : PySem.W.codeIn K cd3 "check_constructors" = true) (k3 : PySem.W.keepIn K (.ref f3) = true)
    (a4 : PySem.W.nsIn K mainGlobals "_wrong_part" = some (some (.ref f4))) (l4 : K.lookup f4 = some ⟨oc4, od4, .func (PySem.W.fnOf "_wrong_part" "_wrong_part" (defArgs s_wrong_part) (defBody s_wrong_part) (defScope s_wrong_part) .none kV4 dc4 pm4 an4 cd4 ct4), sl4⟩) (c4 : PySem.W.codeIn K cd4 "_wrong_part" = true) (k4 : PySem.W.keepIn K (.ref f4) = true)
    (a5 : PySem.W.nsIn K mainGlobals "_are_places" = some (some (.ref f5))) (l5 : K.lookup f5 = some ⟨oc5, od5, .func (PySem.W.fnOf "_are_places" "_are_places" (defArgs s_are_places) (defBody s_are_places) (defScope s_are_places) .none kV5 dc5 pm5 an5 cd5 ct5), sl5⟩) (c5 : PySem.W.codeIn K cd5 "_are_places" = true) (k5 : PySem.W.keepIn K (.ref f5) = true)
    (a6 : PySem.W.nsIn K mainGlobals "_law_pool" = some (some (.ref f6))) (l6 : K.lookup f6 = some ⟨oc6, od6, .func (PySem.W.fnOf "_law_pool" "_law_pool" (defArgs s_law_pool) (defBody s_law_pool) (defScope s_law_pool) .none kV6 dc6 pm6 an6 cd6 ct6), sl6⟩) (c6 : PySem.W.codeIn K cd6 "_law_pool" = true) (k6 : PySem.W.keepIn K (.ref f6) = true)
    (a7 : PySem.W.nsIn K mainGlobals "_law_take" = some (some (.ref f7))) (l7 : K.lookup f7 = some ⟨oc7, od7, .func (PySem.W.fnOf "_law_take" "_law_take" (defArgs s_law_take) (defBody s_law_take) (defScope s_law_take) .none kV7 dc7 pm7 an7 cd7 ct7), sl7⟩) (c7 : PySem.W.codeIn K cd7 "_law_take" = true) (k7 : PySem.W.keepIn K (.ref f7) = true)
    (a8 : PySem.W.nsIn K mainGlobals "_law_words" = some (some (.ref f8))) (l8 : K.lookup f8 = some ⟨oc8, od8, .func (PySem.W.fnOf "_law_words" "_law_words" (defArgs s_law_words) (defBody s_law_words) (defScope s_law_words) .none kV8 dc8 pm8 an8 cd8 ct8), sl8⟩) (c8 : PySem.W.codeIn K cd8 "_law_words" = true) (k8 : PySem.W.keepIn K (.ref f8) = true)
    (a9 : PySem.W.nsIn K mainGlobals "_law_constructors" = some (some (.ref f9))) (l9 : K.lookup f9 = some ⟨oc9, od9, .func (PySem.W.fnOf "_law_constructors" "_law_constructors" (defArgs s_law_constructors) (defBody s_law_constructors) (defScope s_law_constructors) .none kV9 dc9 pm9 an9 cd9 ct9), sl9⟩) (c9 : PySem.W.codeIn K cd9 "_law_constructors" = true) (k9 : PySem.W.keepIn K (.ref f9) = true)
    (a10 : PySem.W.nsIn K mainGlobals "_law_same" = some (some (.ref f10))) (l10 : K.lookup f10 = some ⟨oc10, od10, .func (PySem.W.fnOf "_law_same" "_law_same" (defArgs s_law_same) (defBody s_law_same) (defScope s_law_same) .none kV10 dc10 pm10 an10 cd10 ct10), sl10⟩) (c10 : PySem.W.codeIn K cd10 "_law_same" = true) (k10 : PySem.W.keepIn K (.ref f10) = true)
    (a11 : PySem.W.nsIn K mainGlobals "_law_allowed" = some (some (.ref f11))) (l11 : K.lookup f11 = some ⟨oc11, od11, .func (PySem.W.fnOf "_law_allowed" "_law_allowed" (defArgs s_law_allowed) (defBody s_law_allowed) (defScope s_law_allowed) .none kV11 dc11 pm11 an11 cd11 ct11), sl11⟩) (c11 : PySem.W.codeIn K cd11 "_law_allowed" = true) (k11 : PySem.W.keepIn K (.ref f11) = true)
    (a12 : PySem.W.nsIn K mainGlobals "_law_spoilt" = some (some (.ref f12))) (l12 : K.lookup f12 = some ⟨oc12, od12, .func (PySem.W.fnOf "_law_spoilt" "_law_spoilt" (defArgs s_law_spoilt) (defBody s_law_spoilt) (defScope s_law_spoilt) .none kV12 dc12 pm12 an12 cd12 ct12), sl12⟩) (c12 : PySem.W.codeIn K cd12 "_law_spoilt" = true) (k12 : PySem.W.keepIn K (.ref f12) = true)
    (a13 : PySem.W.nsIn K mainGlobals "_law_asked" = some (some (.ref f13))) (l13 : K.lookup f13 = some ⟨oc13, od13, .func (PySem.W.fnOf "_law_asked" "_law_asked" (defArgs s_law_asked) (defBody s_law_asked) (defScope s_law_asked) .none kV13 dc13 pm13 an13 cd13 ct13), sl13⟩) (c13 : PySem.W.codeIn K cd13 "_law_asked" = true) (k13 : PySem.W.keepIn K (.ref f13) = true)
    (a14 : PySem.W.nsIn K mainGlobals "_law_changed" = some (some (.ref f14))) (l14 : K.lookup f14 = some ⟨oc14, od14, .func (PySem.W.fnOf "_law_changed" "_law_changed" (defArgs s_law_changed) (defBody s_law_changed) (defScope s_law_changed) .none kV14 dc14 pm14 an14 cd14 ct14), sl14⟩) (c14 : PySem.W.codeIn K cd14 "_law_changed" = true) (k14 : PySem.W.keepIn K (.ref f14) = true)
    (a15 : PySem.W.nsIn K mainGlobals "law" = some (some (.ref f15))) (l15 : K.lookup f15 = some ⟨oc15, od15, .func (PySem.W.fnOf "law" "law" (defArgs s_law) (defBody s_law) (defScope s_law) .none kV15 dc15 pm15 an15 cd15 ct15), sl15⟩) (c15 : PySem.W.codeIn K cd15 "law" = true) (k15 : PySem.W.keepIn K (.ref f15) = true)
    (z_len : PySem.W.nsIn K mainGlobals "len" = some none) (z_int : PySem.W.nsIn K mainGlobals "int" = some none) (z_range : PySem.W.nsIn K mainGlobals "range" = some none) (z_min : PySem.W.nsIn K mainGlobals "min" = some none) (z_str : PySem.W.nsIn K mainGlobals "str" = some none) (z_tuple : PySem.W.nsIn K mainGlobals "tuple" = some none) (z_sorted : PySem.W.nsIn K mainGlobals "sorted" = some none) (z_isinstance : PySem.W.nsIn K mainGlobals "isinstance" = some none) (z_any : PySem.W.nsIn K mainGlobals "any" = some none) (z_all : PySem.W.nsIn K mainGlobals "all" = some none) (z_list : PySem.W.nsIn K mainGlobals "list" = some none) (z_bool : PySem.W.nsIn K mainGlobals "bool" = some none) (z_enumerate : PySem.W.nsIn K mainGlobals "enumerate" = some none)
    {aR CP : Addr} {odR : Option Addr} {nR : Nat} {slR : Array (Option Value)} {t1 t2 t3 t4 t5 : Tok} {u1 u2 u3 u4 u5 u6 u7 u8 : Tok}
    (g1 : PySem.W.nsIn K mainGlobals "MOST_CHARACTERS" = some (some (.int 12 t1))) (g2 : PySem.W.nsIn K mainGlobals "MOST_ARGUMENTS" = some (some (.int 6 t2))) (g3 : PySem.W.nsIn K mainGlobals "MOST_CONSTRUCTORS" = some (some (.int 40 t3)))
    (g4 : PySem.W.nsIn K mainGlobals "LETTERS" = some (some (.str LET t4))) (g5 : PySem.W.nsIn K mainGlobals "WORD_CHARACTERS" = some (some (.str OTH t5)))
    (gR : PySem.W.nsIn K mainGlobals "_RESERVED" = some (some (.ref aR))) (lR : K.lookup aR = some ⟨.type "tuple", odR, .seq #[.str "get" u1, .str "set" u2, .str "plus" u3, .str "minus" u4, .str "new" u5, .str "read" u6, .str "write" u7, .str "put" u8] nR, slR⟩)
    (gP : PySem.W.nsIn K mainGlobals "PassError" = some (some (.ref CP)))
    (sp1 : PySem.W.specialIn K (.builtin "object.__class__") "__get__" = some (some (.builtin "getset_descriptor.__get__"))) (sp2 : PySem.W.takesIn K (.builtin "object.__class__") = some true)
    {CL gL NL : Addr} {nmL qL : Str} {bsL : List Value} {snL : List Str} {subL : List Value} {abL : Bool} {colL : Option Bool} {ddL : Option Addr} {m0L m1L m2L m3L m5L : Option Value} {odL anL : Option Addr} {slL : Array (Option Value)} {ocL kVL dcL pmL cdL ctL : Value}
    {CC gC NC : Addr} {nmC qC : Str} {bsC : List Value} {snC : List Str} {subC : List Value} {abC : Bool} {colC : Option Bool} {ddC : Option Addr} {m0C m1C m2C m3C m5C : Option Value} {odC anC : Option Addr} {slC : Array (Option Value)} {ocC kVC dcC pmC cdC ctC : Value}
    (nL : PySem.W.nsIn K mainGlobals "BadLanguage" = some (some (.ref CL)))
    (xL : K.lookup CL = some (excClassObj nmL qL CL NL bsL [.ref CP, .type "ValueError", .type "Exception", .type "BaseException", .type "object"] true snL subL abL colL ddL m0L m1L m2L m3L m5L "ValueError.__new__"))
    (saL : PySem.W.findIn K (.ref CL) "__setattr__" = some (some (.builtin "object.__setattr__"))) (gaL : PySem.W.findIn K (.ref CL) "__getattribute__" = some (some (.builtin "BaseException.__getattribute__"))) (ggL : PySem.W.findIn K (.ref CL) "__getattr__" = some none)
    (nnL : PySem.W.findIn K (.ref CL) "number" = some none) (nrL : PySem.W.findIn K (.ref CL) "reason" = some none) (ccL : PySem.W.findIn K (.ref CL) "__class__" = some (some (.builtin "object.__class__"))) (moL : PySem.W.mroIn K CL (.type "object") = some true)
    (aiL : PySem.W.findIn K (.ref CL) "__init__" = some (some (.ref gL))) (tiL : PySem.W.typeIn K (.ref gL) = some (.type "function"))
    (liL : K.lookup gL = some ⟨ocL, odL, .func (PySem.W.fnOf "__init__" "BadLanguage.__init__" (defArgs s_init1) (defBody s_init1) (defScope s_init1) .none kVL dcL pmL anL cdL ctL), slL⟩) (ciL : PySem.W.codeIn K cdL "BadLanguage.__init__" = true) (kiL : PySem.W.keepIn K (.ref gL) = true)
    (kepL : PySem.W.keepIn K (.ref CL) = true) (eCL : PySem.W.subIn K (.ref CL) (.type "BaseException") = some true) (tCL : PySem.W.typeIn K (.ref CL) = some (.type "type")) (hCL : PySem.W.hasDictIn K CL = true)
    (nC : PySem.W.nsIn K mainGlobals "BadConstructor" = some (some (.ref CC)))
    (xC : K.lookup CC = some (excClassObj nmC qC CC NC bsC [.ref CP, .type "ValueError", .type "Exception", .type "BaseException", .type "object"] true snC subC abC colC ddC m0C m1C m2C m3C m5C "ValueError.__new__"))
    (saC : PySem.W.findIn K (.ref CC) "__setattr__" = some (some (.builtin "object.__setattr__"))) (gaC : PySem.W.findIn K (.ref CC) "__getattribute__" = some (some (.builtin "BaseException.__getattribute__"))) (ggC : PySem.W.findIn K (.ref CC) "__getattr__" = some none)
    (nnC : PySem.W.findIn K (.ref CC) "number" = some none) (nrC : PySem.W.findIn K (.ref CC) "reason" = some none) (ccC : PySem.W.findIn K (.ref CC) "__class__" = some (some (.builtin "object.__class__"))) (moC : PySem.W.mroIn K CC (.type "object") = some true)
    (aiC : PySem.W.findIn K (.ref CC) "__init__" = some (some (.ref gC))) (tiC : PySem.W.typeIn K (.ref gC) = some (.type "function"))
    (liC : K.lookup gC = some ⟨ocC, odC, .func (PySem.W.fnOf "__init__" "BadConstructor.__init__" (defArgs s_init2) (defBody s_init2) (defScope s_init2) .none kVC dcC pmC anC cdC ctC), slC⟩) (ciC : PySem.W.codeIn K cdC "BadConstructor.__init__" = true) (kiC : PySem.W.keepIn K (.ref gC) = true)
    (kepC : PySem.W.keepIn K (.ref CC) = true) (eCC : PySem.W.subIn K (.ref CC) (.type "BaseException") = some true) (tCC : PySem.W.typeIn K (.ref CC) = some (.type "type")) (hCC : PySem.W.hasDictIn K CC = true)
    (iP : PySem.W.isClsIn K CP = true) (iL : PySem.W.isClsIn K CL = true) (iC : PySem.W.isClsIn K CC = true) (tP : PySem.W.typeIn K (.ref CP) = some (.type "type")) (sLP : PySem.W.subIn K (.ref CL) (.ref CP) = some true) (sCP : PySem.W.subIn K (.ref CC) (.ref CP) = some true)
    (sLC : PySem.W.subIn K (.ref CL) (.ref CC) = some false) (sCL : PySem.W.subIn K (.ref CC) (.ref CL) = some false)
    (sLL : PySem.W.subIn K (.ref CL) (.ref CL) = some true) (sCC : PySem.W.subIn K (.ref CC) (.ref CC) = some true) :
    ∃ fd : FuncData, (∀ (s : Shared) (v : Value), BindsTo s fd ⟨[v], []⟩ [("script", v)]) ∧ ∀ base : Heap, K.In base → base.Ns mainGlobals mg → FnOk l.prog w K mg base CX0 9 fa fd ["script"] (spLaw K) := by
  have e := hfa.symm.trans (PySem.W.mg_of X G a15)
  cases e
  have F1 := fun_mk (st := s_is_word) l1 c1 k1
  have b1 := F1.binds (ps := ["text"]) fun _ _ _ _ _ _ us hl => match us, hl with | [_], _ => rfl
  have m1 := PySem.W.mg_of X G a1
  have F2 := fun_mk (st := s_is_whole) l2 c2 k2
  have b2 := F2.binds (ps := ["number"]) fun _ _ _ _ _ _ us hl => match us, hl with | [_], _ => rfl
  have m2 := PySem.W.mg_of X G a2
  have F3 := fun_mk (st := s_check_constructors) l3 c3 k3
  have b3 := F3.binds (ps := ["constructors"]) fun _ _ _ _ _ _ us hl => match us, hl with | [_], _ => rfl
  have m3 := PySem.W.mg_of X G a3
  have F4 := fun_mk (st := s_wrong_part) l4 c4 k4
  have b4 := F4.binds (ps := ["constructor"]) fun _ _ _ _ _ _ us hl => match us, hl with | [_], _ => rfl
  have m4 := PySem.W.mg_of X G a4
  have F5 := fun_mk (st := s_are_places) l5 c5 k5
  have b5 := F5.binds (ps := ["strict", "many"]) fun _ _ _ _ _ _ us hl => match us, hl with | [_, _], _ => rfl
  have m5 := PySem.W.mg_of X G a5
  have F6 := fun_mk (st := s_law_pool) l6 c6 k6
  have b6 := F6.binds (ps := ["script"]) fun _ _ _ _ _ _ us hl => match us, hl with | [_], _ => rfl
  have m6 := PySem.W.mg_of X G a6
  have F7 := fun_mk (st := s_law_take) l7 c7 k7
  have b7 := F7.binds (ps := ["pool", "many"]) fun _ _ _ _ _ _ us hl => match us, hl with | [_, _], _ => rfl
  have m7 := PySem.W.mg_of X G a7
  have F8 := fun_mk (st := s_law_words) l8 c8 k8
  have b8 := F8.binds (ps := ["pool", "many"]) fun _ _ _ _ _ _ us hl => match us, hl with | [_, _], _ => rfl
  have m8 := PySem.W.mg_of X G a8
  have F9 := fun_mk (st := s_law_constructors) l9 c9 k9
  have b9 := F9.binds (ps := ["pool", "words"]) fun _ _ _ _ _ _ us hl => match us, hl with | [_, _], _ => rfl
  have m9 := PySem.W.mg_of X G a9
  have F10 := fun_mk (st := s_law_same) l10 c10 k10
  have b10 := F10.binds (ps := ["actual", "due"]) fun _ _ _ _ _ _ us hl => match us, hl with | [_, _], _ => rfl
  have m10 := PySem.W.mg_of X G a10
  have F11 := fun_mk (st := s_law_allowed) l11 c11 k11
  have b11 := F11.binds (ps := ["pool", "many"]) fun _ _ _ _ _ _ us hl => match us, hl with | [_, _], _ => rfl
  have m11 := PySem.W.mg_of X G a11
  have F12 := fun_mk (st := s_law_spoilt) l12 c12 k12
  have b12 := F12.binds (ps := ["pool", "row"]) fun _ _ _ _ _ _ us hl => match us, hl with | [_, _], _ => rfl
  have m12 := PySem.W.mg_of X G a12
  have F13 := fun_mk (st := s_law_asked) l13 c13 k13
  have b13 := F13.binds (ps := ["rows"]) fun _ _ _ _ _ _ us hl => match us, hl with | [_], _ => rfl
  have m13 := PySem.W.mg_of X G a13
  have F14 := fun_mk (st := s_law_changed) l14 c14 k14
  have b14 := F14.binds (ps := ["pool", "rows"]) fun _ _ _ _ _ _ us hl => match us, hl with | [_, _], _ => rfl
  have m14 := PySem.W.mg_of X G a14
  have F15 := fun_mk (st := s_law) l15 c15 k15
  have FIL := fun_mk (st := s_init1) liL ciL kiL
  have bIL := FIL.binds (ps := ["self", "reason"]) fun _ _ _ _ _ _ us hl => match us, hl with | [_, _], _ => rfl
  have NLo : NoF K CL := ⟨⟨⟨nmL, qL, NL, bsL, _, snL, subL, abL, colL, ddL, m0L, m1L, m2L, m3L, m5L, xL, by show PySem.HandSPX.refsVE [.type "ValueError", .type "Exception", .type "BaseException", .type "object"] = true; decide +kernel⟩, saL, eCL, tCL, kepL⟩, nnL, nrL⟩
  have FIC := fun_mk (st := s_init2) liC ciC kiC
  have bIC := FIC.binds (ps := ["self", "number", "reason"]) fun _ _ _ _ _ _ us hl => match us, hl with | [_, _, _], _ => rfl
  have NCo : NoF K CC := ⟨⟨⟨nmC, qC, NC, bsC, _, snC, subC, abC, colC, ddC, m0C, m1C, m2C, m3C, m5C, xC, by show PySem.HandSPX.refsVE [.type "ValueError", .type "Exception", .type "BaseException", .type "object"] = true; decide +kernel⟩, saC, eCC, tCC, kepC⟩, nnC, nrC⟩
  have T : Txt K mg := ⟨PySem.W.mg_none_of X G z_len, PySem.W.mg_none_of X G z_int, PySem.W.mg_none_of X G z_range, PySem.W.mg_none_of X G z_min, PySem.W.mg_none_of X G z_str, PySem.W.mg_none_of X G z_tuple, PySem.W.mg_none_of X G z_sorted, PySem.W.mg_none_of X G z_isinstance, PySem.W.mg_none_of X G z_any, PySem.W.mg_none_of X G z_all, PySem.W.mg_none_of X G z_list, PySem.W.mg_none_of X G z_bool⟩
  have TP : TxtP K mg aR := ⟨T, PySem.W.mg_none_of X G z_enumerate, ⟨_, PySem.W.mg_of X G g1⟩, ⟨_, PySem.W.mg_of X G g2⟩, ⟨_, PySem.W.mg_of X G g3⟩, ⟨_, PySem.W.mg_of X G g4⟩, ⟨_, PySem.W.mg_of X G g5⟩, PySem.W.mg_of X G gR,
    fun H => .inr ⟨_, _, _, lR, rfl, rfl, small (by show 8 ≤ _; decide), .cons ⟨_, rfl⟩ (.cons ⟨_, rfl⟩ (.cons ⟨_, rfl⟩ (.cons ⟨_, rfl⟩ (.cons ⟨_, rfl⟩ (.cons ⟨_, rfl⟩ (.cons ⟨_, rfl⟩ (.cons ⟨_, rfl⟩ .nil)))))))⟩⟩
  have ne : CL ≠ CC := fun z => by
    rw [← z, sLL] at sLC
    cases sLC
  have CX : ClsX K mg CP CL CC := ⟨PySem.W.mg_of X G gP, PySem.W.mg_of X G nL, PySem.W.mg_of X G nC, ⟨gaL, ggL, eCL, hCL, ccL, sp1, sp2, moL⟩, ⟨gaC, ggC, eCC, hCC, ccC, sp1, sp2, moC⟩, ⟨gaL, ggL, eCL, hCL⟩, ⟨gaC, ggC, eCC, hCC⟩, NLo, NCo, kit_t iP tP sLP, kit_f ne iC tCC sLC, kit_t iP tP sCP, kit_f ne.symm iL tCL sCL, PySem.W.exm_ref eCC hCC tCC sCC, PySem.W.exm_ref eCC hCC tCC sLC, PySem.W.exm_ref eCL hCL tCL sLL⟩
  refine ⟨PySem.W.fnOf "law" "law" (defArgs s_law) (defBody s_law) (defScope s_law) .none kV15 dc15 pm15 an15 cd15 ct15, fun s v => .of_eq rfl, fun base _ _ => ?_⟩
  have take0 : C8.Cal l.prog w K mg base 0 "_law_take" (spTake 0) [] := cal_mk (none_ok (fun vs H Q E h => by obtain ⟨_, _, _, _, _, _, _, _, h, _⟩ := h; omega)) m7 k7 b7
  have take1 : C8.Cal l.prog w K mg base 1 "_law_take" (spTake 1) [] := cal_mk (ok_take F7 T take0) m7 k7 b7
  have take : C8.Cal l.prog w K mg base 2 "_law_take" (spTake 2) [] := cal_mk (ok_take F7 T take1) m7 k7 b7
  have pool : C8.Cal l.prog w K mg base 1 "_law_pool" (spPool K) [] := cal_mk (ok_pool F6) m6 k6 b6
  have words : C8.Cal l.prog w K mg base 3 "_law_words" (spWords) [] := cal_mk (ok_words F8 T take) m8 k8 b8
  have cons : C8.Cal l.prog w K mg base 3 "_law_constructors" (spCons K) [] := cal_mk (ok_cons F9 T take) m9 k9 b9
  have allowed : C8.Cal l.prog w K mg base 4 "_law_allowed" (spAllowed K) [] := cal_mk (ok_allowed F11 take words cons) m11 k11 b11
  have spoilt : C8.Cal l.prog w K mg base 3 "_law_spoilt" (spSpoilt K) [] := cal_mk (ok_spoilt F12 T take) m12 k12 b12
  have changed : C8.Cal l.prog w K mg base 5 "_law_changed" (spChanged K) [] := cal_mk (ok_changed F14 T take allowed spoilt) m14 k14 b14
  have sames : ∀ n : Nat, C8.Cal l.prog w K mg base n "_law_same" (spSame K n) [] := fun n => by
    induction n with
    | zero => exact cal_mk (none_ok (fun vs H Q E h => by obtain ⟨_, _, _, _, _, _, h, _⟩ := h; omega)) m10 k10 b10
    | succ n ih => exact cal_mk (ok_same F10 T ih) m10 k10 b10
  have whole : C8.Cal l.prog w K mg base 1 "is_whole" (spWhole) [] := cal_mk (ok_whole F2 TP) m2 k2 b2
  have word : C8.Cal l.prog w K mg base 1 "is_word" (spWord) [] := cal_mk (ok_word F1 TP) m1 k1 b1
  have places : C8.Cal l.prog w K mg base 2 "_are_places" (spPlaces K) [] := cal_mk (ok_places F5 TP whole) m5 k5 b5
  have wrong : C8.Cal l.prog w K mg base 3 "_wrong_part" (spWrong K) [] := cal_mk (ok_wrong F4 TP whole word places) m4 k4 b4
  have XL : CalX l.prog w K mg base 1 "BadLanguage" CL (spI1 K) := ⟨NLo, CX.gL, _, _, _, aiL, tiL, ok_init1 FIL, bIL⟩
  have XC : CalX l.prog w K mg base 1 "BadConstructor" CC (spI2 K) := ⟨NCo, CX.gC, _, _, _, aiC, tiC, ok_init2 FIC, bIC⟩
  have check : CalR l.prog w K mg base 4 "check_constructors" (spCheck K CL CC) := ⟨_, _, _, ok_check F3 TP wrong XL XC, m3, k3, b3⟩
  have asked : C8.Cal l.prog w K mg base 5 "_law_asked" (spAsked K) [] := cal_mk (ok_asked F13 T CX check) m13 k13 b13
  exact ok_law F15 T pool take allowed changed asked (sames 8) check
theorem walk {l : PySem.W.OpenLaw} {q : Program} {loose : List Str} {XP : (Str → Option Value) → Heap → Prop} {YP : World → Heap → Prop} {d : DefRec} {K : Params → PySem.W.Frag} (hn : l.most = some 63) (hdf : d.params.defaults = [])
    (hY : ∀ (w : World) (h : Heap), YP w h → (K w.params).In h)
    (F : ∀ (w : World) (mg : Str → Option Value) (fa : Addr) (h : Heap), (K w.params).In h → h.Ns mainGlobals mg → mg d.name = some (.ref fa) →
      ∃ fd : FuncData, (∀ (s : Shared) (u : Value), BindsTo s fd ⟨[u], []⟩ [("script", u)]) ∧ ∀ base : Heap, (K w.params).In base → base.Ns mainGlobals mg → FnOk l.prog w (K w.params) mg base CX0 9 fa fd ["script"] (spLaw (K w.params))) :
    PySem.W.WalkO q loose XP YP l.row.toRowW d [] (fun f vs => PySem.call f vs) :=
  L2.walk_of (n := 63) (k := 9) (x := "script") (CX := fun _ => CX0) (sp := fun w => spLaw (K w.params)) hn (by decide) hdf ⟨rfl, by decide, by decide⟩ hY F (fun _ _ a ns hl _ hS => ⟨a, ns, rfl, hS, hl, fun _ => rfl⟩) fun _ _ _ _ _ z => z
end PK
open PySem PySem.W PyProof.Rows in
set_option maxRecDepth 100000 in
set_option maxHeartbeats 0 in
theorem PySem.Challenge.cw_passproven_k09_constructors_refused_holds : PySem.Challenge.rw_passproven_k09_constructors_refused.Holds := by
  w_on; o_law; k_head; (case hw => w_witness2)
  k_fill
  refine PK.walk (l := PySem.Challenge.rw_passproven_k09_constructors_refused) rfl rfl (fun w h Y => PySem.W.kIn_of Y) ?F
  case F =>
    intro w mg fa h KX G hmg
    refine' PK.all_mk KX G hmg ?a1 ?l1 ?c1 ?k1 ?a2 ?l2 ?c2 ?k2 ?a3 ?l3 ?c3 ?k3 ?a4 ?l4 ?c4 ?k4 ?a5 ?l5 ?c5 ?k5 ?a6 ?l6 ?c6 ?k6 ?a7 ?l7 ?c7 ?k7 ?a8 ?l8 ?c8 ?k8 ?a9 ?l9 ?c9 ?k9 ?a10 ?l10 ?c10 ?k10 ?a11 ?l11 ?c11 ?k11 ?a12 ?l12 ?c12 ?k12 ?a13 ?l13 ?c13 ?k13 ?a14 ?l14 ?c14 ?k14 ?a15 ?l15 ?c15 ?k15 ?z_len ?z_int ?z_range ?z_min ?z_str ?z_tuple ?z_sorted ?z_isinstance ?z_any ?z_all ?z_list ?z_bool ?z_enumerate ?g1 ?g2 ?g3 ?g4 ?g5 ?gR ?lR ?gP ?sp1 ?sp2 ?nL ?xL ?saL ?gaL ?ggL ?nnL ?nrL ?ccL ?moL ?aiL ?tiL ?liL ?ciL ?kiL ?kepL ?eCL ?tCL ?hCL ?nC ?xC ?saC ?gaC ?ggC ?nnC ?nrC ?ccC ?moC ?aiC ?tiC ?liC ?ciC ?kiC ?kepC ?eCC ?tCC ?hCC ?iP ?iL ?iC ?tP ?sLP ?sCP ?sLC ?sCL ?sLL ?sCC
    (case a1 => k_is)
    (case l1 => k_is)
    (case c1 => k_is)
    (case k1 => k_is)
    (case a2 => k_is)
    (case l2 => k_is)
    (case c2 => k_is)
    (case k2 => k_is)
    (case a3 => k_is)
    (case l3 => k_is)
    (case c3 => k_is)
    (case k3 => k_is)
    (case a4 => k_is)
    (case l4 => k_is)
    (case c4 => k_is)
    (case k4 => k_is)
    (case a5 => k_is)
    (case l5 => k_is)
    (case c5 => k_is)
    (case k5 => k_is)
    (case a6 => k_is)
    (case l6 => k_is)
    (case c6 => k_is)
    (case k6 => k_is)
    (case a7 => k_is)
    (case l7 => k_is)
    (case c7 => k_is)
    (case k7 => k_is)
    (case a8 => k_is)
    (case l8 => k_is)
    (case c8 => k_is)
    (case k8 => k_is)
    (case a9 => k_is)
    (case l9 => k_is)
    (case c9 => k_is)
    (case k9 => k_is)
    (case a10 => k_is)
    (case l10 => k_is)
    (case c10 => k_is)
    (case k10 => k_is)
    (case a11 => k_is)
    (case l11 => k_is)
    (case c11 => k_is)
    (case k11 => k_is)
    (case a12 => k_is)
    (case l12 => k_is)
    (case c12 => k_is)
    (case k12 => k_is)
    (case a13 => k_is)
    (case l13 => k_is)
    (case c13 => k_is)
    (case k13 => k_is)
    (case a14 => k_is)
    (case l14 => k_is)
    (case c14 => k_is)
    (case k14 => k_is)
    (case a15 => k_is)
    (case l15 => k_is)
    (case c15 => k_is)
    (case k15 => k_is)
    (case z_len => k_is)
    (case z_int => k_is)
    (case z_range => k_is)
    (case z_min => k_is)
    (case z_str => k_is)
    (case z_tuple => k_is)
    (case z_sorted => k_is)
    (case z_isinstance => k_is)
    (case z_any => k_is)
    (case z_all => k_is)
    (case z_list => k_is)
    (case z_bool => k_is)
    (case z_enumerate => k_is)
    (case g1 => k_is)
    (case g2 => k_is)
    (case g3 => k_is)
    (case g4 => k_is)
    (case g5 => k_is)
    (case gR => k_is)
    (case lR => k_is)
    (case gP => k_is)
    (case sp1 => k_is)
    (case sp2 => k_is)
    (case nL => k_is)
    (case xL => k_is)
    (case saL => k_is)
    (case gaL => k_is)
    (case ggL => k_is)
    (case nnL => k_is)
    (case nrL => k_is)
    (case ccL => k_is)
    (case moL => k_is)
    (case aiL => k_is)
    (case tiL => k_is)
    (case liL => k_is)
    (case ciL => k_is)
    (case kiL => k_is)
    (case kepL => k_is)
    (case eCL => k_is)
    (case tCL => k_is)
    (case hCL => k_is)
    (case nC => k_is)
    (case xC => k_is)
    (case saC => k_is)
    (case gaC => k_is)
    (case ggC => k_is)
    (case nnC => k_is)
    (case nrC => k_is)
    (case ccC => k_is)
    (case moC => k_is)
    (case aiC => k_is)
    (case tiC => k_is)
    (case liC => k_is)
    (case ciC => k_is)
    (case kiC => k_is)
    (case kepC => k_is)
    (case eCC => k_is)
    (case tCC => k_is)
    (case hCC => k_is)
    (case iP => k_is)
    (case iL => k_is)
    (case iC => k_is)
    (case tP => k_is)
    (case sLP => k_is)
    (case sCP => k_is)
    (case sLC => k_is)
    (case sCL => k_is)
    (case sLL => first | rfl | k_is)
    (case sCC => first | rfl | k_is)
#print axioms PySem.Challenge.cw_passproven_k09_constructors_refused_holds
