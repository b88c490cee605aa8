import PyProof.Rows.All
import Wide.All
import OpenK.AllK
import Wide.FinOn
import HandS.ForMost
import HandS.Wide
import HandS.IsInst
import HandS.More
import HandS.Conv
import HandS.Codes
import HandS.ForExc
import HandS.ExcInit
import HandS.ExcField
import HandS.TryMany
import KE.GoesEnum
import KE.KExcIs
import HandS.ExcIs
import KE.KxText
import HandS.Walk
import HandS.Text
import PyProof.StrOps2
import PyProof.Rows.ReprOcc
import PySem.Challenge.RW_passproven_k11_conditions_read
set_option Elab.async false
set_option linter.all false
set_option maxRecDepth 100000
namespace PKR
open PySem L2
/-! ### one of two walks, as it comes -/
theorem pi_or {X : Cx} {tg iter : Expr} {w1 w2 : TI} (a : PI X tg iter w1) (b : PI X tg iter w2) : PI X tg iter (fun σ H R => w1 σ H R ∨ w2 σ H R) :=
  ⟨fun pins s σ H R I h => h.elim (a.run pins s σ H R I) (b.run pins s σ H R I)⟩
/-! ### enumerate over a tuple -/
set_option maxHeartbeats 2000000 in
theorem meets_enum_any {v : Value} {o : Obj} {Hh : Heap → Prop} (B : Begins v o Hh) :
    Meets (Builtin.«enumerate.__new__» ⟨[.type "enumerate", v], []⟩) (fun _ R s => Hh s.heap ∧
      R (.ok (.ret (.ref (s.heap.push o).objs.size))) { s with heap := (s.heap.push o).push { cls := .type "enumerate", data := .fields #[.none, .bool false, .ref s.heap.objs.size, rawInt 0, .none, .none] } }) := by
  refine .of_wp fun prog w A R s h => ?_
  obtain ⟨hp, g, d, tk, os⟩ := s
  obtain ⟨hH, hR⟩ := h
  have sub_e := sub_enumerate
  have it_v : ∀ {A' : Around} {E Q : Value → Shared → Prop}, Q (.ref hp.objs.size) ⟨hp.push o, g, d, tk, os⟩ → wpAny (model prog w) A' (pyIter v) Q E ⟨hp, g, d, tk, os⟩ := fun z => B.iter prog w _ _ ⟨hp, g, d, tk, os⟩ _ hH z
  wp_walk using it_v
  refine wpAny_stack_any fun st => wpAny_pure ?_
  split
  · rename_i c _ _ _ _ _
    cases (c == Value.type "enumerate") <;> (wp_walk using it_v; exact ⟨_, rfl, hR⟩)
  · wp_walk using it_v
    exact ⟨_, rfl, hR⟩
theorem call_enum_any {prog : Program} {w : World} {A : Around} {E : Value → Shared → Prop} {s : Shared} {v : Value} {o : Obj} {Hh : Heap → Prop} {Q : Value → Shared → Prop} (B : Begins v o Hh) (hH : Hh s.heap)
    (hq : ∀ h', IsEnum h' (s.heap.objs.size + 1) s.heap.objs.size 0 .none → h'.get? s.heap.objs.size = some o → (∀ b u, s.heap.get? b = some u → h'.get? b = some u) → Q (.ref (s.heap.objs.size + 1)) { s with heap := h' }) :
    wpAny (model prog w) A (call (.type "enumerate") [v]) Q E s := by
  refine callType_new F.called_enumerate (by decide) (F.typeCall_enumerate_1 _) (F.newCall_enumerate_1 _) (fun obj => F.args_object_init_2 obj _) F.entry_enumerate_new (meets_enum_any B) ⟨hH, ?_⟩
  have sz : (s.heap.push o).objs.size = s.heap.objs.size + 1 := Heap.size_push ..
  show _ ∧ _
  rw [sz]
  have en : IsEnum ((s.heap.push o).push { cls := .type "enumerate", data := .fields #[.none, .bool false, .ref s.heap.objs.size, rawInt 0, .none, .none] }) (s.heap.objs.size + 1) s.heap.objs.size 0 .none := by
    have g := Heap.get?_push_size (s.heap.push o) (o := { cls := .type "enumerate", data := .fields #[.none, .bool false, .ref s.heap.objs.size, rawInt 0, .none, .none] }) rfl
    rw [sz] at g
    exact g
  exact ⟨⟨_, en, rfl⟩, hq _ en (Heap.get?_push_of_some _ (Heap.get?_push_size _ B.free)) fun b u z => Heap.get?_push_of_some _ (Heap.get?_push_of_some _ z)⟩
/-- the tuple at a, each item in a new pair with its number -/
def ItE (K : PySem.W.Frag) (a : Addr) : It :=
  ⟨fun i H => ∃ (xs : List V) (x : V), SqT K H a xs ∧ xs[i]? = some x, fun i H v H' => ∃ T x, v = .ref T ∧ H T = none ∧ H' = upd H T (.tup [.int (i : Nat), x]) ∧ ∀ xs, SqT K H a xs → xs[i]? = some x, fun i H => ∃ xs : List V, SqT K H a xs ∧ xs.length = i⟩
theorem pair_mem {b e it : Addr} (h : b ∈ [e, it]) : b = e ∨ b = it := by simpa using h
theorem turn_enumT {P : Program} {w : World} {K : PySem.W.Frag} {es : List Expr} {k : Nat} {pos : Pos} (a e it : Addr) :
    Turn P w K (.Tuple es k pos) (ItE K a) [e, it] e (fun i h => (∃ old, IsEnum h e it ((i : Nat) : Int) old) ∧ h.IsTupleIter it a i ∧ e ≠ it ∧ a ≠ it ∧ e ≠ a) where
  mem := List.mem_cons_self
  obj := fun i h st b hb => by
    obtain ⟨⟨old, he⟩, ⟨o, ho, _, hd⟩, _⟩ := st
    rcases pair_mem hb with rfl | rfl
    · exact ⟨_, he, fun v q => nomatch q⟩
    · exact ⟨o, ho, fun v q => by rw [hd] at q; cases q⟩
  keep := fun i h h' st k => by
    obtain ⟨⟨old, he⟩, hi, ne⟩ := st
    exact ⟨⟨old, k e List.mem_cons_self _ he⟩, hi.at fun o q => k it (List.mem_cons_of_mem _ List.mem_cons_self) o q, ne⟩
  item := by
    intro X eP ew eK calm i pins s σ H E I free st go
    subst eP ew eK
    obtain ⟨⟨old, he⟩, hi, ne, na, nea⟩ := st
    obtain ⟨xs, x, hx, gx⟩ := go
    obtain ⟨its, rv, pT, _⟩ := I.tuple hx
    obtain ⟨u, gu, ru⟩ := rv.get gx
    have hh : X.A.handled = none := I.ok.hd calm
    have D := Draws.tuple (prog := X.prog) (w := X.w) (A := X.A.in1) hh it a na its.toArray
    have lt : i < its.toArray.size := by
      have := (List.getElem?_eq_some_iff.mp gu).1
      simpa using this
    have be := Heap.lt_size he
    have bi : it < s.heap.objs.size := by obtain ⟨_, q, _⟩ := hi; exact Heap.lt_size q
    refine wpAny_pyNext_enum_itemD D he ⟨hi, show s.heap.IsTuple a its.toArray from pT⟩ lt ne (fun m => (pair_mem m).elim ne nea) fun y h1 tk hy out st1 hT _ old1 => ?_
    have ey : y = u := by
      have : its.toArray[i]? = some u := by simpa using gu
      rw [hy] at this
      exact Option.some.inj this
    subst ey
    refine ⟨_, rfl, wpAny_letOwnedTupleGo_enum (s := { s with heap := h1, toks := tk + 1 }) out fun h2 en sb => ?_⟩
    have hT2 := (sb.2 _ (Nat.ne_of_gt be)).trans hT
    have obj : ObjOk X.prog X.w (upd H s.heap.objs.size (.tup [.int (i : Nat), x])) h2 s.heap.objs.size (.tup [.int (i : Nat), x]) :=
      ⟨by show 2 ≤ sizeLine; decide, [.int i tk, y], .cons ⟨_, rfl⟩ (.cons ru .nil), ⟨_, hT2, rfl, _, rfl⟩⟩
    have J : Inv X pins σ (upd H s.heap.objs.size (.tup [.int (i : Nat), x])) { s with heap := h2, toks := tk + 1 } :=
      I.turnedNew (ch := [e, it]) (fun b ob nb q => by
        have n1 : b ≠ e := fun z => nb (by rw [z]; exact List.mem_cons_self)
        have n2 : b ≠ it := fun z => nb (by rw [z]; exact List.mem_cons_of_mem _ List.mem_cons_self)
        exact (sb.2 b n1).trans (old1 b ob n1 n2 q)) free (Nat.le_refl _) obj
    refine ⟨.ref s.heap.objs.size, _, J, rfl, ⟨_, x, rfl, I.hok.fresh (Nat.le_refl _), rfl, fun ys hy' => by rw [I.tuple_inj hy' hx]; exact gx⟩, ⟨⟨y, ?_⟩, st1.1.at fun o q => (sb.2 it ne.symm).trans q, ne, na, nea⟩, fun b hb => ?_⟩
    · rw [show ((i + 1 : Nat) : Int) = (i : Int) + 1 by omega]
      exact en
    · have lb : b < s.heap.objs.size := by
        rcases pair_mem hb with rfl | rfl
        · exact be
        · exact bi
      rw [upd_ne (Nat.ne_of_lt lb)]
      exact (free b hb).1
  done := by
    intro X eP ew eK calm i pins s σ H E I free st stop
    subst eP ew eK
    obtain ⟨⟨old, he⟩, hi, ne, na, nea⟩ := st
    obtain ⟨xs, hx, lx⟩ := stop
    obtain ⟨its, rv, pT, _⟩ := I.tuple hx
    have hh : X.A.handled = none := I.ok.hd calm
    have D := Draws.tuple (prog := X.prog) (w := X.w) (A := X.A.in1) hh it a na its.toArray
    have ei : its.toArray.size = i := by rw [List.size_toArray, ← rv.length, lx]
    obtain ⟨f0, f1, f2, f3, f4, f5⟩ := free it (List.mem_cons_of_mem _ List.mem_cons_self)
    exact wpAny_pyNext_enum_endD D he ⟨by rw [ei]; exact hi, show s.heap.IsTuple a its.toArray from pT⟩ fun h2 old1 => ⟨rfl, I.turned (t' := s.toks) (fun b o nb q => old1 b o nb q) f0 f1 f3 f4 f5⟩
  self := fun A i s Q E st h => by
    obtain ⟨⟨_, he⟩, _⟩ := st
    exact wpAny_pyIter_enum he h
def iEnumT (K : PySem.W.Frag) (ta : TA) : TI := fun σ H R => ta σ H fun vs H1 => ∃ a xs, vs = [.ref a] ∧ SqT K H1 a xs ∧ R (ItE K a) H1
theorem pi_enumT {X : Cx} {e : Expr} {ta : TA} {p pos tpos : Pos} {es : List Expr} {k : Nat} (hg : Gl X "enumerate") (hm : X.mg "enumerate" = none) (ha : PA X [e] ta) (hs : starEach [e] X.env = [(false, eval e X.env)] := by rfl) :
    PI X (.Tuple es k tpos) (.Call (.Name "enumerate" p) [e] [] pos) (iEnumT X.K ta) := by
  refine ⟨fun pins s σ H R I h => PyProof.Rows.Call_ (ld_blt I hg hm PyProof.Rows.boot_enumerate (PyProof.Rows.callWith_type1 (thn (ha.run pos pins s σ H _ I h) fun us s1 hz => ?_) hs rfl))⟩
  obtain ⟨vs, H1, I1, rs, a, xs, rfl, hx, q⟩ := hz
  cases rs with
  | cons r rest =>
    cases rest
    cases r
    obtain ⟨its, rv, pT, _⟩ := I1.tuple hx
    have la : a < s1.heap.objs.size := pT.lt
    refine call_enum_any (begins_tuple a its.toArray) (show s1.heap.IsTuple a its.toArray from pT) fun h2 en gi old => wpAny_pyIter_enum en ?_
    have J : Inv X pins σ H1 { s1 with heap := h2 } := I1.kept (t' := s1.toks) old
    have na : a ≠ s1.heap.objs.size := Nat.ne_of_lt la
    have nea : s1.heap.objs.size + 1 ≠ a := Nat.ne_of_gt (Nat.lt_succ_of_lt la)
    refine ⟨_, [s1.heap.objs.size + 1, s1.heap.objs.size], _, _, H1, rfl, J, turn_enumT a (s1.heap.objs.size + 1) s1.heap.objs.size, ⟨⟨.none, en⟩, ⟨_, gi, rfl, rfl⟩, Nat.succ_ne_self _, na, nea⟩, fun b hb => ?_, q⟩
    have lb : s1.heap.objs.size ≤ b := by
      rcases pair_mem hb with rfl | rfl
      · exact Nat.le_succ _
      · exact Nat.le_refl _
    exact I1.fpOk lb (I1.hok.fresh lb)
/-! ### an empty tuple and another one -/
def rCat0 (K : PySem.W.Frag) : R2 := fun x y H Q => ∃ a b ys, x = .ref a ∧ y = .ref b ∧ SqT K H a [] ∧ SqT K H b ys ∧ Q (.ref b) H
theorem op_cat0 {X : Cx} : OpR X (binaryOp .Add) (rCat0 X.K) := by
  intro pins s σ H x y v u Q I rx ry h
  obtain ⟨a, b, ys, rfl, rfl, ha, hb, q⟩ := h
  cases rx
  cases ry
  obtain ⟨i1, r1, p1, _⟩ := I.tuple ha
  obtain ⟨i2, r2, p2, _⟩ := I.tuple hb
  cases r1
  obtain ⟨⟨c1, d1, t1, l1⟩, g1, e1, n1, f1⟩ := id p1
  obtain ⟨⟨c2, d2, t2, l2⟩, g2, e2, n2, f2⟩ := id p2
  simp only at e1 f1 e2 f2
  subst e1 f1 e2 f2
  exact PySem.concat_meets ⟨_, g1, rfl⟩ ⟨_, g2, rfl⟩ PySem.noFill_tuple_add PySem.seq_tuple_add PySem.F.slot_tuple_add PySem.F.entry_tuple_add (PySem.F.args_tuple_add_2 _ _)
    (PyProof.Rows.tuple_addW0 a b #[] i2.toArray n1 n2 d1 d2 l1 l2 rfl) ⟨g1, g2, ⟨.ref b, H, I, rfl, q⟩⟩
/-- t + u -/
def rCatA (K : PySem.W.Frag) : R2 := fun x y H Q => rCatT K x y H Q ∨ rCat0 K x y H Q
theorem op_catA {X : Cx} : OpR X (binaryOp .Add) (rCatA X.K) := op_catT.or op_cat0
end PKR
/-! a try with several clauses 'except X as n', every one with its own suite -/
namespace L2.PKR
open PySem PySem.Spec PyProof.Rows
abbrev Suite := Addr → Value → Option Addr → TS
/-- the ends of a suite whose name is given back -/
def offEnds (i : Nat) (D : Ends) : Ends := ⟨fun p q => D.nx (p.set i none) q, D.rt, fun p q => D.bk (p.set i none) q, fun p q => D.ct (p.set i none) q⟩
/-- the wish of the clauses, in their order -/
def wRow (K : PySem.W.Frag) (Wout : WX) (D : Ends) : List (Value × Nat × Suite) → WX
  | [] => Wout
  | (c, i, ts) :: rest => fun cls d σ H =>
    ∃ yes, PySem.W.exmOne K cls c = some yes ∧ (yes = true → ∀ a, H a = none → ts a cls d (offEnds i D) (σ.set i (some (.ref a))) H) ∧ (yes = false → wRow K Wout D rest cls d σ H)
/-- the exception at a, caught and on the ground -/
structure Down (X : Cx) (pins : List (Addr × Obj)) (B : Heap) (a : Addr) (before : Shared) (σ : St) (H : Hp) (cls : Value) (d : Option Addr) (s : Shared) : Prop where
  inv : Inv X pins σ H before
  base : ∀ b o, before.heap.get? b = some o → b ∉ frs X.stack → B.get? b = some o
  slots : before.heap.UpToSlots s.heap
  fly : HandSPX.FlyingZ B (X.env :: X.outer) a (Zc cls d) s.heap
  out : H a = none
  os : s.os = before.os
  bare : AllBare s.gens
section
variable {X : Cx} {pins : List (Addr × Obj)} {B : Heap} {a : Addr} {before s : Shared} {σ : St} {H : Hp} {cls : Value} {d : Option Addr} {D : Ends} {Wout : WX}
theorem Down.here (z : Down X pins B a before σ H cls d s) : Inv X pins σ H s := z.inv.landed z.base z.fly.1 z.slots z.os z.bare
/-- its object, and that it is none of the frames' -/
theorem Down.obj (hf : X.env.frame = some X.env.locals) (z : Down X pins B a before σ H cls d s) : ∃ oe vs, s.heap.get? a = some oe ∧ Zc cls d oe ∧ oe.data = .fields vs ∧ a ≠ X.env.locals ∧ a ∉ X.fs := by
  obtain ⟨oe, vs, he, hz, hd⟩ := z.fly.there
  have nfr : a ∉ frs (X.env :: X.outer) := fun hm => by
    obtain ⟨_, o2, e2, no⟩ := z.fly.2.2.1.mem hm
    rw [he] at e2
    cases e2
    exact no _ hd
  refine ⟨oe, vs, he, hz, hd, fun q => nfr (List.mem_filterMap.mpr ⟨X.env, .head _, by rw [hf, q]⟩), fun q => ?_⟩
  obtain ⟨en, m, r⟩ := List.mem_filterMap.mp q
  exact nfr (List.mem_filterMap.mpr ⟨en, .tail _ m, r⟩)
theorem Down.more (z : Down X pins B a before σ H cls d s) {h : Heap} (fl : HandSPX.FlyingZ B (X.env :: X.outer) a (Zc cls d) h) (up : s.heap.UpToSlots h) : Down X pins B a before σ H cls d { s with heap := h } :=
  ⟨z.inv, z.base, z.slots.trans up, fl, z.out, z.os, z.bare⟩
/-- no clause is left -/
theorem row_nil (hs : X.stack = X.env :: X.outer) (hf : X.env.frame = some X.env.locals) (tk : Takes X Wout) (z : Down X pins B a before σ H cls d s) (w : Wout cls d σ H) :
    wpAny (model X.prog X.w) X.A (handleBy (.ref a) X.env []) (SP X pins D) X.xe s := by
  refine wpAny_handleBy_nil ?_
  obtain ⟨_, _, _, oe, vs, T, _, _, he, _, hd, h1, _⟩ := id z.fly
  unfold PySem.passOn
  refine wpAny_bind (wpAny_field he hd h1 ?_)
  rw [if_neg (show ¬ ((Value.ref T == Value.none) = true) by simp)]
  have last : wpAny (model X.prog X.w) X.A (setFlight (.ref a) X.env.frame) (fun _ s2 => wpAny (model X.prog X.w) X.A (throw (.ref a) : Sem Flow) (SP X pins D) X.xe s2) X.xe s := by
    rw [hf]
    refine HandSPX.setFlight_upZ z.fly fun h2 held up => wpAny_throw (tk _ _ ?_)
    exact ⟨a, B, before, pins, σ, H, cls, d, rfl, z.inv, z.base, z.slots.trans up, .inr (.inr (by rw [hs]; exact held)), z.out, z.os, z.bare, w⟩
  first
    | exact wpAny_bind (wpAny_pure (wpAny_bind last))
    | exact wpAny_bind last
/-- one clause -/
theorem row_cons {x n : Str} {c : Value} {i : Nat} {b₀ : Stmt} {more : List Stmt} {np pos : Pos} {ts : Suite} {hds : List ExceptHandler} {yes : Bool} (hf : X.env.frame = some X.env.locals) (hN : X.N.Nodup) (hi : X.N[i]? = some n)
    (hl : X.env.kindOf n = some .local) (hc : Names X x c)
    (body : ∀ (a : Addr) (oe : Obj) (cls : Value) (d : Option Addr) (pn : List (Addr × Obj)), Zc cls d oe → (∃ vs, oe.data = .fields vs) → PSs (X.suite a ((a, oe) :: pn)) (b₀ :: more) (ts a cls d))
    (z : Down X pins B a before σ H cls d s) (hy : PySem.W.exmOne X.K cls c = some yes) (t : yes = true → ts a cls d (offEnds i D) (σ.set i (some (.ref a))) H)
    (f : yes = false → wpAny (model X.prog X.w) X.A (handleBy (.ref a) X.env hds) (SP X pins D) X.xe s) :
    wpAny (model X.prog X.w) X.A (handleBy (.ref a) X.env (.ExceptHandler (some (.Name x np)) (some n) (b₀ :: more) pos :: hds)) (SP X pins D) X.xe s := by
  have ok := z.inv.ok
  obtain ⟨oe, vs, he, hz, hd, nL, nF⟩ := z.obj hf
  have S := z.here.suite he hd z.out nL nF
  refine wpAny_handleBy_cons (codeAny_handlers_test ?_) (fun q => nomatch q)
  have ty : PySem.W.Looks (model X.prog X.w) s.heap (typeOf (.ref a)) cls := fun _ _ _ _ k q => wpAny_typeOf_ref (k _ _ he) (by rw [hz.1]; exact q)
  have isIt := PySem.W.exm_one (M := model X.prog X.w) z.here.kIn ty hy
  have named : ∀ {Q E : Value → Shared → Prop}, Q c s → wpAny (model X.prog X.w) (X.A.mark (some (.ref a))) (eval (.Name x np) X.env) Q E s := fun {Q E} q => by
    obtain ⟨hg, nd, hm | ⟨hm, hv, hn⟩⟩ := hc
    · exact ld_glob (X := X.suite a ((a, oe) :: (X.pn ++ pins))) S hg hm q nd
    · exact ld_blt (X := X.suite a ((a, oe) :: (X.pn ++ pins))) S hg hm hv q hn nd
  refine named (isIt.here ?_)
  cases yes with
  | false => exact f rfl
  | true =>
    refine codeAny_handlers_suite_as (HandSPX.lands_againZ z.fly fun h2 fl up => ?_)
    have z2 := z.more fl up
    obtain ⟨oe2, vs2, he2, hz2, hd2, nL2, nF2⟩ := z2.obj hf
    refine store_ok (X := X.suite a ((a, oe2) :: (X.pn ++ pins))) (v := .ref a) (z2.here.suite he2 hd2 z.out nL2 nF2) hN hi (.inl hl) rfl (fun s3 S3 => ?_) (.inr hl)
    have run := (body a oe2 cls d (X.pn ++ pins) hz2 ⟨_, hd2⟩).run [] s3 (σ.set i (some (.ref a))) H (offEnds i D) S3 (t rfl)
    have gone : ∀ {p : St} {q : Hp} {s4 : Shared} {Q : Shared → Prop}, Inv (X.suite a ((a, oe2) :: (X.pn ++ pins))) [] p q s4 → (∀ s5, Inv X pins (p.set i none) q s5 → Q s5) →
        wpAny (model X.prog X.w) X.A (do bindName X.env n .none; unbindBehindTheSuite X.env n pos) (fun _ s5 => Q s5) X.xe s4 := fun S4 k => gone_ok (S4.unsuite ok) hN hi hl k
    refine wpAny_mono run (fun fl4 s4 done => ?_) (fun _ _ no => False.elim no)
    rcases fl4 with _ | _ | _ | u
    · obtain ⟨p, q, S4, k⟩ := done
      exact gone S4 fun s5 J => ⟨_, _, J, k⟩
    · obtain ⟨p, q, S4, k⟩ := done
      exact gone S4 fun s5 J => ⟨_, _, J, k⟩
    · obtain ⟨p, q, S4, k⟩ := done
      exact gone S4 fun s5 J => ⟨_, _, J, k⟩
    · obtain ⟨v, p, q, S4, r, k⟩ := done
      exact gone S4 fun s5 J => ⟨_, _, _, J, r, k⟩
end
/-- the clauses and their wishes -/
inductive Row (X : Cx) : List ExceptHandler → List (Value × Nat × Suite) → Prop
  | nil : Row X [] []
  | cons {x n : Str} {c : Value} {i : Nat} {b₀ : Stmt} {more : List Stmt} {np pos : Pos} {ts : Suite} {hds : List ExceptHandler} {l : List (Value × Nat × Suite)} (hi : X.N[i]? = some n) (hl : X.env.kindOf n = some .local) (hc : Names X x c)
      (body : ∀ (a : Addr) (oe : Obj) (cls : Value) (d : Option Addr) (pn : List (Addr × Obj)), Zc cls d oe → (∃ vs, oe.data = .fields vs) → PSs (X.suite a ((a, oe) :: pn)) (b₀ :: more) (ts a cls d)) (r : Row X hds l) :
      Row X (.ExceptHandler (some (.Name x np)) (some n) (b₀ :: more) pos :: hds) ((c, i, ts) :: l)
theorem row_runs {X : Cx} {pins : List (Addr × Obj)} {B : Heap} {a : Addr} {before s : Shared} {σ : St} {H : Hp} {cls : Value} {d : Option Addr} {D : Ends} {Wout : WX} (hs : X.stack = X.env :: X.outer) (hf : X.env.frame = some X.env.locals) (hN : X.N.Nodup) (tk : Takes X Wout)
    {hds : List ExceptHandler} {l : List (Value × Nat × Suite)} (hh : Row X hds l) (z : Down X pins B a before σ H cls d s) (w : wRow X.K Wout D l cls d σ H) : wpAny (model X.prog X.w) X.A (handleBy (.ref a) X.env hds) (SP X pins D) X.xe s := by
  induction hh with
  | nil => exact row_nil hs hf tk z w
  | cons hi hl hc body r ih =>
    obtain ⟨yes, hy, t, f⟩ := w
    exact row_cons hf hN hi hl hc body z hy (fun e => t e a z.out) fun e => ih (f e)
theorem ps_try_row {X : Cx} {body : List Stmt} {h₀ : ExceptHandler} {hds : List ExceptHandler} {l : List (Value × Nat × Suite)} {pos : Pos} {tb : WX → TS} {Wout : WX} (hs : X.stack = X.env :: X.outer) (hf : X.env.frame = some X.env.locals) (hN : X.N.Nodup) (tk : Takes X Wout)
    (hb : ∀ (W : WX) (pn : List (Addr × Obj)) (xe : Value → Shared → Prop), Takes (X.tr pn xe) W → PassesOwn (model X.prog X.w) X.A X.env xe → PSs (X.tr pn xe) body (tb W))
    (hh : Row X (h₀ :: hds) l) : PS X (.Try body (h₀ :: hds) [] [] pos) (fun D σ H => tb (wRow X.K Wout D l) D σ H) := by
  refine ⟨fun pins s σ H D I h => wpAny_Try_except ?_⟩
  have ok := I.ok
  have fr : X.A.frames = some (X.env :: X.outer) := by rw [ok.frames, hs]
  have inner := hb (wRow X.K Wout D l) (X.pn ++ pins)
    (fun e s1 => wpAny (model X.prog X.w) X.A (noteFrame e X.env) (fun _ s2 => wpAny (model X.prog X.w) X.A (setFlight e none) (fun _ s3 => wpAny (model X.prog X.w) X.A (handleBy e X.env (h₀ :: hds)) (SP X pins D) X.xe s3) X.xe s2) X.xe s1)
    (fun u s1 air => by
      obtain ⟨a, B, before, pins1, p, q, cls, d, rfl, J, base, up, sky, out, os, bare, w⟩ := air
      have J1 : Inv X pins p q before := J.ofTry ok
      refine Sky.land Zc.steady fr hf (show Sky B (X.env :: X.outer) a (Zc cls d) X.env.locals s1.heap by rw [← hs]; exact sky) fun h2 fl up2 => ?_
      exact row_runs hs hf hN tk hh (s := { s1 with heap := h2 }) ⟨J1, base, up.trans up2, fl, out, os, bare⟩ w)
    PassesOwn.looking
  refine wpAny_mono (inner.run [] s σ H D (I.toTry _) h) (fun f s1 done => ?_) (fun _ _ k => k)
  rcases f with _ | _ | _ | u
  · obtain ⟨p, q, J, k⟩ := done
    exact wpAny_execs_nil ⟨p, q, J.ofTry ok, k⟩
  · obtain ⟨p, q, J, k⟩ := done
    exact ⟨p, q, J.ofTry ok, k⟩
  · obtain ⟨p, q, J, k⟩ := done
    exact ⟨p, q, J.ofTry ok, k⟩
  · obtain ⟨v, p, q, J, r, k⟩ := done
    exact ⟨v, p, q, J.ofTry ok, r, k⟩
end L2.PKR
/-! isinstance(e, C), e a caught error of an own class with fields -/
namespace L2.PKR
open PySem PySem.Spec PyProof.Rows
def rIsX (K : PySem.W.Frag) (a : Addr) (cls : Value) (d : Option Addr) : List V → Hp → VK → Prop := fun xs H Q =>
  ∃ (c : V) (cv : Value) (yes : Bool) (D dd : Addr) (fs : List (Str × V)), xs = [.ref a, c] ∧ (∀ u, RelV c u → u = cv) ∧ cls = .ref D ∧ d = some dd ∧ H dd = some (.xd fs) ∧ ExcC K D ∧ PySem.W.kitOne K (.ref D) cv = some yes ∧ Q (.bl yes) H
theorem call_isX {X : Cx} {a : Addr} {oe : Obj} {cls : Value} {d : Option Addr} {pn : List (Addr × Obj)} (hz : Zc cls d oe) (hf : ∃ vs, oe.data = .fields vs) : CallR (X.suite a ((a, oe) :: pn)) (.builtin "isinstance") (rIsX X.K a cls d) := by
  intro pins s σ H xs us Q I r h
  obtain ⟨c, cv, yes, D, dd, fs, rfl, hcv, rfl, rfl, hx, C, hk, q⟩ := h
  rcases r with _ | ⟨rx, rr⟩
  rcases rr with _ | ⟨rc, rr⟩
  cases rr
  cases rx
  cases hcv _ rc
  have at_a := (I.pin (a, oe) (List.mem_append_left _ (.head _))).1
  obtain ⟨vs, hd⟩ := hf
  obtain ⟨mA, hns, _⟩ := (show ObjOk X.prog X.w H s.heap dd (.xd fs) from I.hok dd _ hx)
  obtain ⟨od, ho, _⟩ := lookIn_ns hns
  have J : PySem.W.InstAt s.heap a oe D (some od) := ⟨at_a, hz.1, by unfold PySem.W.notCls; rw [hd] <;> rfl, by rw [hz.2]; exact ho⟩
  obtain ⟨cd, hcd, _⟩ := PySem.W.any_some C.hd
  exact PySem.W.kia_one (PySem.W.kitx_exc (by rw [hcd]; rfl) C.hg C.hk C.hs C.ha C.hn C.ht C.hm) I.kIn J hk (fun e => nomatch e) fun tk => ⟨.bl yes, H, I.kept (t' := tk) fun _ _ k => k, rfl, q⟩
end L2.PKR
namespace PK
open PySem L2
def topS (i : Nat) : Stmt := PySem.Challenge.pw_passproven_k11_conditions_read.main.body.getD i (.Pass ⟨0, 0, 0, 0⟩)
/-- xs[j] of a name -/
theorem vIx {K : PySem.W.Frag} {σ : L2.St} {H : Hp} {Q : VK} {i : Nat} {p : Addr} {xs : List V} {j : Int} {v : V} (h : σ[i]? = some (some (.ref p))) (hl : H p = some (.lst xs)) (ha : atI xs j = some v) (q : Q v H) :
    tOp (rIxL K) (tVar i) (tC (.int j)) σ H Q := ⟨_, h, p, xs, j, v, rfl, rfl, SqL.of hl, ha, q⟩
structure Txt (K : PySem.W.Frag) (mg : Str → Option Value) : Prop where
  z_len : mg "len" = none
  z_int : mg "int" = none
  z_range : mg "range" = none
  z_min : mg "min" = none
  z_str : mg "str" = none
  z_tuple : mg "tuple" = none
  z_sorted : mg "sorted" = none
  z_isinstance : mg "isinstance" = none
  z_any : mg "any" = none
  z_all : mg "all" = none
  z_list : mg "list" = none
  z_bool : mg "bool" = none
/-- all but what stands at l is as it was -/
def Keep (l : Addr) (H H' : Hp) : Prop := ∀ b o, b ≠ l → H b = some o → H' b = some o
def PoolR (H : Hp) (l c : Addr) (pos : Prop) : Prop := ∃ (ns : List Int) (i r s : Int), H l = some (.lst [.ref c, .int i, .int r, .int s]) ∧ H c = some (.lst (ns.map V.int)) ∧ c ≠ l ∧ (∀ n ∈ ns, 0 ≤ n) ∧ 0 ≤ i ∧ 0 ≤ r ∧ 0 ≤ s ∧ s < 2147483647 ∧ (pos → 0 < r)
abbrev Pool (H : Hp) (l c : Addr) : Prop := PoolR H l c False
/-- from H to H' the pool at l was drawn from, all else is kept -/
structure Ext (l c : Addr) (H H' : Hp) : Prop where
  keep : Keep l H H'
  pool : Pool H' l c
theorem Pool.ne {H : Hp} {l c p : Addr} (P : Pool H l c) (h : H p = none) : p ≠ l ∧ p ≠ c := by
  obtain ⟨ns, i, r, s, hl, hc, _⟩ := P
  exact ⟨(ne_of_none hl h).symm, (ne_of_none hc h).symm⟩
theorem Pool.upd {H : Hp} {l c p : Addr} {o : HO} (P : Pool H l c) (h1 : p ≠ l) (h2 : p ≠ c) : Pool (upd H p o) l c := by
  obtain ⟨ns, i, r, s, hl, hc, z⟩ := P
  exact ⟨ns, i, r, s, by rw [upd_ne h1.symm]; exact hl, by rw [upd_ne h2.symm]; exact hc, z⟩
theorem Ext.refl {l c : Addr} {H : Hp} (P : Pool H l c) : Ext l c H H := ⟨fun _ _ _ h => h, P⟩
theorem Ext.trans {l c : Addr} {H H1 H2 : Hp} (x : Ext l c H H1) (y : Ext l c H1 H2) : Ext l c H H2 := ⟨fun b o hb h => y.keep b o hb (x.keep b o hb h), y.pool⟩
/-- what was free ahead of the draws was free -/
theorem Ext.free {l c p : Addr} {H H' : Hp} (x : Ext l c H H') (P : Pool H l c) (h : H' p = none) : H p = none := by
  cases e : H p with
  | none => rfl
  | some o =>
    by_cases hb : p = l
    · subst hb
      obtain ⟨ns, i, r, s, hl, _⟩ := x.pool
      rw [hl] at h; cases h
    · rw [x.keep p o hb e] at h; cases h
theorem Ext.upd {l c p : Addr} {H H' : Hp} {o : HO} (x : Ext l c H H') (P : Pool H l c) (h : H p = none) : Ext l c H (L2.upd H' p o) :=
  ⟨fun b u hb hu => by rw [upd_ne (ne_of_none hu h)]; exact x.keep b u hb hu, x.pool.upd (P.ne h).1 (P.ne h).2⟩
theorem Ext.new {l c p : Addr} {H H' : Hp} {o : HO} (x : Ext l c H H') (P : Pool H l c) (h : H' p = none) : Ext l c H (L2.upd H' p o) := x.upd P (x.free P h)
theorem Ext.seqT {l c a : Addr} {K : PySem.W.Frag} {H H' : Hp} {xs : List V} (x : Ext l c H H') (P : Pool H l c) (h : SqT K H a xs) : SqT K H' a xs := by
  have nl : ∀ {o : HO}, H a = some o → (∀ ys, o ≠ .lst ys) → a ≠ l := fun e d z => by
    subst z
    obtain ⟨ns, i, r, s, hl, _⟩ := P
    rw [hl] at e; cases e
    exact d _ rfl
  rcases h with (h | ⟨o, h⟩) | h
  · exact .inl (.inl (x.keep _ _ (nl h (fun _ => HO.noConfusion)) h))
  · exact .inl (.inr ⟨o, x.keep _ _ (nl h (fun _ => HO.noConfusion)) h⟩)
  · exact .inr h
def spTake (n : Nat) : Sp := fun vs H Q _ => ∃ (l c : Addr) (m : Int) (p : Prop), vs = [.ref l, .int m] ∧ PoolR H l c p ∧ 0 < m ∧ m < 18446744073709551616 ∧ (2 ≤ n ∨ (1 ≤ n ∧ p)) ∧
  ∀ (d : Int) (H' : Hp), 0 ≤ d → d < m → Ext l c H H' → Q (.int d) H'
theorem vTake {σ : L2.St} {H : Hp} {Q : VK} {i : Nat} {m : Int} {l c : Addr} (h : σ[i]? = some (some (.ref l))) (P : Pool H l c) (h0 : 0 < m) (hm : m < 18446744073709551616)
    (q : ∀ (d : Int) (H' : Hp), 0 ≤ d → d < m → Ext l c H H' → Q (.int d) H') : tCall (spTake 2) [] E0 (tCons (tVar i) (tCons (tC (.int m)) tNil)) σ H Q :=
  ⟨_, h, l, c, m, False, rfl, P, h0, hm, .inl (Nat.le_refl 2), q⟩
section
variable {P : Program} {w : World} {K : PySem.W.Frag} {mg : Str → Option Value} {base : Heap}
abbrev s_law_take : Stmt := topS 40
theorem sc_law_take : FnScope ["pool", "many", "digit", "cell", "mixed"] ["pool", "many"] (defScope s_law_take) := ⟨rfl, rfl, rfl, by decide +kernel, rfl, by decide +kernel, by decide +kernel⟩
-- slots: 0:pool 1:many 2:digit 3:cell 4:mixed
theorem ok_take {n : Nat} {f : Addr} {fd : FuncData} (F : Fun K "_law_take" "_law_take" s_law_take f fd) (T : Txt K mg) (C_law_take : C8.Cal P w K mg base n "_law_take" (spTake n) []) :
    FnOk P w K mg base CX0 (n + 1) f fd ["pool", "many"] (spTake (n + 1)) := by
  refine F.ok sc_law_take (fun vs H Q E h => ?_) (fun cdv A outer s H vs Q E hr h => ?_)
  · obtain ⟨l, c, m, p, rfl, _⟩ := h
    rfl
  obtain ⟨l, c, m, p, rfl, ⟨ns, i, r, st, hl, hc, hcl, hns, hi, h0r, hs, hs2, hp⟩, hm, hm2, hn, q⟩ := h
  have hk : n ≤ n := Nat.le_refl n
  refine ⟨_, (pss_cons (ps_if (pt_cmpR op_gt (pe_ix ix_list (pv 0) pe_int (fun _ _ => rfl)) pe_int (nomark _)) (pss_cons (ps_set (i := 2) sc_law_take.nd rfl (Or.inl rfl) (pe_op op_mod (pe_callTy call_int1 (by rfl) T.z_int (by decide +kernel) (pa_cons (pe_ix ix_list (pv 0) pe_int (fun _ _ => rfl)) pa_nil)) (pv 1)))
    (pss_cons (ps_asg (pe_op op_fdivW (pe_ix ix_list (pv 0) pe_int (fun _ _ => rfl)) (pv 1)) (pg_sub (pv 0) pe_int set_list))
    (pss_one (ps_ret (pv 2))))) pss_nil)
    (pss_cons (ps_set (i := 3) sc_law_take.nd rfl (Or.inl rfl) pe_int)
    (C8.pss_cut (ps_if (pt_cmpR op_lt (pe_ix ix_list (pv 0) pe_int (fun _ _ => rfl)) (pe_callB call_len_seq (by rfl) T.z_len (by decide +kernel) (pa_cons (pe_ix ix_list (pv 0) pe_int (fun _ _ => rfl)) pa_nil)) (nomark _)) (pss_one (ps_set (i := 3) sc_law_take.nd rfl (Or.inl rfl) (pe_ix ix_list (pe_ix ix_list (pv 0) pe_int (fun _ _ => rfl)) (pe_ix ix_list (pv 0) pe_int (fun _ _ => rfl)) (fun _ _ => rfl)))) pss_nil)
    (pss_cons (ps_asg (pe_op op_add (pe_ix ix_list (pv 0) pe_int (fun _ _ => rfl)) pe_int) (pg_sub (pv 0) pe_int set_list))
    (pss_cons (ps_if (pt_cmpR op_ge (pv 3) (pe_op op_pow pe_int pe_int) (nomark _)) (pss_cons (ps_asg (pe_op op_fdivW (pv 3) pe_int) (pg_sub (pv 0) pe_int set_list))
    (pss_one (ps_ret (C8.pe_c C_law_take hr hk rfl (pa_cons (pv 0) (pa_cons (pv 1) pa_nil)))))) pss_nil)
    (pss_cons (ps_asg (pe_op op_mod (pe_callTy call_int1 (by rfl) T.z_int (by decide +kernel) (pa_cons (pe_op op_add (pe_op op_add (pe_op op_mul (pe_ix ix_list (pv 0) pe_int (fun _ _ => rfl)) pe_int) (pe_op op_mul (pv 3) pe_int)) (pe_op op_mul (pe_ix ix_list (pv 0) pe_int (fun _ _ => rfl)) pe_int)) pa_nil)) pe_int) (pg_sub (pv 0) pe_int set_list))
    (pss_cons (ps_set (i := 4) sc_law_take.nd rfl (Or.inl rfl) (pe_op op_mod (pe_callTy call_int1 (by rfl) T.z_int (by decide +kernel) (pa_cons (pe_op op_add (pe_op op_add (pe_op op_mul (pe_ix ix_list (pv 0) pe_int (fun _ _ => rfl)) (pe_ix ix_list (pv 0) pe_int (fun _ _ => rfl))) (pe_op op_mul (pe_ix ix_list (pv 0) pe_int (fun _ _ => rfl)) pe_int)) pe_int) pa_nil)) pe_int))
    (pss_one (ps_ret (pe_op op_mod (pe_callTy call_int1 (by rfl) T.z_int (by decide +kernel) (pa_cons (pe_op op_fdivW (pv 4) pe_int) pa_nil)) (pv 1))))))))))), ?_⟩
  have lgm : m.natAbs.log2 < 9000 := (wide_div (i := 0) (b := 64) hm (by rw [show (2 : Nat) ^ 64 = 18446744073709551616 from rfl]; omega) (by decide) (by decide)).2
  have lg2 : (2 : Int).natAbs.log2 < 9000 := by decide
  have ext : ∀ i' r' s' : Int, 0 ≤ i' → 0 ≤ r' → 0 ≤ s' → s' < 2147483647 → ∀ pp : Prop, (pp → 0 < r') → Keep l H (upd H l (.lst [.ref c, .int i', .int r', .int s'])) ∧ PoolR (upd H l (.lst [.ref c, .int i', .int r', .int s'])) l c pp := fun i' r' s' h1 h2 h3 h4 pp hpp =>
    ⟨fun b o hb hbo => by rw [upd_ne hb]; exact hbo, ns, i', r', s', upd_same, by rw [upd_ne hcl]; exact hc, hcl, hns, h1, h2, h3, h4, hpp⟩
  -- pool[2] > 0
  refine vIx rfl hl rfl ⟨_, _, rfl, rfl, _, rfl, ?_⟩
  refine ite2 (fun e => ?_) (fun e => ?_)
  · have e' : 0 < r := of_decide_eq_true e
    refine ⟨_, rfl, l, _, _, _, rfl, rfl, SqL.of hl, rfl, .inl ⟨_, rfl, _, rfl, _, _, rfl, rfl, hm, ?_⟩⟩
    refine vIx rfl hl rfl ⟨_, rfl, _, _, rfl, rfl, ⟨hm, lgm⟩, ?_⟩
    refine ⟨_, rfl, l, _, 2, 2, rfl, rfl, hl, rfl, _, rfl, ?_⟩
    have z := ext i (r / m) st hi (Int.ediv_nonneg h0r (by omega)) hs hs2 False False.elim
    exact q _ _ (Int.emod_nonneg _ (by omega)) (Int.emod_lt_of_pos _ hm) ⟨z.1, z.2⟩
  · have e0 : r = 0 := by have := of_decide_eq_false (Bool.eq_false_iff.mpr e); omega
    subst e0
    have n2 : 1 ≤ n := by
      rcases hn with hn | ⟨_, hn⟩
      · omega
      · exact absurd (hp hn) (by omega)
    refine ⟨fun σ' H' => ∃ z : Int, 0 ≤ z ∧ σ' = [some (.ref l), some (.int m), none, some (.int z), none] ∧ H' = H, ?_, ?_⟩
    · refine vIx rfl hl rfl (vIx rfl hl rfl ⟨c, _, rfl, .inl (SqL.of hc), _, _, rfl, rfl, _, rfl, ?_⟩)
      refine ite2 (fun e1 => ?_) (fun e1 => ⟨0, by omega, rfl, rfl⟩)
      have e1' : i < ((ns.map V.int).length : Nat) := of_decide_eq_true e1
      rw [List.length_map] at e1'
      obtain ⟨j, rfl⟩ : ∃ j : Nat, i = j := ⟨i.toNat, by omega⟩
      have hj : j < ns.length := by omega
      have g : (ns.map V.int)[j]? = some (.int ns[j]) := by rw [List.getElem?_map, List.getElem?_eq_getElem hj]; rfl
      refine vIx rfl hl rfl (vIx rfl hl rfl ⟨c, _, _, _, rfl, rfl, SqL.of hc, atI_nat g, ?_⟩)
      exact ⟨_, hns _ (List.getElem_mem hj), rfl, rfl⟩
    · rintro σ' H' ⟨z, hz, rfl, rfl⟩
      refine vIx rfl hl rfl ⟨_, _, rfl, rfl, _, rfl, l, _, 1, 1, rfl, rfl, hl, rfl, ?_⟩
      refine ⟨_, rfl, _, _, rfl, rfl, ⟨by decide, by decide, by decide⟩, _, _, rfl, rfl, _, rfl, ?_⟩
      refine ite2 (fun e1 => ?_) (fun e1 => ?_)
      · have e1' : (10 : Int) ^ 18 ≤ z := of_decide_eq_true e1
        refine ⟨_, rfl, _, _, rfl, rfl, ⟨by decide, lg2⟩, _, rfl, l, _, 2, 2, rfl, rfl, upd_same, rfl, ?_⟩
        refine ⟨_, rfl, _, rfl, ?_⟩
        have zz := ext (i + 1) (z / 2) st (by omega) (Int.ediv_nonneg hz (by omega)) hs hs2 True (fun _ => by omega)
        refine ⟨l, c, m, True, rfl, ?_, hm, hm2, .inr ⟨n2, trivial⟩, fun d H' h1 h2 x => q d H' h1 h2 ⟨?_, x.pool⟩⟩
        · show PoolR (upd (upd H' l _) l _) l c True
          rw [upd_upd]
          exact zz.2
        · intro b o hb hbo
          refine x.keep b o hb ?_
          show upd (upd _ l _) l _ b = _
          rw [upd_upd, upd_ne hb]
          exact hbo
      · have c1 : CMul st 48271 := .inr ⟨by decide, by decide⟩
        have c2 : CMul z 69621 := .inr ⟨by decide, by decide⟩
        have c3 : CMul (i + 1) 613 := .inr ⟨by decide, by decide⟩
        refine vIx rfl upd_same rfl ⟨_, _, rfl, rfl, c1, _, rfl, _, _, rfl, rfl, c2, _, _, rfl, rfl, vIx rfl upd_same rfl ⟨_, _, rfl, rfl, c3, _, _, rfl, rfl, .inl ⟨_, rfl, _, _, rfl, rfl, (show (0 : Int) < 2147483647 by decide), ?_⟩⟩⟩
        refine ⟨_, rfl, l, _, 3, 3, rfl, rfl, upd_same, rfl, ?_⟩
        have b1 : 0 ≤ (st * 48271 + z * 69621 + (i + 1) * 613) % 2147483647 := Int.emod_nonneg _ (by decide)
        have b2 : (st * 48271 + z * 69621 + (i + 1) * 613) % 2147483647 < 2147483647 := Int.emod_lt_of_pos _ (by decide)
        have c4 : CMul ((st * 48271 + z * 69621 + (i + 1) * 613) % 2147483647) ((st * 48271 + z * 69621 + (i + 1) * 613) % 2147483647) := .inr ⟨by omega, by omega⟩
        have c5 : CMul ((st * 48271 + z * 69621 + (i + 1) * 613) % 2147483647) 7919 := .inr ⟨by decide, by decide⟩
        refine vIx rfl upd_same rfl (vIx rfl upd_same rfl ⟨_, _, rfl, rfl, c4, vIx rfl upd_same rfl ⟨_, _, rfl, rfl, c5, _, _, rfl, rfl, _, _, rfl, rfl, .inl ⟨_, rfl, _, _, rfl, rfl, (show (0 : Int) < 1000000007 by decide), ?_⟩⟩⟩)
        have c6 : CDivW ((((st * 48271 + z * 69621 + (i + 1) * 613) % 2147483647) * ((st * 48271 + z * 69621 + (i + 1) * 613) % 2147483647) + ((st * 48271 + z * 69621 + (i + 1) * 613) % 2147483647) * 7919 + 104729) % 1000000007) 3 := ⟨by decide, by decide⟩
        refine ⟨_, rfl, _, _, rfl, rfl, c6, .inl ⟨_, rfl, _, rfl, _, _, rfl, rfl, hm, ?_⟩⟩
        have zz := ext (i + 1) 0 ((st * 48271 + z * 69621 + (i + 1) * 613) % 2147483647) (by omega) (by omega) b1 b2 False False.elim
        refine q _ _ (Int.emod_nonneg _ (by omega)) (Int.emod_lt_of_pos _ hm) ⟨?_, ?_⟩
        · show Keep l _ (upd (upd _ l _) l _)
          rw [upd_upd]
          exact zz.1
        · show Pool (upd (upd _ l _) l _) l c
          rw [upd_upd]
          exact zz.2
end
end PK
namespace PK
open PySem L2
/-! ### words -/
abbrev LET : Str := "abcdefghijklmnopqrstuvwxyz"
abbrev OTH : Str := "abcdefghijklmnopqrstuvwxyz0123456789_"
abbrev BARRED : List Str := ["get", "set", "plus", "minus", "new", "read", "write", "put"]
theorem let_len : LET.cps.toList.length = 26 := by decide +kernel
theorem oth_len : OTH.cps.toList.length = 37 := by decide +kernel
theorem line_big : (16777216 : Nat) ≤ sizeLine := by rw [sizeLine_eq]; decide
theorem small {n : Nat} (h : n ≤ 16777216) : n ≤ sizeLine := Nat.le_trans h line_big
theorem smallL {n : Nat} (h : n < 16777216) : n < sizeLine := Nat.lt_of_lt_of_le h line_big
theorem len_list (z : Str) : z.length = z.cps.toList.length := by unfold Str.length; simp
theorem yes_ {A B : Hp → Prop} {σ : L2.St} {H : Hp} (h : A H) : tYes σ H fun b H3 => if b = true then A H3 else B H3 := by
  show if true = true then A H else B H
  exact iteT h
/-- a drawn sign of a text -/
theorem strAt (z : Str) {n : Nat} (hz : z.cps.toList.length = n) (hn : n ≤ 1000) {d : Int} {H : Hp} {Q : VK} (h0 : 0 ≤ d) (h1 : d < (n : Int)) (q : ∀ s : Nat, s ∈ z.cps.toList → Q (.str ⟨#[s]⟩) H) : rIxS (.str z) (.int d) H Q := by
  obtain ⟨j, rfl⟩ : ∃ j : Nat, d = j := ⟨d.toNat, by omega⟩
  have hj : j < z.cps.toList.length := by omega
  exact ⟨z, _, _, rfl, rfl, by rw [len_list, hz]; exact small (by omega), atI_nat (List.getElem?_eq_getElem hj), q _ (List.getElem_mem hj)⟩
/-- the j-th word that is tried for the k-th place -/
def cand (j k : Nat) : Str := ("w" : Str) ++ (toString (j : Int) : Str) ++ ("_" : Str) ++ (toString (k : Int) : Str)
def pre (j : Nat) : Str := ("w" : Str) ++ (toString (j : Int) : Str) ++ ("_" : Str)
theorem pre_len : ∀ j, j < 27 → (pre j).length ≤ 4 := by decide +kernel
theorem str_len : ∀ j : Nat, j < 27 → ((toString (j : Int) : String) : Str).length ≤ 2 := by decide +kernel
theorem pre_inj : ∀ i, i < 27 → ∀ j, j < 27 → pre i = pre j → i = j := by decide +kernel
theorem app_cancel {a b t : Str} (h : a ++ t = b ++ t) : a = b := by
  have e : a.cps ++ t.cps = b.cps ++ t.cps := congrArg Str.cps h
  have e2 : a.cps.toList ++ t.cps.toList = b.cps.toList ++ t.cps.toList := by
    have := congrArg Array.toList e
    simpa using this
  exact Str.ext' (Array.toList_inj.mp (List.append_cancel_right e2))
theorem cand_inj {i j k : Nat} (hi : i < 27) (hj : j < 27) (h : cand i k = cand j k) : i = j := pre_inj i hi j hj (app_cancel h)
theorem cand_len {j k : Nat} (hj : j < 27) (hk : k < 27) : (cand j k).length ≤ 6 := by
  have h1 := pre_len j hj
  have h2 := str_len k hk
  show (pre j ++ _).length ≤ 6
  rw [Str.length_append]
  omega
theorem cand_bar (j k : Nat) : cand j k ∉ BARRED := by
  have h1 : 95 ∈ (cand j k).cps.toList := by
    show 95 ∈ ((((("w" : Str).cps ++ ((toString (j : Int) : String) : Str).cps) ++ ("_" : Str).cps) ++ ((toString (k : Int) : String) : Str).cps)).toList
    have e : ("_" : Str).cps.toList = [95] := by decide +kernel
    simp only [Array.toList_append, e, List.mem_append, List.mem_singleton]
    exact .inl (.inr trivial)
  have h2 : ∀ b ∈ BARRED, 95 ∉ b.cps.toList := by decide +kernel
  exact fun m => h2 _ m h1
theorem inj_le : ∀ (l m : List Str), l.Nodup → (∀ x ∈ l, x ∈ m) → l.length ≤ m.length
  | [], _, _, _ => Nat.zero_le _
  | x :: r, m, hn, hm => by
    obtain ⟨h1, h2⟩ := List.nodup_cons.mp hn
    have hx := hm x List.mem_cons_self
    have ih := inj_le r (m.erase x) h2 fun y hy => (List.mem_erase_of_ne (fun e => h1 (by rw [← e]; exact hy))).mpr (hm y (List.mem_cons_of_mem _ hy))
    rw [List.length_erase_of_mem hx] at ih
    have : 0 < m.length := List.length_pos_of_mem hx
    rw [List.length_cons]
    omega
/-- not all of m tried words stand in a list of fewer than m -/
theorem pigeon {m k : Nat} {ws : List Str} (hm : m < 27) (hl : ws.length < m) (h : ∀ t, t < m → cand t k ∈ ws) : False := by
  have n : ((List.range m).map fun t => cand t k).Nodup := by
    rw [List.Nodup, List.pairwise_map]
    refine List.Pairwise.imp_of_mem ?_ List.nodup_range
    intro a b ha hb hab e
    exact hab (cand_inj (Nat.lt_trans (List.mem_range.mp ha) hm) (Nat.lt_trans (List.mem_range.mp hb) hm) e)
  have := inj_le _ ws n fun x hx => by
    obtain ⟨t, ht, rfl⟩ := List.mem_map.mp hx
    exact h t (List.mem_range.mp ht)
  rw [List.length_map, List.length_range] at this
  omega
theorem inV_str (u : Str) : ∀ ws : List Str, inV (.str u) (ws.map V.str) = decide (u ∈ ws)
  | [] => by simp [inV]
  | x :: r => by
    have ih := inV_str u r
    unfold inV at ih ⊢
    rw [List.map_cons, List.any_cons, ih]
    show ((x == u) || decide (u ∈ r)) = _
    by_cases e : x = u
    · subst e; simp
    · have e2 : (x == u) = false := by simpa using e
      rw [e2, Bool.false_or]
      by_cases h : u ∈ r
      · simp [h]
      · simp [h, Ne.symm e]
theorem flat_strs (ws : List Str) : (ws.map V.str).all flatV = true := by
  rw [List.all_eq_true]
  intro x hx
  obtain ⟨s, _, rfl⟩ := List.mem_map.mp hx
  rfl
/-- signs of words -/
def one (s : Nat) : Str := ⟨#[s]⟩
def Ones (ss : List Nat) : Prop := ∀ s ∈ ss, s ∈ OTH.cps.toList
theorem join_one : ∀ ss : List Nat, (Str.join "" (ss.map one)).cps.toList = ss
  | [] => rfl
  | [s] => rfl
  | s :: t :: r => by
    have ih := join_one (t :: r)
    have e : ("" : Str).cps.toList = [] := by decide +kernel
    show ((one s).cps ++ ("" : Str).cps ++ (Str.join "" ((t :: r).map one)).cps).toList = _
    rw [Array.toList_append, Array.toList_append, ih, e]
    rfl
theorem txt_join (ss : List Nat) : (Txt.join "" (ss.map one)).cps.toList = ss := by
  show (Builtin.Str.glued ("" : Str) (ss.map one)).cps.toList = ss
  rw [StrLaws.glued_eq_join]
  exact join_one ss
theorem one_sum (ss : List Nat) : ((ss.map one).map (·.length)).sum = ss.length := by
  induction ss with
  | nil => rfl
  | cons s r ih =>
    rw [List.map_cons, List.map_cons, List.sum_cons, ih, List.length_cons]
    show 1 + r.length = _
    omega
/-- a word: signs that words have, the first one a letter -/
structure Wd (x : Str) : Prop where
  lo : 1 ≤ x.length
  hi : x.length ≤ 12
  hd : ∃ s r, x.cps.toList = s :: r ∧ s ∈ LET.cps.toList
  al : ∀ s ∈ x.cps.toList, s ∈ OTH.cps.toList
theorem Wd.of {x : Str} {s : Nat} {r : List Nat} (e : x.cps.toList = s :: r) (hs : s ∈ LET.cps.toList) (ho : Ones r) (hl : r.length ≤ 11) : Wd x where
  lo := by rw [len_list, e, List.length_cons]; omega
  hi := by rw [len_list, e, List.length_cons]; omega
  hd := ⟨s, r, e, hs⟩
  al := fun z hz => by
    rw [e] at hz
    rcases List.mem_cons.mp hz with h | h
    · rw [h]
      have : ∀ s ∈ LET.cps.toList, s ∈ OTH.cps.toList := by decide +kernel
      exact this s hs
    · exact ho z h
theorem pre_wd : ∀ j, j < 27 → ∀ s ∈ (pre j).cps.toList, s ∈ OTH.cps.toList := by decide +kernel
theorem num_wd : ∀ j : Nat, j < 27 → ∀ s ∈ ((toString (j : Int) : String) : Str).cps.toList, s ∈ OTH.cps.toList := by decide +kernel
theorem pre_hd : ∀ j, j < 27 → (pre j).cps.toList[0]? = some 119 := by decide +kernel
theorem cand_wd {j k : Nat} (hj : j < 27) (hk : k < 27) : Wd (cand j k) := by
  have e : (cand j k).cps.toList = (pre j).cps.toList ++ ((toString (k : Int) : String) : Str).cps.toList := by
    show ((pre j).cps ++ ((toString (k : Int) : String) : Str).cps).toList = _
    rw [Array.toList_append]
  have h0 := pre_hd j hj
  cases e1 : (pre j).cps.toList with
  | nil => rw [e1] at h0; cases h0
  | cons s r =>
    rw [e1] at h0 e
    have hs : s = 119 := Option.some.inj h0
    refine Wd.of (s := s) (r := r ++ ((toString (k : Int) : String) : Str).cps.toList) e (by rw [hs]; decide +kernel) (fun z hz => ?_) ?_
    · rcases List.mem_append.mp hz with h | h
      · exact pre_wd j hj z (by rw [e1]; exact List.mem_cons_of_mem _ h)
      · exact num_wd k hk z h
    · have h1 := pre_len j hj
      have h2 := str_len k hk
      rw [len_list] at h1 h2
      rw [e1, List.length_cons] at h1
      rw [List.length_append]
      omega
theorem let_oth : ∀ s ∈ LET.cps.toList, s ∈ OTH.cps.toList := by decide +kernel
theorem ixN_of {n : Nat} {k : Int} (h0 : 0 ≤ k) (h1 : k < (n : Int)) : ixN n k = some k.toNat := by
  unfold ixN
  rw [if_pos h0, if_pos h1]
theorem Ones.set {row : List Nat} (h : Ones row) {s : Nat} (hs : s ∈ OTH.cps.toList) (j : Nat) : Ones (row.set j s) := fun x hx => by
  rcases List.mem_or_eq_of_mem_set hx with h1 | h1
  · exact h x h1
  · rw [h1]; exact hs
/-- the signs of a word, one of them another letter -/
theorem set_hd {s0 : Nat} {r : List Nat} (h0 : s0 ∈ LET.cps.toList) (hr : Ones r) {s : Nat} (hs : s ∈ LET.cps.toList) (j : Nat) : ∃ s1 r1, (s0 :: r).set j s = s1 :: r1 ∧ s1 ∈ LET.cps.toList ∧ Ones r1 ∧ r1.length = r.length := by
  cases j with
  | zero => exact ⟨s, r, rfl, hs, hr, rfl⟩
  | succ j => exact ⟨s0, r.set j s, rfl, h0, hr.set (let_oth _ hs) j, List.length_set ..⟩
end PK
namespace PK
open PySem L2
/-- many different words -/
def spWords : Sp := fun vs H Q _ => ∃ (l c : Addr) (m : Nat), vs = [.ref l, .int (m : Int)] ∧ Pool H l c ∧ m ≤ 25 ∧
  ∀ (H' : Hp) (p : Addr) (ws : List Str), Ext l c H H' → H p = none → H' p = some (.lst (ws.map V.str)) → ws.length = m → ws.Nodup → (∀ x ∈ ws, Wd x ∧ x ∉ BARRED) → Q (.ref p) H'
section
variable {P : Program} {w : World} {K : PySem.W.Frag} {mg : Str → Option Value} {base : Heap}
abbrev s_law_words : Stmt := topS 41
theorem sc_law_words : FnScope ["pool", "many", "letters", "others", "barred", "size", "at", "alike", "k", "base", "words", "row", "word", "more", "j"] ["pool", "many"] (defScope s_law_words) := ⟨rfl, rfl, rfl, by decide +kernel, rfl, by decide +kernel, by decide +kernel⟩
-- slots: 0:pool(cell) 1:many 2:letters 3:others(cell) 4:barred 5:size 6:at 7:alike 8:k 9:base 10:words 11:row 12:word 13:more 14:j(comp)
theorem ok_words {f : Addr} {fd : FuncData} (F : Fun K "_law_words" "_law_words" s_law_words f fd) (T : Txt K mg) (C_law_take : C8.Cal P w K mg base 2 "_law_take" (spTake 2) []) :
    FnOk P w K mg base CX0 3 f fd ["pool", "many"] spWords := by
  refine F.ok sc_law_words (fun vs H Q E h => ?_) (fun cdv A outer s H vs Q E hr h => ?_)
  · obtain ⟨l, c, m, rfl, _⟩ := h
    rfl
  obtain ⟨l, c, m, rfl, P0, hm, q⟩ := h
  refine ⟨_, (pss_cons (ps_set (i := 2) sc_law_words.nd rfl (Or.inl rfl) pe_str)
    (pss_cons (ps_set (i := 3) sc_law_words.nd rfl (Or.inr rfl) pe_str)
    (pss_cons (ps_set (i := 4) sc_law_words.nd rfl (Or.inl rfl) (pe_tup (pa_cons pe_str (pa_cons pe_str (pa_cons pe_str (pa_cons pe_str (pa_cons pe_str (pa_cons pe_str (pa_cons pe_str (pa_cons pe_str pa_nil))))))))))
    (pss_cons (ps_set (i := 5) sc_law_words.nd rfl (Or.inl rfl) (C8.pe_c C_law_take hr (by decide) rfl (pa_cons (pv 0) (pa_cons pe_int pa_nil))))
    (pss_cons (ps_set (i := 6) sc_law_words.nd rfl (Or.inl rfl) (C8.pe_c C_law_take hr (by decide) rfl (pa_cons (pv 0) (pa_cons (pe_op op_add (pv 5) pe_int) pa_nil))))
    (pss_cons (ps_set (i := 7) sc_law_words.nd rfl (Or.inl rfl) (C8.pe_c C_law_take hr (by decide) rfl (pa_cons (pv 0) (pa_cons pe_int pa_nil))))
    (pss_cons (ps_setLc (i := 9) (own := [("k", 8)]) (g := (gName 8)) (tt := tYes) (by rfl) sc_law_words.nd rfl rfl (sw_true rfl rfl rfl (by decide +kernel)) (pi_range1 (by rfl) T.z_range (pa_cons (pv 5) pa_nil)) (blkOk_by (N := ["pool", "many", "letters", "others", "barred", "size", "at", "alike", "k", "base", "words", "row", "word", "more", "j"]) (sc := defScope s_law_words) (by decide +kernel)) (fun _ _ _ _ _ => (pg_name (i := 8) sc_law_words.nd rfl (Or.inl rfl))) (fun _ _ _ _ _ => pts_nil) (fun _ _ _ _ _ => (pe_ix ix_str (pv 3) (C8.pe_c C_law_take hr (by decide) rfl (pa_cons (pv 0) (pa_cons pe_int pa_nil))) (fun _ _ => rfl))))
    (pss_cons (ps_set (i := 10) sc_law_words.nd rfl (Or.inl rfl) (pe_lst pa_nil))
    (pss_cons (ps_for PassesOwn.never rfl (pi_range1 (by rfl) T.z_range (pa_cons (pv 1) pa_nil)) (pg_name (i := 8) sc_law_words.nd rfl (Or.inl rfl)) (pss_cons (ps_set (i := 11) sc_law_words.nd rfl (Or.inl rfl) (pe_op op_cat (pe_lst (pa_cons (pe_ix ix_str (pv 2) (C8.pe_c C_law_take hr (by decide) rfl (pa_cons (pv 0) (pa_cons pe_int pa_nil))) (fun _ _ => rfl)) pa_nil)) (pv 9)))
    (C8.pss_cut (ps_if (pt_cmpR op_eq (pv 7) pe_int (nomark _)) (pss_one (ps_set (i := 11) sc_law_words.nd rfl (Or.inl rfl) (pe_op op_cat (pe_lst (pa_cons (pe_ix ix_str (pv 2) (C8.pe_c C_law_take hr (by decide) rfl (pa_cons (pv 0) (pa_cons pe_int pa_nil))) (fun _ _ => rfl)) pa_nil)) (pe_lc (own := [("j", 14)]) (g := (gName 14)) (tt := tYes) (by rfl) sc_law_words.nd (pi_range1 (by rfl) T.z_range (pa_cons (C8.pe_c C_law_take hr (by decide) rfl (pa_cons (pv 0) (pa_cons pe_int pa_nil))) pa_nil)) (blkOk_by (N := ["pool", "many", "letters", "others", "barred", "size", "at", "alike", "k", "base", "words", "row", "word", "more", "j"]) (sc := defScope s_law_words) (by decide +kernel)) (fun _ _ _ _ _ => (pg_name (i := 14) sc_law_words.nd rfl (Or.inl rfl))) (fun _ _ _ _ _ => pts_nil) (fun _ _ _ _ _ => (pe_ix ix_str (pv 3) (C8.pe_c C_law_take hr (by decide) rfl (pa_cons (pv 0) (pa_cons pe_int pa_nil))) (fun _ _ => rfl))))))) pss_nil)
    (pss_cons (ps_asg (pe_ix ix_str (pv 2) (C8.pe_c C_law_take hr (by decide) rfl (pa_cons (pv 0) (pa_cons pe_int pa_nil))) (fun _ _ => rfl)) (pg_sub (pv 11) (pe_callB (call_min2 (by rfl)) (by rfl) T.z_min (by decide +kernel) (pa_cons (pv 6) (pa_cons (pe_op op_sub (pe_callB call_len_seq (by rfl) T.z_len (by decide +kernel) (pa_cons (pv 11) pa_nil)) pe_int) pa_nil))) set_list))
    (pss_cons (ps_set (i := 12) sc_law_words.nd rfl (Or.inl rfl) (pe_join pe_str (pv 11)))
    (C8.pss_cut (ps_for PassesOwn.never rfl (pi_range1 (by rfl) T.z_range (pa_cons (pe_op op_add (pv 1) pe_int) pa_nil)) (pg_name (i := 13) sc_law_words.nd rfl (Or.inl rfl)) (pss_cons (ps_if (PW.pt (pw_and (pt_cmpR op_notIn_seq (pv 12) (pv 10) rfl) (pw_and1 (pt_cmpR op_notIn_seq (pv 12) (pv 4) rfl)))) (pss_one ps_break) pss_nil)
    (pss_one (ps_set (i := 12) sc_law_words.nd rfl (Or.inl rfl) (pe_op op_add_str (pe_op op_add_str (pe_op op_add_str pe_str (pe_callTy call_str_int (by rfl) T.z_str (by decide +kernel) (pa_cons (pv 13) pa_nil))) pe_str) (pe_callTy call_str_int (by rfl) T.z_str (by decide +kernel) (pa_cons (pv 8) pa_nil)))))))
    (pss_one (ps_expr (pe_bm PySem.F.plainAttrs_list PySem.F.slot_list_append PySem.F.type_list_append mt_append (pv 10) (pa_cons (pv 12) pa_nil))))))))))
    (pss_one (ps_ret (pv 10)))))))))))), ?_⟩
  -- letters, others, barred
  refine ⟨(by show 8 ≤ sizeLine; exact small (by decide)), fun bt hbt => ?_⟩
  have x1 : Ext l c H (upd H bt (.tup (BARRED.map V.str))) := (Ext.refl P0).new P0 hbt
  -- size, at, alike
  refine vTake rfl x1.pool (by decide) (by decide) fun size H2 hs0 hs1 x2 => ?_
  refine ⟨_, rfl, _, rfl, _, _, rfl, rfl, l, c, size + 1, False, rfl, x2.pool, by omega, by omega, .inl (Nat.le_refl 2), fun at_ H3 ha0 ha1 x3 => ?_⟩
  refine vTake rfl x3.pool (by decide) (by decide) fun al H4 hal0 hal1 x4 => ?_
  have x5 : Ext l c H H4 := ((x1.trans x2).trans x3).trans x4
  have P4 := x5.pool
  have hbt4 : H4 bt = some (.tup (BARRED.map V.str)) := (x2.trans (x3.trans x4)).keep _ _ (P0.ne hbt).1 upd_same
  -- base = [..]
  refine ⟨_, rfl, size, rfl, by omega, by omega, fun D hD => lc_range (lo := 0) (n := size.toNat) (fun i H' => ∃ row : List Nat, Ext l c H4 H' ∧ H' D = some (.lst (row.map (fun s => V.str (one s)))) ∧ row.length = i ∧ Ones row) ?_ ?_ ?_⟩
  · exact ⟨[], (Ext.refl P4).upd P4 hD, upd_same, rfl, fun _ h => nomatch h⟩
  · rintro i H' hi ⟨row, x, hd, hlen, hone⟩
    refine ⟨rfl, yes_ ⟨_, rfl, vTake rfl x.pool (by decide) (by decide) fun d H5 d0 d1 y => strAt OTH oth_len (by decide) d0 d1 fun sg hsg => ?_⟩⟩
    refine ⟨row.map (fun s => V.str (one s)), y.keep D _ (P4.ne hD).1 hd, by rw [List.length_map]; exact smallL (by omega), row ++ [sg], (x.trans y).upd P4 hD, ?_, ?_, ?_⟩
    · rw [upd_same, List.map_append]; rfl
    · rw [List.length_append, hlen]; rfl
    · intro z hz
      rcases List.mem_append.mp hz with h | h
      · exact hone z h
      · rw [List.mem_singleton.mp h]; exact hsg
  · rintro HB ⟨b0, xb, hb0, hb0l, hb0o⟩
    have PB := xb.pool
    have xB : Ext l c H HB := x5.trans xb
    have hbtB : HB bt = some (.tup (BARRED.map V.str)) := xb.keep _ _ (P0.ne hbt).1 hbt4
    -- words = []
    refine ⟨Nat.zero_le _, fun wd hwd => ?_⟩
    refine ⟨_, rfl, (m : Int), rfl, by omega, by omega, for_range (lo := 0) (n := (m : Int).toNat) (fun i σ H' => ∃ (ws : List Str) (k' r' w' m' : Option V), σ = [some (.ref l), some (.int m), some (.str LET), some (.str OTH), some (.ref bt), some (.int size), some (.int at_), some (.int al), k', some (.ref D), some (.ref wd), r', w', m', none] ∧
      Ext l c HB H' ∧ H' wd = some (.lst (ws.map V.str)) ∧ ws.length = i ∧ ws.Nodup ∧ ∀ x ∈ ws, Wd x ∧ x ∉ BARRED) ?_ ?_ ?_⟩
    · exact ⟨[], _, _, _, _, rfl, (Ext.refl PB).upd PB hwd, upd_same, rfl, List.nodup_nil, fun _ h => nomatch h⟩
    · rintro i σ H' hi ⟨ws, k', r', w', m', rfl, x, hw, hwl, hwn, hw12⟩
      have hi' : i < m := hi
      have PX := x.pool
      have neD : D ≠ l := (P4.ne hD).1
      have newd : wd ≠ l := (PB.ne hwd).1
      have hDX : H' D = some (.lst (b0.map (fun s => V.str (one s)))) := x.keep _ _ neD hb0
      have hbtX : H' bt = some (.tup (BARRED.map V.str)) := x.keep _ _ (P0.ne hbt).1 hbtB
      -- row = [..] + base
      refine ⟨_, rfl, vTake rfl PX (by decide) (by decide) fun d H1 d0 d1 y => strAt LET let_len (by decide) d0 d1 fun sg hsg => ?_⟩
      have hD1 := y.keep _ _ neD hDX
      refine ⟨(by show 1 ≤ sizeLine; exact small (by decide)), fun p1 hp1 => ⟨_, rfl, p1, D, _, _, rfl, rfl, upd_same, (by rw [upd_ne (ne_of_none hD1 hp1)]; exact hD1), (by rw [List.length_map]; show 1 + b0.length ≤ _; exact small (by omega)), fun p2 hp2 => ?_⟩⟩
      have z2 : Ext l c H' (upd (upd H1 p1 _) p2 (.lst ([V.str ⟨#[sg]⟩] ++ b0.map (fun s => V.str (one s))))) := (y.new PX hp1).new PX hp2
      have hp2' : H' p2 = none := (y.new PX hp1).free PX hp2
      refine ⟨fun σ' H'' => ∃ (rw_ : Addr) (s0 : Nat) (row : List Nat), σ' = [some (.ref l), some (.int m), some (.str LET), some (.str OTH), some (.ref bt), some (.int size), some (.int at_), some (.int al), some (.int (0 + (i : Int))), some (.ref D), some (.ref wd), some (.ref rw_), w', m', none] ∧
        Ext l c H' H'' ∧ H' rw_ = none ∧ H'' rw_ = some (.lst ((s0 :: row).map (fun s => V.str (one s)))) ∧ s0 ∈ LET.cps.toList ∧ Ones row ∧ row.length ≤ 11, ?_, ?_⟩
      · -- if alike == 0
        refine ⟨_, rfl, rfl, _, rfl, ite2 (fun _ => ?_) (fun _ => ⟨p2, sg, b0, rfl, z2, hp2', upd_same, hsg, hb0o, by omega⟩)⟩
        refine ⟨_, rfl, vTake rfl z2.pool (by decide) (by decide) fun d H6 d0 d1 y6 => strAt LET let_len (by decide) d0 d1 fun sg2 hsg2 => ?_⟩
        refine ⟨(by show 1 ≤ sizeLine; exact small (by decide)), fun p3 hp3 => ?_⟩
        have z3 := (z2.trans y6).new (o := .lst [.str ⟨#[sg2]⟩]) PX hp3
        have P3 := z3.pool
        have hp3' : H' p3 = none := (z2.trans y6).free PX hp3
        refine vTake rfl z3.pool (by decide) (by decide) fun n2 H7 n0 n1 y7 => ⟨n2, rfl, by omega, by omega, fun D2 hD2 => lc_range (lo := 0) (n := n2.toNat) (fun i H'' => ∃ row : List Nat, Ext l c H7 H'' ∧ H'' D2 = some (.lst (row.map (fun s => V.str (one s)))) ∧ row.length = i ∧ Ones row) ?_ ?_ ?_⟩
        · exact ⟨[], (Ext.refl y7.pool).upd y7.pool hD2, upd_same, rfl, fun _ h => nomatch h⟩
        · rintro i H'' hi ⟨row, x, hd, hlen, hone⟩
          refine ⟨rfl, yes_ ⟨_, rfl, vTake rfl x.pool (by decide) (by decide) fun d H5 d0 d1 y => strAt OTH oth_len (by decide) d0 d1 fun sg hsg => ?_⟩⟩
          refine ⟨row.map (fun s => V.str (one s)), y.keep D2 _ (y7.pool.ne hD2).1 hd, by rw [List.length_map]; exact smallL (by omega), row ++ [sg], (x.trans y).upd y7.pool hD2, ?_, ?_, ?_⟩
          · rw [upd_same, List.map_append]; rfl
          · rw [List.length_append, hlen]; rfl
          · intro z hz
            rcases List.mem_append.mp hz with h | h
            · exact hone z h
            · rw [List.mem_singleton.mp h]; exact hsg
        · rintro H8 ⟨row, x8, hd8, hlen8, hone8⟩
          have h38 : H8 p3 = some (.lst [.str ⟨#[sg2]⟩]) := (y7.trans x8).keep _ _ (PX.ne hp3').1 upd_same
          refine ⟨p3, D2, _, _, rfl, rfl, h38, hd8, (by rw [List.length_map]; show 1 + row.length ≤ _; exact small (by omega)), fun p4 hp4 => ?_⟩
          have z8 : Ext l c H' H8 := z3.trans (y7.trans x8)
          exact ⟨p4, sg2, row, rfl, z8.new PX hp4, z8.free PX hp4, upd_same, hsg2, hone8, by omega⟩
      · rintro σ' H9 ⟨rw_, s0, row, rfl, x9, hrn, hr9, hs0L, hone, hl12⟩
        have nrl : rw_ ≠ l := (PX.ne hrn).1
        -- row[min(at, len(row) - 1)] = ..
        refine ⟨_, rfl, vTake rfl x9.pool (by decide) (by decide) fun d3 H10 d30 d31 y10 => strAt LET let_len (by decide) d30 d31 fun sg3 hsg3 => ?_⟩
        have hr10 : H10 rw_ = some (.lst ((s0 :: row).map (fun s => V.str (one s)))) := y10.keep _ _ nrl hr9
        refine ⟨_, rfl, _, rfl, _, rfl, rw_, _, rfl, .inl (SqL.of hr10), _, _, rfl, rfl, _, _, rfl, ?_⟩
        have hrl : (((s0 :: row).map (fun s => V.str (one s))).length : Int) = row.length + 1 := by rw [List.length_map, List.length_cons]; rfl
        refine ⟨rw_, _, _, _, rfl, rfl, hr10, ixN_of (by split <;> omega) (by split <;> omega), ?_⟩
        generalize (if ((((s0 :: row).map (fun s => V.str (one s))).length : Nat) : Int) - 1 < at_ then ((((s0 :: row).map (fun s => V.str (one s))).length : Nat) : Int) - 1 else at_).toNat = jz
        obtain ⟨s1, r1, e1, hs1L, ho1, hl1⟩ := set_hd hs0L hone hsg3 jz
        have es : ((s0 :: row).map (fun s => V.str (one s))).set jz (V.str ⟨#[sg3]⟩) = ((s1 :: r1).map one).map V.str := by
          rw [← e1, List.map_map]
          exact (List.map_set ..).symm
        rw [es]
        have zX : Ext l c H' (upd H10 rw_ (.lst (((s1 :: r1).map one).map V.str))) := (x9.trans y10).upd PX hrn
        generalize hHX : upd H10 rw_ (.lst (((s1 :: r1).map one).map V.str)) = HX at zX
        have hrX : HX rw_ = some (.lst (((s1 :: r1).map one).map V.str)) := by rw [← hHX]; exact upd_same
        -- word = ''.join(row)
        refine ⟨⟨_, rfl⟩, _, rfl, "", rw_, (s1 :: r1).map one, rfl, rfl, .inl (SqL.of hrX), by rw [one_sum, List.length_cons]; show _ + _ * 0 ≤ _; omega, ?_⟩
        have ul : Wd (Txt.join "" ((s1 :: r1).map one)) := Wd.of (txt_join _) hs1L ho1 (by omega)
        have hwX : HX wd = some (.lst (ws.map V.str)) := zX.keep _ _ newd hw
        have hbX : HX bt = some (.tup (BARRED.map V.str)) := zX.keep _ _ (P0.ne hbt).1 hbtX
        generalize Txt.join "" ((s1 :: r1).map one) = u0 at ul ⊢
        -- the loop that seeks a new word
        refine ⟨fun σ' H'' => ∃ (u : Str) (mo : Option V), σ' = [some (.ref l), some (.int m), some (.str LET), some (.str OTH), some (.ref bt), some (.int size), some (.int at_), some (.int al), some (.int (0 + (i : Int))), some (.ref D), some (.ref wd), some (.ref rw_), some (.str u), mo, none] ∧
          H'' = HX ∧ u ∉ ws ∧ Wd u ∧ u ∉ BARRED, ?_, ?_⟩
        · refine ⟨_, rfl, _, _, rfl, rfl, _, rfl, by omega, by omega, for_range (lo := 0) (n := ((m : Int) + 1).toNat) (fun j σ H'' => ∃ (u : Str) (mo : Option V), σ = [some (.ref l), some (.int m), some (.str LET), some (.str OTH), some (.ref bt), some (.int size), some (.int at_), some (.int al), some (.int (0 + (i : Int))), some (.ref D), some (.ref wd), some (.ref rw_), some (.str u), mo, none] ∧
            H'' = HX ∧ Wd u ∧ (1 ≤ j → u = cand (j - 1) i) ∧ ∀ t, t + 1 < j → cand t i ∈ ws) ?_ ?_ ?_⟩
          · exact ⟨u0, _, rfl, rfl, ul, by omega, by omega⟩
          · rintro j σ H'' hj ⟨u, mo, rfl, rfl, hu, hc, ht⟩
            have hj' : j < m + 1 := by omega
            have nxt : (u ∈ ws ∨ u ∈ BARRED) → ∀ t, t + 1 < j + 1 → cand t i ∈ ws := fun h t h1 => by
              by_cases e : t + 1 < j
              · exact ht t e
              · have e2 : j - 1 = t := by omega
                have e3 := hc (by omega)
                rw [e2] at e3
                rcases h with h | h
                · rw [← e3]; exact h
                · rw [e3] at h; exact absurd h (cand_bar t i)
            -- the next word that is tried
            have go : (u ∈ ws ∨ u ∈ BARRED) → ∃ (u' : Str) (mo' : Option V), [some (V.ref l), some (V.int m), some (V.str LET), some (V.str OTH), some (V.ref bt), some (V.int size), some (V.int at_), some (V.int al), some (V.int (0 + (i : Int))), some (V.ref D), some (V.ref wd), some (V.ref rw_), some (V.str (("w" : Str) ++ (toString (0 + (j : Int)) : Str) ++ ("_" : Str) ++ (toString (0 + (i : Int)) : Str))), some (V.int (0 + (j : Int))), none] = [some (.ref l), some (.int m), some (.str LET), some (.str OTH), some (.ref bt), some (.int size), some (.int at_), some (.int al), some (.int (0 + (i : Int))), some (.ref D), some (.ref wd), some (.ref rw_), some (.str u'), mo', none] ∧
                H'' = H'' ∧ Wd u' ∧ (1 ≤ j + 1 → u' = cand (j + 1 - 1) i) ∧ ∀ t, t + 1 < j + 1 → cand t i ∈ ws := fun h => by
              have e : (("w" : Str) ++ (toString (0 + (j : Int)) : Str) ++ ("_" : Str) ++ (toString (0 + (i : Int)) : Str)) = cand j i := by rw [Int.zero_add, Int.zero_add]; rfl
              have hl := cand_len (j := j) (k := i) (by omega) (by omega)
              exact ⟨_, _, rfl, rfl, by rw [e]; exact cand_wd (by omega) (by omega), fun _ => e, nxt h⟩
            have lj := str_len j (by omega)
            have li := str_len i (by omega)
            have lgj : (0 + (j : Int)).natAbs.log2 < 1920 := Nat.lt_of_lt_of_le (PySem.Flt.log2_lt_of (k := 5) (by decide) (by show (0 + (j : Int)).natAbs < 32; omega)) (by decide)
            have lgi : (0 + (i : Int)).natAbs.log2 < 1920 := Nat.lt_of_lt_of_le (PySem.Flt.log2_lt_of (k := 5) (by decide) (by show (0 + (i : Int)).natAbs < 32; omega)) (by decide)
            refine ⟨_, rfl, _, rfl, wd, _, rfl, .inl (SqL.of hwX), rfl, flat_strs _, _, rfl, ?_⟩
            rw [inV_str]
            by_cases h1 : u ∈ ws
            · rw [decide_eq_true h1]
              exact iteF ⟨_, rfl, _, rfl, lgj, _, _, rfl, rfl, small (by rw [Int.zero_add]; show 1 + _ ≤ _; omega), _, _, rfl, rfl, small (by rw [Int.zero_add, Str.length_append]; show 1 + _ + 1 ≤ _; omega), _, rfl, _, rfl, lgi, _, _, rfl, rfl, small (by rw [Int.zero_add, Int.zero_add, Str.length_append, Str.length_append]; show 1 + _ + 1 + _ ≤ _; omega), go (.inl h1)⟩
            · rw [decide_eq_false h1]
              refine iteT ⟨_, rfl, _, rfl, bt, _, rfl, .inr (SqT.of hbX), rfl, flat_strs _, _, rfl, ?_⟩
              rw [inV_str]
              by_cases h2 : u ∈ BARRED
              · rw [decide_eq_true h2]
                exact iteF ⟨_, rfl, _, rfl, lgj, _, _, rfl, rfl, small (by rw [Int.zero_add]; show 1 + _ ≤ _; omega), _, _, rfl, rfl, small (by rw [Int.zero_add, Str.length_append]; show 1 + _ + 1 ≤ _; omega), _, rfl, _, rfl, lgi, _, _, rfl, rfl, small (by rw [Int.zero_add, Int.zero_add, Str.length_append, Str.length_append]; show 1 + _ + 1 + _ ≤ _; omega), go (.inr h2)⟩
              · rw [decide_eq_false h2]
                exact iteT ⟨u, _, rfl, rfl, h1, hu, h2⟩
          · rintro σ H'' ⟨u, mo, rfl, rfl, hu, hc, ht⟩
            exact (pigeon (m := m) (k := i) (by omega) (by omega) fun t h => ht t (by omega)).elim
        · rintro σ' H'' ⟨u, mo, rfl, rfl, hu, hul, hub⟩
          refine ⟨_, rfl, .inl ⟨rfl, _, SqL.of hwX⟩, _, rfl, wd, _, _, rfl, rfl, hwX, by rw [List.length_map]; exact smallL (by omega), ?_⟩
          refine ⟨ws ++ [u], _, _, _, _, rfl, (x.trans zX).upd PB hwd, ?_, by rw [List.length_append, hwl]; rfl, nd_snoc hwn hu, fun z hz => ?_⟩
          · rw [upd_same, List.map_append]; rfl
          · rcases List.mem_append.mp hz with h | h
            · exact hw12 z h
            · rw [List.mem_singleton.mp h]; exact ⟨hul, hub⟩
    · rintro σ H' ⟨ws, k', r', w', m', rfl, x, hw, hwl, hwn, hw12⟩
      refine ⟨_, rfl, q H' wd ws (xB.trans x) (xB.free P0 hwd) hw hwl hwn hw12⟩
end
end PK
namespace PK
open PySem L2
/-! ### data of tuples -/
mutual
inductive Dt (K : PySem.W.Frag) (H : Hp) : V → PyData → Prop
  | non : Dt K H .non .none
  | bl (b : Bool) : Dt K H (.bl b) (.bool b)
  | int (i : Int) : Dt K H (.int i) (.int i)
  | str (x : Str) : Dt K H (.str x) (.str x)
  | tup {a : Addr} {xs : List V} {ds : List PyData} : SqT K H a xs → DtAll K H xs ds → Dt K H (.ref a) (.tuple ds)
inductive DtAll (K : PySem.W.Frag) (H : Hp) : List V → List PyData → Prop
  | nil : DtAll K H [] []
  | cons {v : V} {vs : List V} {d : PyData} {ds : List PyData} : Dt K H v d → DtAll K H vs ds → DtAll K H (v :: vs) (d :: ds)
end
section
variable {K : PySem.W.Frag} {H H' : Hp}
mutual
theorem Dt.dp : ∀ (d : PyData) (v : V), Dt K H v d → Dp K H v d
  | .none, _, h => by cases h; exact .non
  | .bool _, _, h => by cases h; exact .bl _
  | .int _, _, h => by cases h; exact .int _
  | .str _, _, h => by cases h; exact .str _
  | .list _, _, h => by cases h
  | .dict _, _, h => by cases h
  | .tuple ds, _, h => by
    cases h with
    | tup s a => exact .tup s (DtAll.dp ds _ a)
theorem DtAll.dp : ∀ (ds : List PyData) (vs : List V), DtAll K H vs ds → DpAll K H vs ds
  | [], _, h => by cases h; exact .nil
  | d :: ds, _, h => by
    cases h with
    | cons h1 h2 => exact .cons (Dt.dp d _ h1) (DtAll.dp ds _ h2)
end
mutual
theorem Dt.mono (hT : ∀ a xs, SqT K H a xs → SqT K H' a xs) : ∀ (d : PyData) (v : V), Dt K H v d → Dt K H' v d
  | .none, _, h => by cases h; exact .non
  | .bool _, _, h => by cases h; exact .bl _
  | .int _, _, h => by cases h; exact .int _
  | .str _, _, h => by cases h; exact .str _
  | .list _, _, h => by cases h
  | .dict _, _, h => by cases h
  | .tuple ds, _, h => by
    cases h with
    | tup s a => exact .tup (hT _ _ s) (DtAll.mono hT ds _ a)
theorem DtAll.mono (hT : ∀ a xs, SqT K H a xs → SqT K H' a xs) : ∀ (ds : List PyData) (vs : List V), DtAll K H vs ds → DtAll K H' vs ds
  | [], _, h => by cases h; exact .nil
  | d :: ds, _, h => by
    cases h with
    | cons h1 h2 => exact .cons (Dt.mono hT d _ h1) (DtAll.mono hT ds _ h2)
end
theorem Same.seqT {a : Addr} {xs : List V} (e : Same H H') (h : SqT K H a xs) : SqT K H' a xs := by
  rcases h with (h | ⟨o, h⟩) | h
  · exact .inl (.inl (e _ _ h))
  · exact .inl (.inr ⟨o, e _ _ h⟩)
  · exact .inr h
theorem Dt.same {d : PyData} {v : V} (h : Dt K H v d) (e : Same H H') : Dt K H' v d := Dt.mono (fun _ _ q => Same.seqT e q) d v h
theorem Dt.ext {l c : Addr} {d : PyData} {v : V} (h : Dt K H v d) (P : Pool H l c) (x : Ext l c H H') : Dt K H' v d := Dt.mono (fun _ _ q => x.seqT P q) d v h
theorem same_new {p : Addr} {o : HO} (h : H p = none) : Same H (upd H p o) := fun b u e => by
  rw [upd_ne (ne_of_none e h)]
  exact e
theorem Dt.new {d : PyData} {v : V} {p : Addr} {o : HO} (h : Dt K H v d) (hp : H p = none) : Dt K (upd H p o) v d := h.same (same_new hp)
theorem Dt.s {v : V} {x : Str} (h : Dt K H v (.str x)) : v = .str x := by cases h; rfl
theorem Dt.i {v : V} {x : Int} (h : Dt K H v (.int x)) : v = .int x := by cases h; rfl
theorem Dt.t1 {v : V} {d : PyData} (h : Dt K H v (.tuple [d])) : ∃ a x, v = .ref a ∧ SqT K H a [x] ∧ Dt K H x d := by
  cases h with
  | tup s a => cases a with
    | cons h1 r => cases r; exact ⟨_, _, rfl, s, h1⟩
theorem Dt.t2 {v : V} {d e : PyData} (h : Dt K H v (.tuple [d, e])) : ∃ a x y, v = .ref a ∧ SqT K H a [x, y] ∧ Dt K H x d ∧ Dt K H y e := by
  cases h with
  | tup s a => cases a with
    | cons h1 r => cases r with
      | cons h2 r => cases r; exact ⟨_, _, _, rfl, s, h1, h2⟩
theorem Dt.t3 {v : V} {d e f : PyData} (h : Dt K H v (.tuple [d, e, f])) : ∃ a x y z, v = .ref a ∧ SqT K H a [x, y, z] ∧ Dt K H x d ∧ Dt K H y e ∧ Dt K H z f := by
  cases h with
  | tup s a => cases a with
    | cons h1 r => cases r with
      | cons h2 r => cases r with
        | cons h3 r => cases r; exact ⟨_, _, _, _, rfl, s, h1, h2, h3⟩
theorem Dt.tn {v : V} {ds : List PyData} (h : Dt K H v (.tuple ds)) : ∃ a xs, v = .ref a ∧ SqT K H a xs ∧ DtAll K H xs ds := by
  cases h with
  | tup s a => exact ⟨_, _, rfl, s, a⟩
theorem Dt.mk2 {p : Addr} {x y : V} {d e : PyData} (hp : H p = none) (h1 : Dt K H x d) (h2 : Dt K H y e) : Dt K (upd H p (.tup [x, y])) (.ref p) (.tuple [d, e]) :=
  .tup (SqT.of upd_same) (.cons (h1.new hp) (.cons (h2.new hp) .nil))
theorem Dt.mk3 {p : Addr} {x y z : V} {d e f : PyData} (hp : H p = none) (h1 : Dt K H x d) (h2 : Dt K H y e) (h3 : Dt K H z f) : Dt K (upd H p (.tup [x, y, z])) (.ref p) (.tuple [d, e, f]) :=
  .tup (SqT.of upd_same) (.cons (h1.new hp) (.cons (h2.new hp) (.cons (h3.new hp) .nil)))
theorem Dt.mk1 {p : Addr} {x : V} {d : PyData} (hp : H p = none) (h1 : Dt K H x d) : Dt K (upd H p (.tup [x])) (.ref p) (.tuple [d]) :=
  .tup (SqT.of upd_same) (.cons (h1.new hp) .nil)
end
/-- xs[j] of a name, a tuple -/
theorem vTx {K : PySem.W.Frag} {σ : L2.St} {H : Hp} {Q : VK} {i : Nat} {p : Addr} {xs : List V} {j : Int} {v : V} (h : σ[i]? = some (some (.ref p))) (hl : SqT K H p xs) (ha : atI xs j = some v) (q : Q v H) :
    tOp (rIxT K) (tVar i) (tC (.int j)) σ H Q := ⟨_, h, p, xs, j, v, rfl, rfl, hl, ha, q⟩
section
variable {s t : Str} {A B : Prop}
theorem sT (e : s = t) (h : A) : if decide (V.str s = V.str t) = true then A else B := by rw [decide_eq_true (by rw [e])]; exact iteT h
theorem sF (e : s ≠ t) (h : B) : if decide (V.str s = V.str t) = true then A else B := by rw [decide_eq_false (fun z => e (V.str.inj z))]; exact iteF h
theorem nT (e : s ≠ t) (h : A) : if (!decide (V.str s = V.str t)) = true then A else B := by rw [decide_eq_false (fun z => e (V.str.inj z))]; exact iteT h
theorem nF (e : s = t) (h : B) : if (!decide (V.str s = V.str t)) = true then A else B := by rw [decide_eq_true (by rw [e])]; exact iteF h
end
theorem Same.upd {H H' : Hp} {p : Addr} {o : HO} (e : Same H H') (h : H p = none) : Same H (L2.upd H' p o) := fun b u q => by
  rw [upd_ne (ne_of_none q h)]
  exact e _ _ q
/-- isinstance(x, T) of a name and a built-in class -/
theorem vIsi {σ : L2.St} {H : Hp} {Q : VK} {i : Nat} {v : V} {U Tn : String} {b : Bool} (h : σ[i]? = some (some v)) (ty : TyX K H v (.type U)) (kb : kitB U Tn = some b) (q : Q (.bl b) H) :
    tCB (rIsi K) (tCons (tVar i) (tCons (tC (.ty Tn)) tNil)) σ H Q := ⟨_, h, v, .ty Tn, _, _, b, rfl, .ty Tn, ty, kit_ty kb, q⟩
theorem ty_tup {H : Hp} {a : Addr} {xs : List V} (h : SqT K H a xs) : TyX K H (.ref a) (.type "tuple") := by
  rcases h with (h | ⟨o, h⟩) | ⟨o, its, n, h, hc, _⟩
  · exact .base (.tup h)
  · exact .fTuple h
  · exact .kTuple h hc
theorem ty_lst {H : Hp} {a : Addr} {xs : List V} (h : SqL K H a xs) : TyX K H (.ref a) (.type "list") := by
  rcases h with (h | ⟨o, h⟩) | ⟨o, its, n, h, hc, _⟩
  · exact .base (.lst h)
  · exact .base (.frz h)
  · exact .kList h hc
theorem DtAll.append {K : PySem.W.Frag} {H : Hp} : ∀ {xs ys : List V} {ds es : List PyData}, DtAll K H xs ds → DtAll K H ys es → DtAll K H (xs ++ ys) (ds ++ es)
  | _, _, _, _, .nil, h => h
  | _, _, _, _, .cons a b, h => .cons a (DtAll.append b h)
/-- a list that grows is no tuple -/
theorem seqT_upd {K : PySem.W.Frag} {H : Hp} {D a : Addr} {vs ws zs : List V} (h : SqT K H a zs) (hD : H D = some (.lst vs)) : SqT K (upd H D (.lst ws)) a zs := by
  rcases h with (h | ⟨o, h⟩) | h
  · exact .inl (.inl (by rw [upd_ne (ne_of h hD (fun z => by cases z))]; exact h))
  · exact .inl (.inr ⟨o, by rw [upd_ne (ne_of h hD (fun z => by cases z))]; exact h⟩)
  · exact .inr h
theorem seqT_updK {K : PySem.W.Frag} {H : Hp} {D a : Addr} {kvs kvs' : List (Key × V)} {zs : List V} (h : SqT K H a zs) (hD : H D = some (.dK kvs)) : SqT K (upd H D (.dK kvs')) a zs := by
  rcases h with (h | ⟨o, h⟩) | h
  · exact .inl (.inl (by rw [upd_ne (ne_of h hD (fun z => by cases z))]; exact h))
  · exact .inl (.inr ⟨o, by rw [upd_ne (ne_of h hD (fun z => by cases z))]; exact h⟩)
  · exact .inr h
theorem valV_hd {k : Key} {v : V} {r : List (Key × V)} : valV ((k, v) :: r) k = some v := by simp [valV]
theorem valV_tl {k k' : Key} {v : V} {r : List (Key × V)} (h : k' ≠ k) : valV ((k', v) :: r) k = valV r k := by simp [valV, h]
theorem Pool.same {H H' : Hp} {l c : Addr} (P : Pool H l c) (e : Same H H') : Pool H' l c := by
  obtain ⟨ns, i, r, s, hl, hc, z⟩ := P
  exact ⟨ns, i, r, s, e _ _ hl, e _ _ hc, z⟩
theorem Ext.same {H H1 H2 : Hp} {l c : Addr} (x : Ext l c H H1) (e : Same H1 H2) : Ext l c H H2 := ⟨fun b o hb h => e _ _ (x.keep b o hb h), x.pool.same e⟩
/-- a new tuple at the end of a list of data -/
theorem snoc_data {K : PySem.W.Frag} {H : Hp} {D t : Addr} {o : HO} {vs : List V} {ds : List PyData} {d : PyData} (da : DtAll K H vs ds) (hD : H D = some (.lst vs)) (ht : H t = none) (dt : Dt K (upd H t o) (.ref t) d) :
    (upd H t o) D = some (.lst vs) ∧ DtAll K (upd (upd H t o) D (.lst (vs ++ [.ref t]))) (vs ++ [.ref t]) (ds ++ [d]) := by
  have h1 : (upd H t o) D = some (.lst vs) := by rw [upd_ne (ne_of_none hD ht)]; exact hD
  refine ⟨h1, DtAll.mono (fun _ _ z => seqT_upd z h1) _ _ (DtAll.append (DtAll.mono (fun _ _ z => Same.seqT (same_new ht) z) _ _ da) (.cons dt .nil))⟩
theorem DtAll.ext {K : PySem.W.Frag} {H H' : Hp} {l c : Addr} {vs : List V} {ds : List PyData} (h : DtAll K H vs ds) (P : Pool H l c) (x : Ext l c H H') : DtAll K H' vs ds := DtAll.mono (fun _ _ z => x.seqT P z) _ _ h
theorem DtAll.same {K : PySem.W.Frag} {H H' : Hp} {vs : List V} {ds : List PyData} (h : DtAll K H vs ds) (x : Same H H') : DtAll K H' vs ds := DtAll.mono (fun _ _ z => Same.seqT x z) _ _ h
end PK
namespace PK
open PySem L2
/-! _law_same -/
section
variable {K : PySem.W.Frag} {H H' : Hp}
mutual
theorem Dp.mono (hT : ∀ a xs, SqT K H a xs → SqT K H' a xs) (hL : ∀ a xs, SqL K H a xs → SqL K H' a xs) : ∀ (d : PyData) (v : V), Dp K H v d → Dp K H' v d
  | .none, _, h => by cases h; exact .non
  | .bool _, _, h => by cases h; exact .bl _
  | .int _, _, h => by cases h; exact .int _
  | .str _, _, h => by cases h; exact .str _
  | .dict _, _, h => by cases h
  | .list ds, _, h => by
    cases h with
    | lst s a => exact .lst (hL _ _ s) (DpAll.mono hT hL ds _ a)
  | .tuple ds, _, h => by
    cases h with
    | tup s a => exact .tup (hT _ _ s) (DpAll.mono hT hL ds _ a)
theorem DpAll.mono (hT : ∀ a xs, SqT K H a xs → SqT K H' a xs) (hL : ∀ a xs, SqL K H a xs → SqL K H' a xs) : ∀ (ds : List PyData) (vs : List V), DpAll K H vs ds → DpAll K H' vs ds
  | [], _, h => by cases h; exact .nil
  | d :: ds, _, h => by
    cases h with
    | cons h1 h2 => exact .cons (Dp.mono hT hL d _ h1) (DpAll.mono hT hL ds _ h2)
end
theorem Dp.same {d : PyData} {v : V} (h : Dp K H v d) (e : Same H H') : Dp K H' v d := Dp.mono (fun _ _ q => Same.seqT e q) (fun _ _ q => e.seq q) d v h
theorem DpAll.length : ∀ {xs : List V} {ds : List PyData}, DpAll K H xs ds → xs.length = ds.length
  | _, _, .nil => rfl
  | _, _, .cons _ t => by rw [List.length_cons, List.length_cons, DpAll.length t]
theorem DpAll.get : ∀ {xs : List V} {ds : List PyData} {i : Nat} {d : PyData}, DpAll K H xs ds → ds[i]? = some d → ∃ x, xs[i]? = some x ∧ Dp K H x d
  | _, _, _, _, .nil, e => by simp at e
  | _, _, 0, _, .cons h _, e => by simp at e; subst e; exact ⟨_, rfl, h⟩
  | _, _, i + 1, _, .cons _ t, e => by
    obtain ⟨d, h1, h2⟩ := DpAll.get (i := i) t (by simpa using e)
    exact ⟨d, by simpa using h1, h2⟩
end
theorem depth_get : ∀ {ds : List PyData} {i : Nat} {d : PyData}, ds[i]? = some d → d.depth ≤ PyData.depthAll ds
  | [], _, _, e => by simp at e
  | x :: r, 0, d, e => by
    simp at e; subst e
    show _ ≤ max _ _
    exact Nat.le_max_left _ _
  | x :: r, i + 1, d, e => by
    have ih := depth_get (ds := r) (i := i) (d := d) (by simpa using e)
    show _ ≤ max _ _
    exact Nat.le_trans ih (Nat.le_max_right _ _)
mutual
/-- no list in it is long -/
def slim : PyData → Bool
  | .none | .bool _ | .int _ | .str _ => true
  | .list xs | .tuple xs => decide (xs.length ≤ 1000) && slimAll xs
  | .dict _ => false
def slimAll : List PyData → Bool
  | [] => true
  | x :: xs => slim x && slimAll xs
end
theorem slim_get : ∀ {ds : List PyData} {i : Nat} {d : PyData}, slimAll ds = true → ds[i]? = some d → slim d = true
  | [], _, _, _, e => by simp at e
  | x :: r, 0, d, h, e => by
    simp at e; subst e
    unfold slimAll at h
    exact (Bool.and_eq_true_iff.mp h).1
  | x :: r, i + 1, d, h, e => by
    unfold slimAll at h
    exact slim_get (ds := r) (i := i) (Bool.and_eq_true_iff.mp h).2 (by simpa using e)
theorem slim_seq {ds : List PyData} (h : slim (.tuple ds) = true) : ds.length ≤ 1000 ∧ slimAll ds = true := by
  unfold slim at h
  exact ⟨of_decide_eq_true (Bool.and_eq_true_iff.mp h).1, (Bool.and_eq_true_iff.mp h).2⟩
theorem slim_lst {ds : List PyData} (h : slim (.list ds) = true) : ds.length ≤ 1000 ∧ slimAll ds = true := by
  unfold slim at h
  exact ⟨of_decide_eq_true (Bool.and_eq_true_iff.mp h).1, (Bool.and_eq_true_iff.mp h).2⟩
def spSame (K : PySem.W.Frag) (n : Nat) : Sp := fun vs H Q _ => ∃ (x y : V) (d : PyData), vs = [x, y] ∧ Dp K H x d ∧ Dp K H y d ∧ d.depth < n ∧ slim d = true ∧ ∀ H', Same H H' → Q (.bl true) H'
theorem bF {b : Bool} {A B : Prop} (h : B) : if (!decide (V.bl b = V.bl b)) = true then A else B := by
  rw [decide_eq_true rfl]; exact iteF h
section
variable {P : Program} {w : World} {K : PySem.W.Frag} {mg : Str → Option Value} {base : Heap}
abbrev s_law_same : Stmt := topS 47
theorem sc_law_same : FnScope ["actual", "due", "k"] ["actual", "due"] (defScope s_law_same) := ⟨rfl, rfl, rfl, by decide +kernel, rfl, by decide +kernel, by decide +kernel⟩
-- slots: 0:actual(cell) 1:due(cell) 2:k(comp)
theorem ok_same {n : Nat} {f : Addr} {fd : FuncData} (F : Fun K "_law_same" "_law_same" s_law_same f fd) (T : Txt K mg) (C_law_same : C8.Cal P w K mg base n "_law_same" (spSame K n) []) :
    FnOk P w K mg base CX0 (n + 1) f fd ["actual", "due"] (spSame K (n + 1)) := by
  refine F.ok sc_law_same (fun vs H Q E h => ?_) (fun cdv A outer s H vs Q E hr h => ?_)
  · obtain ⟨x, y, d, rfl, _⟩ := h
    rfl
  obtain ⟨x, y, d, rfl, hx, hy, hd, hsl, q⟩ := h
  refine ⟨_, (pss_cons (ps_if (pt_cmpR op_isN (pv 1) pe_non (nomark _)) (pss_one (ps_ret (pe_cmpR op_isN (pv 0) pe_non (nomark _)))) pss_nil)
    (pss_cons (ps_if (PW.pt (pw_or (pt_cmpR op_ne (pe_callB call_isi (by rfl) T.z_isinstance (by decide +kernel) (pa_cons (pv 1) (pa_cons (pe_bltn (v := .ty "tuple") (by rfl) T.z_tuple (by decide +kernel) rfl) pa_nil))) (pe_callB call_isi (by rfl) T.z_isinstance (by decide +kernel) (pa_cons (pv 0) (pa_cons (pe_bltn (v := .ty "tuple") (by rfl) T.z_tuple (by decide +kernel) rfl) pa_nil))) (nomark _)) (pw_or1 (pt_cmpR op_ne (pe_callB call_isi (by rfl) T.z_isinstance (by decide +kernel) (pa_cons (pv 1) (pa_cons (pe_bltn (v := .ty "list") (by rfl) T.z_list (by decide +kernel) rfl) pa_nil))) (pe_callB call_isi (by rfl) T.z_isinstance (by decide +kernel) (pa_cons (pv 0) (pa_cons (pe_bltn (v := .ty "list") (by rfl) T.z_list (by decide +kernel) rfl) pa_nil))) (nomark _))))) (pss_one (ps_ret pe_bl)) pss_nil)
    (pss_cons (ps_if (PW.pt (pw_or (pt_val (pe_callB call_isi (by rfl) T.z_isinstance (by decide +kernel) (pa_cons (pv 1) (pa_cons (pe_bltn (v := .ty "tuple") (by rfl) T.z_tuple (by decide +kernel) rfl) pa_nil)))) (pw_or1 (pt_val (pe_callB call_isi (by rfl) T.z_isinstance (by decide +kernel) (pa_cons (pv 1) (pa_cons (pe_bltn (v := .ty "list") (by rfl) T.z_list (by decide +kernel) rfl) pa_nil))))))) (pss_one (ps_ret (pe_and (pe_cmpR op_eq (pe_callB call_len_seq (by rfl) T.z_len (by decide +kernel) (pa_cons (pv 0) pa_nil)) (pe_callB call_len_seq (by rfl) T.z_len (by decide +kernel) (pa_cons (pv 1) pa_nil)) (nomark _)) (pe_one (pe_callB (cr_all (by rfl)) (by rfl) T.z_all (by decide +kernel) (pa_cons (pe_lc (own := [("k", 2)]) (g := (gName 2)) (tt := tYes) (by rfl) sc_law_same.nd (pi_range1 (by rfl) T.z_range (pa_cons (pe_callB call_len_seq (by rfl) T.z_len (by decide +kernel) (pa_cons (pv 1) pa_nil)) pa_nil)) (blkOk_by (N := ["actual", "due", "k"]) (sc := defScope s_law_same) (by decide +kernel)) (fun _ _ _ _ _ => (pg_name (i := 2) sc_law_same.nd rfl (Or.inl rfl))) (fun _ _ _ _ _ => pts_nil) (fun _ _ _ _ _ => (C8.pe_c C_law_same hr (by omega) rfl (pa_cons (pe_ix (r := rIx K) ix_seq (pv 0) (pv 2) (fun _ _ => rfl)) (pa_cons (pe_ix (r := rIx K) ix_seq (pv 1) (pv 2) (fun _ _ => rfl)) pa_nil))))) pa_nil)))))) pss_nil)
    (pss_cons (ps_if (PW.pt (pw_or (pt_cmpR op_ne (pe_callB call_isi (by rfl) T.z_isinstance (by decide +kernel) (pa_cons (pv 1) (pa_cons (pe_bltn (v := .ty "bool") (by rfl) T.z_bool (by decide +kernel) rfl) pa_nil))) (pe_callB call_isi (by rfl) T.z_isinstance (by decide +kernel) (pa_cons (pv 0) (pa_cons (pe_bltn (v := .ty "bool") (by rfl) T.z_bool (by decide +kernel) rfl) pa_nil))) (nomark _)) (pw_or1 (pt_cmpR op_ne (pe_callB call_isi (by rfl) T.z_isinstance (by decide +kernel) (pa_cons (pv 1) (pa_cons (pe_bltn (v := .ty "str") (by rfl) T.z_str (by decide +kernel) rfl) pa_nil))) (pe_callB call_isi (by rfl) T.z_isinstance (by decide +kernel) (pa_cons (pv 0) (pa_cons (pe_bltn (v := .ty "str") (by rfl) T.z_str (by decide +kernel) rfl) pa_nil))) (nomark _))))) (pss_one (ps_ret pe_bl)) pss_nil)
    (pss_one (ps_ret (pe_and (pe_cmpR op_eq (pe_callB call_isi (by rfl) T.z_isinstance (by decide +kernel) (pa_cons (pv 1) (pa_cons (pe_bltn (v := .ty "int") (by rfl) T.z_int (by decide +kernel) rfl) pa_nil))) (pe_callB call_isi (by rfl) T.z_isinstance (by decide +kernel) (pa_cons (pv 0) (pa_cons (pe_bltn (v := .ty "int") (by rfl) T.z_int (by decide +kernel) rfl) pa_nil))) (nomark _)) (pe_one (pe_cmpR op_eq (pv 0) (pv 1) (nomark _)))))))))), ?_⟩
  have q0 := q H (Same.refl H)
  -- what is left for a scalar
  cases d with
  | none =>
    cases hx; cases hy
    exact ⟨_, rfl, rfl, _, rfl, iteT ⟨_, rfl, rfl, q0⟩⟩
  | bool b =>
    cases hx; cases hy
    have ty : TyX K H (.bl b) (.type "bool") := .base (.bl b)
    refine ⟨_, rfl, rfl, _, rfl, iteF (vIsi rfl ty (b := false) (by decide +kernel) (vIsi rfl ty (b := false) (by decide +kernel) ⟨rfl, _, rfl, bF (vIsi rfl ty (b := false) (by decide +kernel) (vIsi rfl ty (b := false) (by decide +kernel) ⟨rfl, _, rfl, bF ?_⟩))⟩))⟩
    refine vIsi rfl ty (b := false) (by decide +kernel) ⟨_, rfl, iteF (vIsi rfl ty (b := false) (by decide +kernel) ⟨_, rfl, iteF ?_⟩)⟩
    refine vIsi rfl ty (b := true) (by decide +kernel) (vIsi rfl ty (b := true) (by decide +kernel) ⟨rfl, _, rfl, bF (vIsi rfl ty (b := false) (by decide +kernel) (vIsi rfl ty (b := false) (by decide +kernel) ⟨rfl, _, rfl, bF ?_⟩))⟩)
    refine vIsi rfl ty (b := true) (by decide +kernel) (vIsi rfl ty (b := true) (by decide +kernel) ⟨rfl, _, rfl, ?_⟩)
    refine iteT ⟨_, rfl, _, rfl, rfl, ?_⟩
    rw [decide_eq_true rfl]
    exact q0
  | int b =>
    cases hx; cases hy
    have ty : TyX K H (.int b) (.type "int") := .base (.int b)
    refine ⟨_, rfl, rfl, _, rfl, iteF (vIsi rfl ty (b := false) (by decide +kernel) (vIsi rfl ty (b := false) (by decide +kernel) ⟨rfl, _, rfl, bF (vIsi rfl ty (b := false) (by decide +kernel) (vIsi rfl ty (b := false) (by decide +kernel) ⟨rfl, _, rfl, bF ?_⟩))⟩))⟩
    refine vIsi rfl ty (b := false) (by decide +kernel) ⟨_, rfl, iteF (vIsi rfl ty (b := false) (by decide +kernel) ⟨_, rfl, iteF ?_⟩)⟩
    refine vIsi rfl ty (b := false) (by decide +kernel) (vIsi rfl ty (b := false) (by decide +kernel) ⟨rfl, _, rfl, bF (vIsi rfl ty (b := false) (by decide +kernel) (vIsi rfl ty (b := false) (by decide +kernel) ⟨rfl, _, rfl, bF ?_⟩))⟩)
    refine vIsi rfl ty (b := true) (by decide +kernel) (vIsi rfl ty (b := true) (by decide +kernel) ⟨rfl, _, rfl, ?_⟩)
    refine iteT ⟨_, rfl, _, rfl, rfl, ?_⟩
    rw [decide_eq_true rfl]
    exact q0
  | str b =>
    cases hx; cases hy
    have ty : TyX K H (.str b) (.type "str") := .base (.str b)
    refine ⟨_, rfl, rfl, _, rfl, iteF (vIsi rfl ty (b := false) (by decide +kernel) (vIsi rfl ty (b := false) (by decide +kernel) ⟨rfl, _, rfl, bF (vIsi rfl ty (b := false) (by decide +kernel) (vIsi rfl ty (b := false) (by decide +kernel) ⟨rfl, _, rfl, bF ?_⟩))⟩))⟩
    refine vIsi rfl ty (b := false) (by decide +kernel) ⟨_, rfl, iteF (vIsi rfl ty (b := false) (by decide +kernel) ⟨_, rfl, iteF ?_⟩)⟩
    refine vIsi rfl ty (b := false) (by decide +kernel) (vIsi rfl ty (b := false) (by decide +kernel) ⟨rfl, _, rfl, bF (vIsi rfl ty (b := true) (by decide +kernel) (vIsi rfl ty (b := true) (by decide +kernel) ⟨rfl, _, rfl, bF ?_⟩))⟩)
    refine vIsi rfl ty (b := false) (by decide +kernel) (vIsi rfl ty (b := false) (by decide +kernel) ⟨rfl, _, rfl, ?_⟩)
    refine iteT ⟨_, rfl, _, rfl, rfl, ?_⟩
    rw [decide_eq_true rfl]
    exact q0
  | dict kvs => cases hx
  | tuple ds =>
    cases hx with
    | tup sx ax =>
    cases hy with
    | tup sy ay =>
    rename_i px xs py ys
    have tx := ty_tup sx
    have ty := ty_tup sy
    have lx := DpAll.length ax
    have ly := DpAll.length ay
    have hd' : PyData.depthAll ds + 1 < n + 1 := hd
    obtain ⟨hz, hsa⟩ := slim_seq hsl
    refine ⟨_, rfl, rfl, _, rfl, iteF (vIsi rfl ty (b := true) (by decide +kernel) (vIsi rfl tx (b := true) (by decide +kernel) ⟨rfl, _, rfl, bF (vIsi rfl ty (b := false) (by decide +kernel) (vIsi rfl tx (b := false) (by decide +kernel) ⟨rfl, _, rfl, bF ?_⟩))⟩))⟩
    refine vIsi rfl ty (b := true) (by decide +kernel) ⟨_, rfl, iteT (iteT ?_)⟩
    refine ⟨_, rfl, px, _, rfl, .inr sx, _, rfl, py, _, rfl, .inr sy, rfl, _, rfl, ?_⟩
    rw [show xs.length = ys.length by omega, decide_eq_true rfl]
    refine iteT ⟨_, rfl, py, _, rfl, .inr sy, _, rfl, by omega, by omega, fun D hD => lc_range (lo := 0) (n := ((ys.length : Nat) : Int).toNat) (fun i H' => i ≤ ys.length ∧ Same H H' ∧ H' D = some (.lst ((List.replicate i true).map V.bl))) ?_ ?_ ?_⟩
    · exact ⟨Nat.zero_le _, same_new hD, upd_same⟩
    · rintro i H' hi ⟨_, sm, hl⟩
      have hi' : i < ys.length := by omega
      have hi2 : i < ds.length := by omega
      have gd : ds[i]? = some ds[i] := List.getElem?_eq_getElem hi2
      obtain ⟨x1, gx, dx⟩ := DpAll.get ax gd
      obtain ⟨y1, gy, dy⟩ := DpAll.get ay gd
      have dd := depth_get gd
      have e0 : (0 : Int) + (i : Int) = (i : Int) := Int.zero_add _
      refine ⟨rfl, yes_ ⟨_, rfl, _, rfl, .inr (.inl ⟨px, xs, _, x1, rfl, rfl, Same.seqT sm sx, by rw [e0]; exact atI_nat gx, ?_⟩)⟩⟩
      refine ⟨_, rfl, _, rfl, .inr (.inl ⟨py, ys, _, y1, rfl, rfl, Same.seqT sm sy, by rw [e0]; exact atI_nat gy, ?_⟩)⟩
      refine ⟨x1, y1, ds[i], rfl, Dp.same dx sm, Dp.same dy sm, by omega, slim_get hsa gd, fun H2 s2 => ⟨_, s2 _ _ hl, ?_, hi', Same.upd (sm.trans s2) hD, ?_⟩⟩
      · rw [List.length_map, List.length_replicate]; exact smallL (by omega)
      · rw [upd_same, List.replicate_succ', List.map_append]; rfl
    · rintro H' ⟨_, sm, hl⟩
      refine ⟨D, _, rfl, SqL.of hl, ?_⟩
      have e2 : (List.replicate ((ys.length : Nat) : Int).toNat true).all id = true := by simp
      rw [e2]
      exact q H' sm
  | list ds =>
    cases hx with
    | lst sx ax =>
    cases hy with
    | lst sy ay =>
    rename_i px xs py ys
    have tx := ty_lst sx
    have ty := ty_lst sy
    have lx := DpAll.length ax
    have ly := DpAll.length ay
    have hd' : PyData.depthAll ds + 1 < n + 1 := hd
    obtain ⟨hz, hsa⟩ := slim_lst hsl
    refine ⟨_, rfl, rfl, _, rfl, iteF (vIsi rfl ty (b := false) (by decide +kernel) (vIsi rfl tx (b := false) (by decide +kernel) ⟨rfl, _, rfl, bF (vIsi rfl ty (b := true) (by decide +kernel) (vIsi rfl tx (b := true) (by decide +kernel) ⟨rfl, _, rfl, bF ?_⟩))⟩))⟩
    refine vIsi rfl ty (b := false) (by decide +kernel) ⟨_, rfl, iteF (vIsi rfl ty (b := true) (by decide +kernel) ⟨_, rfl, iteT ?_⟩)⟩
    refine ⟨_, rfl, px, _, rfl, .inl sx, _, rfl, py, _, rfl, .inl sy, rfl, _, rfl, ?_⟩
    rw [show xs.length = ys.length by omega, decide_eq_true rfl]
    refine iteT ⟨_, rfl, py, _, rfl, .inl sy, _, rfl, by omega, by omega, fun D hD => lc_range (lo := 0) (n := ((ys.length : Nat) : Int).toNat) (fun i H' => i ≤ ys.length ∧ Same H H' ∧ H' D = some (.lst ((List.replicate i true).map V.bl))) ?_ ?_ ?_⟩
    · exact ⟨Nat.zero_le _, same_new hD, upd_same⟩
    · rintro i H' hi ⟨_, sm, hl⟩
      have hi' : i < ys.length := by omega
      have hi2 : i < ds.length := by omega
      have gd : ds[i]? = some ds[i] := List.getElem?_eq_getElem hi2
      obtain ⟨x1, gx, dx⟩ := DpAll.get ax gd
      obtain ⟨y1, gy, dy⟩ := DpAll.get ay gd
      have dd := depth_get gd
      have e0 : (0 : Int) + (i : Int) = (i : Int) := Int.zero_add _
      refine ⟨rfl, yes_ ⟨_, rfl, _, rfl, .inl (id ⟨px, xs, _, x1, rfl, rfl, sm.seq sx, by rw [e0]; exact atI_nat gx, ?_⟩)⟩⟩
      refine ⟨_, rfl, _, rfl, .inl (id ⟨py, ys, _, y1, rfl, rfl, sm.seq sy, by rw [e0]; exact atI_nat gy, ?_⟩)⟩
      refine ⟨x1, y1, ds[i], rfl, Dp.same dx sm, Dp.same dy sm, by omega, slim_get hsa gd, fun H2 s2 => ⟨_, s2 _ _ hl, ?_, hi', Same.upd (sm.trans s2) hD, ?_⟩⟩
      · rw [List.length_map, List.length_replicate]; exact smallL (by omega)
      · rw [upd_same, List.replicate_succ', List.map_append]; rfl
    · rintro H' ⟨_, sm, hl⟩
      refine ⟨D, _, rfl, SqL.of hl, ?_⟩
      have e2 : (List.replicate ((ys.length : Nat) : Int).toNat true).all id = true := by simp
      rw [e2]
      exact q H' sm
end
end PK
namespace PK
open PySem L2
section
variable {X : Cx} {x : Str} {p : Pos}
theorem pe_glI {n : Int} (hg : Gl X x) (h : ∃ t, X.mg x = some (.int n t)) (hd : (x == ("__debug__" : Str)) = false := by decide) : PE X (.Name x p) (tC (.int n)) := by
  obtain ⟨t, h⟩ := h
  exact pe_glob hg h ⟨_, rfl⟩ hd
theorem pe_glS {s : Str} (hg : Gl X x) (h : ∃ t, X.mg x = some (.str s t)) (hd : (x == ("__debug__" : Str)) = false := by decide) : PE X (.Name x p) (tC (.str s)) := by
  obtain ⟨t, h⟩ := h
  exact pe_glob hg h ⟨_, rfl⟩ hd
end
theorem le_le {i j k : Int} {H : Hp} {Q : Bool → Hp → Prop} (h : Q (decide (i ≤ j ∧ j ≤ k)) H) :
    ∃ a b, V.int i = .int a ∧ V.int j = .int b ∧ ∃ y, V.bl (decide (a ≤ b)) = .bl y ∧ (if y = true then ∃ a b, V.int j = .int a ∧ V.int k = .int b ∧ ∃ z, V.bl (decide (a ≤ b)) = .bl z ∧ Q z H else ∃ z, V.bl false = .bl z ∧ Q z H) := by
  refine ⟨_, _, rfl, rfl, _, rfl, ?_⟩
  by_cases e : i ≤ j
  · rw [decide_eq_true e]
    refine iteT ⟨_, _, rfl, rfl, _, rfl, ?_⟩
    by_cases f : j ≤ k
    · rw [decide_eq_true f]; rwa [decide_eq_true ⟨e, f⟩] at h
    · rw [decide_eq_false f]; rwa [decide_eq_false (fun z => f z.2)] at h
  · rw [decide_eq_false e]
    refine iteF ⟨_, rfl, ?_⟩
    rwa [decide_eq_false (fun z => e z.1)] at h
/-- a list or a tuple -/
def Sq (K : PySem.W.Frag) (H : Hp) (p : Addr) (xs : List V) : Prop := SqL K H p xs ∨ SqT K H p xs
theorem Sq.same {K : PySem.W.Frag} {H H' : Hp} {p : Addr} {xs : List V} (h : Sq K H p xs) (e : Same H H') : Sq K H' p xs := h.imp (fun q => e.seq q) fun q => Same.seqT e q
theorem for_seq {K : PySem.W.Frag} {i : Nat} {p : Addr} {xs : List V} {g : TG} {tb : TS} {D : Ends} {σ : L2.St} {H0 H : Hp} (hq : Sq K H0 p xs) (hv : σ[i]? = some (some (.ref p))) (Pv : Nat → L2.St → Hp → Prop) (h0 : Pv 0 σ H)
    (hG : ∀ i σ H, i ≤ xs.length → Pv i σ H → Same H0 H) (hs : ∀ i x σ H, xs[i]? = some x → Pv i σ H → g x σ H fun σ2 H2 => tb { D with nx := Pv (i + 1), ct := Pv (i + 1), bk := D.nx } σ2 H2) (hd : ∀ σ H, Pv xs.length σ H → D.nx σ H) :
    tFor (fun σ H R => iList K (tVar i) σ H R ∨ iTup K (tVar i) σ H R) g tb D σ H := by
  have e0 := hG 0 σ H (Nat.zero_le _) h0
  rcases hq with hq | hq
  · refine .inl ⟨_, hv, p, rfl, ⟨xs, e0.seq hq⟩, for_it (walk_list (xs := xs)) Pv h0 (fun j σ H hj k => (hG j σ H hj k).seq hq) (fun j x σ H H' hj k y => ?_) hd⟩
    obtain ⟨rfl, gx⟩ := y
    exact hs j x σ H' gx k
  · refine .inr ⟨_, hv, p, rfl, ⟨xs, Same.seqT e0 hq⟩, for_it (walk_tup (xs := xs)) Pv h0 (fun j σ H hj k => Same.seqT (hG j σ H hj k) hq) (fun j x σ H H' hj k y => ?_) hd⟩
    obtain ⟨rfl, gx⟩ := y
    exact hs j x σ H' gx k
theorem walk_enumT {K : PySem.W.Frag} {a : Addr} {xs : List V} : Walk (PKR.ItE K a) xs.length (fun H => SqT K H a xs) (YPair (fun i => some (.int (i : Nat))) (fun i => xs[i]?)) := by
  refine ⟨fun i _ hi q => ⟨xs, xs[i], q, by simp [hi]⟩, fun _ q => ⟨xs, q, rfl⟩, fun i H v H' _ q y => ?_⟩
  obtain ⟨T, x, h1, h2, h3, h4⟩ := y
  exact ⟨T, .int (i : Nat), x, h1, h2, h3, rfl, h4 xs q⟩
theorem for_enum {K : PySem.W.Frag} {i : Nat} {p : Addr} {xs : List V} {g : TG} {tb : TS} {D : Ends} {σ : L2.St} {H0 H : Hp} (hq : Sq K H0 p xs) (hv : σ[i]? = some (some (.ref p))) (Pv : Nat → L2.St → Hp → Prop) (h0 : Pv 0 σ H)
    (hG : ∀ i σ H, i ≤ xs.length → Pv i σ H → Same H0 H) (hs : ∀ i x σ H T, xs[i]? = some x → Pv i σ H → H T = none → g (.ref T) σ (upd H T (.tup [.int (i : Nat), x])) fun σ2 H2 => tb { D with nx := Pv (i + 1), ct := Pv (i + 1), bk := D.nx } σ2 H2)
    (hd : ∀ σ H, Pv xs.length σ H → D.nx σ H) :
    tFor (fun σ H R => iEnum K (tCons (tVar i) tNil) σ H R ∨ PKR.iEnumT K (tCons (tVar i) tNil) σ H R) g tb D σ H := by
  have e0 := hG 0 σ H (Nat.zero_le _) h0
  rcases hq with hq | hq
  · refine .inl ⟨_, hv, p, xs, rfl, e0.seq hq, for_it (walk_enum (xs := xs)) Pv h0 (fun j σ H hj k => (hG j σ H hj k).seq hq) (fun j x σ H H' hj k y => ?_) hd⟩
    obtain ⟨T, a, b, rfl, hT, rfl, ea, eb⟩ := y
    cases ea
    exact hs j b σ H T eb k hT
  · refine .inr ⟨_, hv, p, xs, rfl, Same.seqT e0 hq, for_it (walk_enumT (xs := xs)) Pv h0 (fun j σ H hj k => Same.seqT (hG j σ H hj k) hq) (fun j x σ H H' hj k y => ?_) hd⟩
    obtain ⟨T, a, b, rfl, hT, rfl, ea, eb⟩ := y
    cases ea
    exact hs j b σ H T eb k hT
structure TxtP (K : PySem.W.Frag) (mg : Str → Option Value) (aS : Addr) : Prop extends Txt K mg where
  g_MC : ∃ t, mg "MOST_CHARACTERS" = some (.int 12 t)
  g_LET : ∃ t, mg "LETTERS" = some (.str LET t)
  g_DIG : ∃ t, mg "DIGITS" = some (.str "0123456789" t)
  g_OTH : ∃ t, mg "WORD_CHARACTERS" = some (.str OTH t)
  g_SEP : ∃ t, mg "_SEPARATORS" = some (.str " \n" t)
  g_MT : ∃ t, mg "MOST_TEXT" = some (.int 4000 t)
  g_MO : ∃ t, mg "MOST_OPEN" = some (.int 60 t)
  g_MI : ∃ t, mg "MOST_INTEGER" = some (.int 15 t)
  g_MA : ∃ t, mg "MOST_ADDRESS" = some (.int 9 t)
  g_S : mg "_SIGNS" = some (.ref aS)
  signs : ∀ H, SqT K H aS [.str "(", .str ")", .str "{", .str "}"]
def isWd (x : Str) : Bool := decide (1 ≤ x.length ∧ x.length ≤ 12) && (decide (x.cps.toList.headD 0 ∈ LET.cps.toList) && x.cps.toList.all fun s => decide (s ∈ OTH.cps.toList))
def spWord : Sp := fun vs H Q _ => ∃ x : Str, vs = [.str x] ∧ x.length ≤ 10000 ∧ ∀ H', Same H H' → Q (.bl (isWd x)) H'
def spWhole : Sp := fun vs H Q _ => ∃ n : Int, vs = [.int n] ∧ Q (.bl true) H
section
variable {P : Program} {w : World} {K : PySem.W.Frag} {mg : Str → Option Value} {base : Heap} {aS : Addr}
abbrev s_is_word : Stmt := topS 5
theorem sc_is_word : FnScope ["text", "sign"] ["text"] (defScope s_is_word) := ⟨rfl, rfl, rfl, by decide +kernel, rfl, by decide +kernel, by decide +kernel⟩
-- slots: 0:text 1:sign(comp)
abbrev s_is_whole : Stmt := topS 6
theorem sc_is_whole : FnScope ["number"] ["number"] (defScope s_is_whole) := ⟨rfl, rfl, rfl, by decide +kernel, rfl, by decide +kernel, by decide +kernel⟩
-- slots: 0:number
theorem ok_whole {f : Addr} {fd : FuncData} (F : Fun K "is_whole" "is_whole" s_is_whole f fd) (T : TxtP K mg aS) : FnOk P w K mg base CX0 1 f fd ["number"] spWhole := by
  refine F.ok sc_is_whole (fun vs H Q E h => ?_) (fun cdv A outer s H vs Q E hr h => ?_)
  · obtain ⟨x, rfl, _⟩ := h
    rfl
  obtain ⟨n, rfl, q⟩ := h
  refine ⟨_, (pss_one (ps_ret (pe_and (pe_callB call_isi (by rfl) T.z_isinstance (by decide +kernel) (pa_cons (pv 0) (pa_cons (pe_bltn (v := .ty "int") (by rfl) T.z_int (by decide +kernel) rfl) pa_nil))) (pe_one (pe_not (pe_callB call_isi (by rfl) T.z_isinstance (by decide +kernel) (pa_cons (pv 0) (pa_cons (pe_bltn (v := .ty "bool") (by rfl) T.z_bool (by decide +kernel) rfl) pa_nil)))))))), ?_⟩
  have ty : TyX K H (.int n) (.type "int") := .base (.int n)
  refine vIsi rfl ty (b := true) (by decide +kernel) ⟨_, rfl, iteT (vIsi rfl ty (b := false) (by decide +kernel) ⟨_, rfl, ?_⟩)⟩
  exact q
theorem ok_word {f : Addr} {fd : FuncData} (F : Fun K "is_word" "is_word" s_is_word f fd) (T : TxtP K mg aS) : FnOk P w K mg base CX0 1 f fd ["text"] spWord := by
  refine F.ok sc_is_word (fun vs H Q E h => ?_) (fun cdv A outer s H vs Q E hr h => ?_)
  · obtain ⟨x, rfl, _⟩ := h
    rfl
  obtain ⟨x, rfl, hx, q⟩ := h
  refine ⟨_, (pss_cons (ps_if (PW.pt (pw_or (pt_not (pt_val (pe_callB call_isi (by rfl) T.z_isinstance (by decide +kernel) (pa_cons (pv 0) (pa_cons (pe_bltn (v := .ty "str") (by rfl) T.z_str (by decide +kernel) rfl) pa_nil))))) (pw_or1 (pt_not (pt_chain op_le op_le pe_int (pe_callB call_len_str (by rfl) T.z_len (by decide +kernel) (pa_cons (pv 0) pa_nil)) (pe_glI (n := 12) rfl T.g_MC)))))) (pss_one (ps_ret pe_bl)) pss_nil)
    (pss_one (ps_ret (pe_and (pe_cmpR op_in_sign (pe_ix ix_str (pv 0) pe_int (fun _ _ => rfl)) (pe_glS (s := LET) rfl T.g_LET) rfl) (pe_one (pe_callB (cr_all (by rfl)) (by rfl) T.z_all (by decide +kernel) (pa_cons (pe_lc (own := [("sign", 1)]) (g := (gName 1)) (tt := tYes) (by rfl) sc_is_word.nd (pi_str (pv 0)) (blkOk_by (N := ["text", "sign"]) (sc := defScope s_is_word) (by decide +kernel)) (fun _ _ _ _ _ => (pg_name (i := 1) sc_is_word.nd rfl (Or.inl rfl))) (fun _ _ _ _ _ => pts_nil) (fun _ _ _ _ _ => (pe_cmpR op_in_sign (pv 1) (pe_glS (s := OTH) rfl T.g_OTH) rfl))) pa_nil))))))), ?_⟩
  have ty : TyX K H (.str x) (.type "str") := .base (.str x)
  refine vIsi rfl ty (b := true) (by decide +kernel) ?_
  refine ⟨_, rfl, iteF ⟨_, rfl, x, rfl, small (by omega), le_le ?_⟩⟩
  by_cases hl : 1 ≤ x.length ∧ x.length ≤ 12
  · rw [decide_eq_true (show (1 : Int) ≤ (x.length : Int) ∧ (x.length : Int) ≤ 12 by omega)]
    have en : x.cps.toList.length = x.length := (len_list x).symm
    obtain ⟨s0, r, e0⟩ : ∃ s0 r, x.cps.toList = s0 :: r := by
      cases e : x.cps.toList with
      | nil => rw [e] at en; simp at en; omega
      | cons a b => exact ⟨a, b, rfl⟩
    refine iteF ⟨_, rfl, x, 0, s0, rfl, rfl, small (by omega), by rw [e0]; exact atI_nat (j := 0) rfl, s0, LET, rfl, rfl, ⟨_, rfl, ?_⟩⟩
    have fin : isWd x = (decide (s0 ∈ LET.cps.toList) && x.cps.toList.all fun s => decide (s ∈ OTH.cps.toList)) := by
      unfold isWd
      rw [decide_eq_true hl, e0]; rfl
    by_cases h0 : s0 ∈ LET.cps.toList
    · rw [decide_eq_true h0]
      refine iteT ⟨_, rfl, x, rfl, fun D hD => lc_it (walk_str (z := x)) (fun i H' => Same H H' ∧ H' D = some (.lst (((x.cps.toList.take i).map fun s => decide (s ∈ OTH.cps.toList)).map V.bl))) ?_ (fun _ _ _ _ => trivial) ?_ ?_⟩
      · exact ⟨same_new hD, upd_same⟩
      · rintro i v H1 H2 hi ⟨sm, hd⟩ ⟨rfl, c, gc, rfl⟩
        have gl : x.cps.toList[i]? = some c := by simpa using gc
        refine ⟨rfl, yes_ ⟨_, rfl, c, OTH, rfl, rfl, _, hd, ?_, Same.upd sm hD, ?_⟩⟩
        · rw [List.length_map, List.length_map, List.length_take]; exact smallL (by omega)
        · rw [upd_same, List.take_add_one, gl]; simp
      · rintro H' ⟨sm, hd⟩
        have z : x.cps.toList.take x.cps.size = x.cps.toList := List.take_of_length_le (by simp)
        rw [z] at hd
        refine ⟨D, _, rfl, SqL.of hd, ?_⟩
        have := q H' sm
        rw [fin, decide_eq_true h0, Bool.true_and] at this
        rwa [List.all_map]
    · rw [decide_eq_false h0]
      refine iteF ?_
      have := q H (Same.refl H)
      rwa [fin, decide_eq_false h0, Bool.false_and] at this
  · rw [decide_eq_false (show ¬ ((1 : Int) ≤ (x.length : Int) ∧ (x.length : Int) ≤ 12) by omega)]
    have := q H (Same.refl H)
    unfold isWd at this
    rw [decide_eq_false hl, Bool.false_and] at this
    exact iteT this
end
end PK
namespace PK
open PySem L2
/-! tokens: where a run of signs ends -/
abbrev DIGS : Str := "0123456789"
/-- how many signs of S stand at the beginning -/
def runN (S : List Nat) : List Nat → Nat
  | [] => 0
  | c :: r => if c ∈ S then runN S r + 1 else 0
theorem run_cons (S : List Nat) (c : Nat) (r : List Nat) : runN S (c :: r) = if c ∈ S then runN S r + 1 else 0 := rfl
theorem runN_le (S : List Nat) : ∀ l : List Nat, runN S l ≤ l.length
  | [] => Nat.le_refl _
  | c :: r => by
    unfold runN
    split
    · have := runN_le S r; rw [List.length_cons]; omega
    · exact Nat.zero_le _
theorem le_leV {i j k : Int} {H : Hp} {Q : Bool → Hp → Prop} (h : Q (decide (i ≤ j ∧ j ≤ k)) H) :
    ∃ a b, V.int i = .int a ∧ V.int j = .int b ∧ ∃ y, V.bl (decide (a ≤ b)) = .bl y ∧ (if y = true then ∃ u, some (some (V.int k)) = some (some u) ∧ ∃ a b, V.int j = .int a ∧ u = .int b ∧ ∃ z, V.bl (decide (a ≤ b)) = .bl z ∧ Q z H else ∃ z, V.bl false = .bl z ∧ Q z H) := by
  obtain ⟨a, b, h1, h2, y, h3, h4⟩ := le_le (i := i) (j := j) (k := k) (H := H) (Q := Q) h
  refine ⟨a, b, h1, h2, y, h3, ?_⟩
  cases y with
  | false => exact h4
  | true => exact ⟨_, rfl, h4⟩
def spEnd : Sp := fun vs H Q _ => ∃ (x z : Str) (s : Nat), vs = [.str x, .int (s : Nat), .str z] ∧ s ≤ x.length ∧ x.length ≤ 10000 ∧ Q (.int ((s + runN z.cps.toList (x.cps.toList.drop s) : Nat))) H
section
variable {P : Program} {w : World} {K : PySem.W.Frag} {mg : Str → Option Value} {base : Heap} {aS : Addr}
abbrev s_end_of_run : Stmt := topS 22
theorem sc_end_of_run : FnScope ["text", "start", "characters", "end"] ["text", "start", "characters"] (defScope s_end_of_run) := ⟨rfl, rfl, rfl, by decide +kernel, rfl, by decide +kernel, by decide +kernel⟩
-- slots: 0:text 1:start 2:characters 3:end
abbrev s_token_end : Stmt := topS 23
theorem sc_token_end : FnScope ["text", "start", "first"] ["text", "start"] (defScope s_token_end) := ⟨rfl, rfl, rfl, by decide +kernel, rfl, by decide +kernel, by decide +kernel⟩
-- slots: 0:text 1:start 2:first
abbrev s_is_number : Stmt := topS 24
theorem sc_is_number : FnScope ["digits", "most"] ["digits", "most"] (defScope s_is_number) := ⟨rfl, rfl, rfl, by decide +kernel, rfl, by decide +kernel, by decide +kernel⟩
-- slots: 0:digits 1:most
theorem ok_end {f : Addr} {fd : FuncData} (F : Fun K "_end_of_run" "_end_of_run" s_end_of_run f fd) (T : TxtP K mg aS) : FnOk P w K mg base CX0 1 f fd ["text", "start", "characters"] spEnd := by
  refine F.ok sc_end_of_run (fun vs H Q E h => ?_) (fun cdv A outer s H vs Q E hr h => ?_)
  · obtain ⟨_, _, _, rfl, _⟩ := h
    rfl
  obtain ⟨x, z, st, rfl, hs, hx, q⟩ := h
  refine ⟨_, (pss_cons (ps_set (i := 3) sc_end_of_run.nd rfl (Or.inl rfl) (pv 1))
    (pss_cons (ps_while PassesOwn.never (PW.pt (pw_and (pt_cmpR op_lt (pv 3) (pe_callB call_len_str (by rfl) T.z_len (by decide +kernel) (pa_cons (pv 0) pa_nil)) (nomark _)) (pw_and1 (pt_cmpR op_in_sign (pe_ix ix_str (pv 0) (pv 3) (fun _ _ => rfl)) (pv 2) rfl)))) (pss_one (ps_aug (i := 3) sc_end_of_run.nd rfl (Or.inl rfl) pe_int ip_add)))
    (pss_one (ps_ret (pv 3))))), ?_⟩
  have en : x.cps.toList.length = x.length := (len_list x).symm
  refine ⟨_, rfl, fun m σ H' => ∃ e : Nat, σ = [some (.str x), some (.int (st : Nat)), some (.str z), some (.int (e : Nat))] ∧ H' = H ∧ m = x.length - e ∧ e ≤ x.length ∧ e + runN z.cps.toList (x.cps.toList.drop e) = st + runN z.cps.toList (x.cps.toList.drop st), ⟨_, st, rfl, rfl, rfl, hs, rfl⟩, ?_⟩
  rintro m σ H' ⟨e, rfl, rfl, rfl, he, eq⟩
  have stop : runN z.cps.toList (x.cps.toList.drop e) = 0 → Q (.int (e : Nat)) H' := fun h => by
    rw [h, Nat.add_zero] at eq
    rw [eq]; exact q
  refine ⟨_, rfl, ⟨_, rfl, x, rfl, small (by omega), _, _, rfl, rfl, _, rfl, ?_⟩⟩
  by_cases hl : e < x.length
  · have he2 : e < x.cps.toList.length := by omega
    have dr : x.cps.toList.drop e = x.cps.toList[e] :: x.cps.toList.drop (e + 1) := List.drop_eq_getElem_cons he2
    rw [decide_eq_true (show (e : Int) < (x.length : Int) by omega)]
    refine iteT ⟨_, rfl, _, rfl, x, (e : Int), x.cps.toList[e], rfl, rfl, small (by omega), atI_nat (List.getElem?_eq_getElem he2), _, rfl, x.cps.toList[e], z, rfl, rfl, _, rfl, ?_⟩
    by_cases hc : x.cps.toList[e] ∈ z.cps.toList
    · rw [decide_eq_true hc]
      refine iteT ⟨fun σ H2 => σ = [some (.str x), some (.int (st : Nat)), some (.str z), some (.int ((e + 1 : Nat) : Int))] ∧ H2 = H', fun σ' H2 ⟨e1, e2⟩ => ?_, _, rfl, _, _, rfl, rfl, rfl, rfl⟩
      refine ⟨x.length - (e + 1), by omega, e + 1, e1, e2, rfl, by omega, ?_⟩
      rw [dr, run_cons, if_pos hc] at eq
      omega
    · rw [decide_eq_false hc]
      refine iteF ⟨_, rfl, stop ?_⟩
      rw [dr, run_cons, if_neg hc]
  · rw [decide_eq_false (show ¬ (e : Int) < (x.length : Int) by omega)]
    refine iteF (iteF ⟨_, rfl, stop ?_⟩)
    rw [List.drop_eq_nil_of_le (by omega)]
    rfl
def tokEnd (cs : List Nat) (s : Nat) : Nat :=
  if cs.getD s 0 ∈ ("-@" : Str).cps.toList ∨ cs.getD s 0 ∈ DIGS.cps.toList then s + 1 + runN DIGS.cps.toList (cs.drop (s + 1))
  else if cs.getD s 0 ∈ ("'$" : Str).cps.toList ∨ cs.getD s 0 ∈ LET.cps.toList then s + 1 + runN OTH.cps.toList (cs.drop (s + 1)) else s + 1
def spTokEnd : Sp := fun vs H Q _ => ∃ (x : Str) (s : Nat), vs = [.str x, .int (s : Nat)] ∧ s < x.length ∧ x.length ≤ 10000 ∧ Q (.int (tokEnd x.cps.toList s : Nat)) H
theorem ok_tokEnd {f : Addr} {fd : FuncData} (F : Fun K "_token_end" "_token_end" s_token_end f fd) (T : TxtP K mg aS) (C_end_of_run : C8.Cal P w K mg base 1 "_end_of_run" spEnd []) : FnOk P w K mg base CX0 2 f fd ["text", "start"] spTokEnd := by
  refine F.ok sc_token_end (fun vs H Q E h => ?_) (fun cdv A outer s H vs Q E hr h => ?_)
  · obtain ⟨_, _, rfl, _⟩ := h
    rfl
  obtain ⟨x, st, rfl, hs, hx, q⟩ := h
  refine ⟨_, (pss_cons (ps_set (i := 2) sc_token_end.nd rfl (Or.inl rfl) (pe_ix ix_str (pv 0) (pv 1) (fun _ _ => rfl)))
    (pss_cons (ps_if (PW.pt (pw_or (pt_cmpR op_in_sign (pv 2) pe_str rfl) (pw_or1 (pt_cmpR op_in_sign (pv 2) (pe_glS (s := DIGS) rfl T.g_DIG) rfl)))) (pss_one (ps_ret (C8.pe_c C_end_of_run hr (by decide) rfl (pa_cons (pv 0) (pa_cons (pe_op op_add (pv 1) pe_int) (pa_cons (pe_glS (s := DIGS) rfl T.g_DIG) pa_nil)))))) pss_nil)
    (pss_cons (ps_if (PW.pt (pw_or (pt_cmpR op_in_sign (pv 2) pe_str rfl) (pw_or1 (pt_cmpR op_in_sign (pv 2) (pe_glS (s := LET) rfl T.g_LET) rfl)))) (pss_one (ps_ret (C8.pe_c C_end_of_run hr (by decide) rfl (pa_cons (pv 0) (pa_cons (pe_op op_add (pv 1) pe_int) (pa_cons (pe_glS (s := OTH) rfl T.g_OTH) pa_nil)))))) pss_nil)
    (pss_one (ps_ret (pe_op op_add (pv 1) pe_int)))))), ?_⟩
  have en : x.cps.toList.length = x.length := (len_list x).symm
  have he2 : st < x.cps.toList.length := by omega
  have eg : x.cps.toList.getD st 0 = x.cps.toList[st] := by rw [List.getD_eq_getElem?_getD, List.getElem?_eq_getElem he2]; rfl
  refine ⟨_, rfl, _, rfl, x, (st : Int), x.cps.toList[st], rfl, rfl, small (by omega), atI_nat (List.getElem?_eq_getElem he2), ?_⟩
  unfold tokEnd at q
  rw [eg] at q
  refine ⟨_, rfl, x.cps.toList[st], "-@", rfl, rfl, _, rfl, ?_⟩
  generalize x.cps.toList[st] = c at q
  have dig : (c ∈ ("-@" : Str).cps.toList ∨ c ∈ DIGS.cps.toList) → Q (.int ((st + 1 + runN DIGS.cps.toList (x.cps.toList.drop (st + 1)) : Nat))) H := fun h => by rw [if_pos h] at q; exact q
  have wrd : ¬ (c ∈ ("-@" : Str).cps.toList ∨ c ∈ DIGS.cps.toList) → (c ∈ ("'$" : Str).cps.toList ∨ c ∈ LET.cps.toList) → Q (.int ((st + 1 + runN OTH.cps.toList (x.cps.toList.drop (st + 1)) : Nat))) H := fun h h2 => by rw [if_neg h, if_pos h2] at q; exact q
  have one_ : ¬ (c ∈ ("-@" : Str).cps.toList ∨ c ∈ DIGS.cps.toList) → ¬ (c ∈ ("'$" : Str).cps.toList ∨ c ∈ LET.cps.toList) → Q (.int ((st + 1 : Nat))) H := fun h h2 => by rw [if_neg h, if_neg h2] at q; exact q
  clear q
  by_cases h1 : c ∈ ("-@" : Str).cps.toList
  · rw [decide_eq_true h1]
    exact iteT (iteT ⟨_, rfl, ⟨_, rfl, _, _, rfl, rfl, x, DIGS, st + 1, rfl, by omega, hx, dig (.inl h1)⟩⟩)
  rw [decide_eq_false h1]
  refine iteF ⟨_, rfl, c, DIGS, rfl, rfl, _, rfl, ?_⟩
  by_cases h2 : c ∈ DIGS.cps.toList
  · rw [decide_eq_true h2]
    exact iteT ⟨_, rfl, ⟨_, rfl, _, _, rfl, rfl, x, DIGS, st + 1, rfl, by omega, hx, dig (.inr h2)⟩⟩
  rw [decide_eq_false h2]
  have n1 : ¬ (c ∈ ("-@" : Str).cps.toList ∨ c ∈ DIGS.cps.toList) := fun z => z.elim h1 h2
  refine iteF ⟨_, rfl, c, "'$", rfl, rfl, _, rfl, ?_⟩
  by_cases h3 : c ∈ ("'$" : Str).cps.toList
  · rw [decide_eq_true h3]
    exact iteT (iteT ⟨_, rfl, ⟨_, rfl, _, _, rfl, rfl, x, OTH, st + 1, rfl, by omega, hx, wrd n1 (.inl h3)⟩⟩)
  rw [decide_eq_false h3]
  refine iteF ⟨_, rfl, c, LET, rfl, rfl, _, rfl, ?_⟩
  by_cases h4 : c ∈ LET.cps.toList
  · rw [decide_eq_true h4]
    exact iteT ⟨_, rfl, ⟨_, rfl, _, _, rfl, rfl, x, OTH, st + 1, rfl, by omega, hx, wrd n1 (.inr h4)⟩⟩
  rw [decide_eq_false h4]
  exact iteF ⟨_, rfl, _, _, rfl, rfl, one_ n1 (fun z => z.elim h3 h4)⟩
/-- a number: digits, no zero ahead of others -/
def isNum (ds : List Nat) (most : Nat) : Bool := decide (1 ≤ ds.length ∧ ds.length ≤ most) && (decide (runN DIGS.cps.toList ds = ds.length) && (decide (ds = [48]) || decide (ds.getD 0 0 ≠ 48)))
def spIsNum : Sp := fun vs H Q _ => ∃ (x : Str) (most : Nat), vs = [.str x, .int (most : Nat)] ∧ x.length ≤ 10000 ∧ Q (.bl (isNum x.cps.toList most)) H
theorem ok_isNum {f : Addr} {fd : FuncData} (F : Fun K "_is_number" "_is_number" s_is_number f fd) (T : TxtP K mg aS) (C_end_of_run : C8.Cal P w K mg base 1 "_end_of_run" spEnd []) : FnOk P w K mg base CX0 2 f fd ["digits", "most"] spIsNum := by
  refine F.ok sc_is_number (fun vs H Q E h => ?_) (fun cdv A outer s H vs Q E hr h => ?_)
  · obtain ⟨_, _, rfl, _⟩ := h
    rfl
  obtain ⟨x, most, rfl, hx, q⟩ := h
  refine ⟨_, (pss_cons (ps_if (PW.pt (pw_or (pt_not (pt_chain op_le op_le pe_int (pe_callB call_len_str (by rfl) T.z_len (by decide +kernel) (pa_cons (pv 0) pa_nil)) (pv 1))) (pw_or1 (pt_cmpR op_ne (C8.pe_c C_end_of_run hr (by decide) rfl (pa_cons (pv 0) (pa_cons pe_int (pa_cons (pe_glS (s := DIGS) rfl T.g_DIG) pa_nil)))) (pe_callB call_len_str (by rfl) T.z_len (by decide +kernel) (pa_cons (pv 0) pa_nil)) (nomark _))))) (pss_one (ps_ret pe_bl)) pss_nil)
    (pss_one (ps_ret (pe_or (pe_cmpR op_eq (pv 0) pe_str (nomark _)) (pe_one (pe_cmpR op_ne (pe_ix ix_str (pv 0) pe_int (fun _ _ => rfl)) pe_str (nomark _))))))), ?_⟩
  have en : x.cps.toList.length = x.length := (len_list x).symm
  refine ⟨_, rfl, x, rfl, small (by omega), le_leV ?_⟩
  unfold isNum at q
  rw [en] at q
  by_cases h1 : 1 ≤ x.length ∧ x.length ≤ most
  · rw [decide_eq_true (show (1 : Int) ≤ (x.length : Int) ∧ (x.length : Int) ≤ (most : Int) by omega)]
    rw [decide_eq_true h1, Bool.true_and] at q
    refine iteF ⟨_, rfl, x, DIGS, 0, rfl, Nat.zero_le _, hx, ⟨_, rfl, x, rfl, small (by omega), rfl, _, rfl, ?_⟩⟩
    rw [List.drop_zero, Nat.zero_add]
    by_cases h2 : runN DIGS.cps.toList x.cps.toList = x.length
    · rw [h2, decide_eq_true (show V.int (x.length : Nat) = V.int (x.length : Nat) from rfl)]
      rw [decide_eq_true h2, Bool.true_and] at q
      have hp : 0 < x.cps.toList.length := by omega
      have eg : x.cps.toList.getD 0 0 = x.cps.toList[0] := by rw [List.getD_eq_getElem?_getD, List.getElem?_eq_getElem hp]; rfl
      rw [eg] at q
      refine iteF ⟨_, rfl, rfl, _, rfl, ?_⟩
      have e0 : x = "0" ↔ x.cps.toList = [48] := ⟨fun e => by rw [e]; decide +kernel, fun e => Str.ext' (Array.toList_inj.mp (e.trans (by decide +kernel : [48] = ("0" : Str).cps.toList)))⟩
      by_cases h3 : x.cps.toList = [48]
      · rw [decide_eq_true h3, Bool.true_or] at q
        rw [decide_eq_true (show V.str x = V.str "0" by rw [e0.mpr h3])]
        exact iteT q
      · rw [decide_eq_false h3, Bool.false_or] at q
        rw [decide_eq_false (show ¬ V.str x = V.str "0" from fun z => h3 (e0.mp (V.str.inj z)))]
        refine iteF ⟨_, rfl, x, 0, x.cps.toList[0], rfl, rfl, small (by omega), atI_nat (j := 0) (List.getElem?_eq_getElem hp), rfl, ?_⟩
        have e1 : (V.str ⟨#[x.cps.toList[0]]⟩ = V.str "0") ↔ x.cps.toList[0] = 48 := ⟨fun z => by
            have := congrArg (fun s : Str => s.cps.toList) (V.str.inj z)
            have e48 : ("0" : Str).cps.toList = [48] := by decide +kernel
            rw [e48] at this
            exact (List.cons.inj this).1, fun z => by rw [z]; exact congrArg V.str (Str.ext' (Array.toList_inj.mp (by decide +kernel)))⟩
        by_cases h4 : x.cps.toList[0] = 48
        · rw [decide_eq_false (fun z => z h4)] at q
          rw [decide_eq_true (e1.mpr h4)]
          exact q
        · rw [decide_eq_true h4] at q
          rw [decide_eq_false (fun z => h4 (e1.mp z))]
          exact q
    · rw [decide_eq_false (show ¬ V.int (runN DIGS.cps.toList x.cps.toList : Nat) = V.int (x.length : Nat) from fun z => h2 (by have := V.int.inj z; omega))]
      rw [decide_eq_false h2, Bool.false_and] at q
      exact iteT q
  · rw [decide_eq_false (show ¬ ((1 : Int) ≤ (x.length : Int) ∧ (x.length : Int) ≤ (most : Int)) by omega)]
    rw [decide_eq_false h1, Bool.false_and] at q
    exact iteT (iteT q)
end
end PK
namespace PK
open PySem L2 TL
/-! tokens, purely -/
theorem wd_is {x : Str} (h : Wd x) : isWd x = true := by
  obtain ⟨s, r, e, hs⟩ := h.hd
  have a : (x.cps.toList.all fun s => decide (s ∈ OTH.cps.toList)) = true := List.all_eq_true.mpr fun z hz => decide_eq_true (h.al z hz)
  unfold isWd
  rw [decide_eq_true (show 1 ≤ x.length ∧ x.length ≤ 12 from ⟨h.lo, h.hi⟩), a, decide_eq_true (show x.cps.toList.headD 0 ∈ LET.cps.toList by rw [e]; exact hs)]
  rfl
inductive Tk where
  | sg (s : Str)
  | int (n : Int)
  | name (w : Str)
  | addr (n : Int)
  | var (w : Str)
  | word (w : Str)
  | bad
  | fin
deriving DecidableEq
def Tk.kind : Tk → Str
  | .sg s => s
  | .int _ => "int"
  | .name _ => "name"
  | .addr _ => "addr"
  | .var _ => "meta"
  | .word _ => "word"
  | .bad => "invalid"
  | .fin => "end"
def Tk.worth : Tk → PyData
  | .int n => .int n
  | .addr n => .int n
  | .name w => .str w
  | .var w => .str w
  | .word w => .str w
  | _ => .none
abbrev SIGNS : List Str := ["(", ")", "{", "}"]
abbrev SEP : Str := " \n"
def mkS (cs : List Nat) : Str := ⟨cs.toArray⟩
theorem mk'_list (cs : List Nat) : (mkS cs).cps.toList = cs := by unfold mkS; simp
theorem mk'_of (x : Str) : mkS x.cps.toList = x := by unfold mkS; simp
theorem mk'_len (cs : List Nat) : (mkS cs).length = cs.length := by rw [len_list, mk'_list]
/-- the token of a piece -/
def tokOf (p : List Nat) : Tk :=
  if mkS p ∈ SIGNS then .sg (mkS p)
  else if p.headD 0 = 39 ∧ isWd (mkS p.tail) = true then .name (mkS p.tail)
  else if p.headD 0 = 36 ∧ isWd (mkS p.tail) = true then .var (mkS p.tail)
  else if p.headD 0 = 64 ∧ isNum p.tail 9 = true then .addr (NumText.digitsVal p.tail : Nat)
  else if p.headD 0 = 45 ∧ p.tail ≠ [48] ∧ isNum p.tail 15 = true then .int (-(NumText.digitsVal p.tail : Nat))
  else if isNum p 15 = true then .int (NumText.digitsVal p : Nat)
  else if isWd (mkS p) = true then .word (mkS p)
  else .bad
/-- how long the token is with which the signs begin -/
def tokLen : List Nat → Nat
  | [] => 0
  | c :: r =>
    if c ∈ ("-@" : Str).cps.toList ∨ c ∈ DIGS.cps.toList then 1 + runN DIGS.cps.toList r
    else if c ∈ ("'$" : Str).cps.toList ∨ c ∈ LET.cps.toList then 1 + runN OTH.cps.toList r else 1
theorem tokEnd_len {cs : List Nat} {s : Nat} (h : s < cs.length) : tokEnd cs s = s + tokLen (cs.drop s) := by
  rw [List.drop_eq_getElem_cons h]
  have eg : cs.getD s 0 = cs[s] := by rw [List.getD_eq_getElem?_getD, List.getElem?_eq_getElem h]; rfl
  unfold tokEnd tokLen
  rw [eg]
  dsimp only
  repeat' split
  all_goals omega
theorem tokLen_pos : ∀ {cs : List Nat}, cs ≠ [] → 0 < tokLen cs
  | [], h => absurd rfl h
  | c :: r, _ => by
    unfold tokLen
    dsimp only
    repeat' split
    all_goals omega
theorem tokLen_le : ∀ cs : List Nat, tokLen cs ≤ cs.length
  | [] => Nat.le_refl _
  | c :: r => by
    have h1 := runN_le DIGS.cps.toList r
    have h2 := runN_le OTH.cps.toList r
    unfold tokLen
    dsimp only
    rw [List.length_cons]
    repeat' split
    all_goals omega
/-- the tokens of the signs that are left, the first of them at p -/
def scan : Nat → Nat → List Nat → List (Tk × Nat)
  | 0, _, _ => []
  | f + 1, p, cs => match cs with
    | [] => []
    | c :: r => if c ∈ SEP.cps.toList then scan f (p + 1) r else (tokOf ((c :: r).take (tokLen (c :: r))), p) :: scan f (p + tokLen (c :: r)) ((c :: r).drop (tokLen (c :: r)))
theorem scan_nil (f p : Nat) : scan f p [] = [] := by cases f <;> rfl
theorem scan_sep {f p c : Nat} {r : List Nat} (h : c ∈ SEP.cps.toList) : scan (f + 1) p (c :: r) = scan f (p + 1) r := if_pos h
theorem scan_tok {f p c : Nat} {r : List Nat} (h : c ∉ SEP.cps.toList) : scan (f + 1) p (c :: r) = (tokOf ((c :: r).take (tokLen (c :: r))), p) :: scan f (p + tokLen (c :: r)) ((c :: r).drop (tokLen (c :: r))) := if_neg h
/-- the fuel plays no part -/
theorem scan_fuel : ∀ (n f g p : Nat) (cs : List Nat), cs.length ≤ n → cs.length ≤ f → cs.length ≤ g → scan f p cs = scan g p cs := by
  intro n
  induction n with
  | zero =>
    intro f g p cs hn _ _
    have : cs = [] := List.length_eq_zero_iff.mp (Nat.le_zero.mp hn)
    rw [this, scan_nil, scan_nil]
  | succ n ih =>
    intro f g p cs hn hf hg
    cases cs with
    | nil => rw [scan_nil, scan_nil]
    | cons c r =>
      rw [List.length_cons] at hn hf hg
      obtain ⟨f, rfl⟩ : ∃ f', f = f' + 1 := ⟨f - 1, by omega⟩
      obtain ⟨g, rfl⟩ : ∃ g', g = g' + 1 := ⟨g - 1, by omega⟩
      by_cases h : c ∈ SEP.cps.toList
      · rw [scan_sep h, scan_sep h]
        exact ih f g _ r (by omega) (by omega) (by omega)
      · rw [scan_tok h, scan_tok h]
        have h0 : 0 < tokLen (c :: r) := tokLen_pos (by simp)
        have hl : ((c :: r).drop (tokLen (c :: r))).length ≤ r.length := by rw [List.length_drop, List.length_cons]; omega
        rw [ih f g _ _ (by omega) (by omega) (by omega)]
/-- all tokens of the signs -/
def toks (cs : List Nat) : List (Tk × Nat) := scan cs.length 0 cs ++ [(.fin, cs.length)]
/-- the tokens that are laid in signs -/
def Lays (cs : List Nat) (ts : List Tk) : Prop := ∀ p, (scan cs.length p cs).map (·.1) = ts
theorem lays_nil : Lays [] [] := fun p => rfl
theorem lays_sep {c : Nat} {r : List Nat} {ts : List Tk} (h : c ∈ SEP.cps.toList) (l : Lays r ts) : Lays (c :: r) ts := fun p => by
  show (scan (r.length + 1) p (c :: r)).map _ = _
  rw [scan_sep h]
  exact l _
theorem lays_seps : ∀ {b : List Nat} {u : List Nat} {ts : List Tk}, (∀ c ∈ b, c ∈ SEP.cps.toList) → Lays u ts → Lays (b ++ u) ts
  | [], _, _, _, l => l
  | c :: b, u, ts, h, l => lays_sep (h c (.head _)) (lays_seps (fun x hx => h x (.tail _ hx)) l)
/-- a piece that ends where it ends, whatever sign follows (of those for which S) -/
def Piece (p : List Nat) (S : Nat → Prop) : Prop := p ≠ [] ∧ p.headD 0 ∉ SEP.cps.toList ∧ ∀ u : List Nat, (∀ c ∈ u.head?, S c) → tokLen (p ++ u) = p.length
theorem lays_tok {p u : List Nat} {S : Nat → Prop} {ts : List Tk} (hp : Piece p S) (hu : ∀ c ∈ u.head?, S c) (l : Lays u ts) : Lays (p ++ u) (tokOf p :: ts) := fun k => by
  obtain ⟨hn, hs, ht⟩ := hp
  cases p with
  | nil => exact absurd rfl hn
  | cons c r =>
    have e := ht u hu
    show (scan ((r ++ u).length + 1) k (c :: (r ++ u))).map _ = _
    rw [scan_tok (show c ∉ SEP.cps.toList from hs), List.map_cons]
    rw [show c :: (r ++ u) = (c :: r) ++ u from rfl, e, List.take_left, List.drop_left]
    rw [scan_fuel u.length _ u.length _ u (Nat.le_refl _) (by rw [List.length_append]; omega) (Nat.le_refl _), l]
theorem run_all (S : List Nat) : ∀ (r u : List Nat), (∀ c ∈ r, c ∈ S) → (∀ c ∈ u.head?, c ∉ S) → runN S (r ++ u) = r.length
  | [], [], _, _ => rfl
  | [], c :: u, _, h => by rw [List.nil_append, run_cons, if_neg (h c rfl)]; rfl
  | c :: r, u, hr, hu => by
    rw [List.cons_append, run_cons, if_pos (hr c (.head _)), run_all S r u (fun x hx => hr x (.tail _ hx)) hu]; rfl
theorem piece_sign {s : Nat} (h : s ∈ ([40, 41, 123, 125] : List Nat)) : Piece [s] (fun _ => True) := by
  have key : ∀ s ∈ ([40, 41, 123, 125] : List Nat), s ∉ SEP.cps.toList ∧ ¬ (s ∈ ("-@" : Str).cps.toList ∨ s ∈ DIGS.cps.toList) ∧ ¬ (s ∈ ("'$" : Str).cps.toList ∨ s ∈ LET.cps.toList) := by decide +kernel
  obtain ⟨h1, h2, h3⟩ := key s h
  refine ⟨by simp, h1, fun u _ => ?_⟩
  show tokLen (s :: u) = 1
  unfold tokLen
  dsimp only
  rw [if_neg h2, if_neg h3]
theorem piece_word {c : Nat} {r : List Nat} (h : c ∈ ("'$" : Str).cps.toList ∨ c ∈ LET.cps.toList) (hr : ∀ x ∈ r, x ∈ OTH.cps.toList) : Piece (c :: r) (fun s => s ∉ OTH.cps.toList) := by
  have key : ∀ s : Nat, s ∈ ("'$" : Str).cps.toList ++ LET.cps.toList → s ∉ SEP.cps.toList ∧ ¬ (s ∈ ("-@" : Str).cps.toList ∨ s ∈ DIGS.cps.toList) := by decide +kernel
  obtain ⟨h1, h2⟩ := key c (List.mem_append.mpr h)
  refine ⟨by simp, h1, fun u hu => ?_⟩
  show tokLen (c :: (r ++ u)) = r.length + 1
  unfold tokLen
  dsimp only
  rw [if_neg h2, if_pos h, run_all _ r u hr hu]
  omega
theorem piece_num {c : Nat} {r : List Nat} (h : c ∈ ("-@" : Str).cps.toList ∨ c ∈ DIGS.cps.toList) (hr : ∀ x ∈ r, x ∈ DIGS.cps.toList) : Piece (c :: r) (fun s => s ∉ DIGS.cps.toList) := by
  have key : ∀ s : Nat, s ∈ ("-@" : Str).cps.toList ++ DIGS.cps.toList → s ∉ SEP.cps.toList := by decide +kernel
  refine ⟨by simp, key c (List.mem_append.mpr h), fun u hu => ?_⟩
  show tokLen (c :: (r ++ u)) = r.length + 1
  unfold tokLen
  dsimp only
  rw [if_pos h, run_all _ r u hr hu]
  omega
theorem dig_oth : ∀ s ∈ DIGS.cps.toList, s ∈ OTH.cps.toList := by decide +kernel
theorem let_oth' : ∀ s ∈ LET.cps.toList, s ∈ OTH.cps.toList := by decide +kernel
theorem Piece.imp {p : List Nat} {S S' : Nat → Prop} (h : Piece p S) (i : ∀ c, S' c → S c) : Piece p S' := ⟨h.1, h.2.1, fun u hu => h.2.2 u fun c hc => i c (hu c hc)⟩
theorem all_dig {ds : List Nat} (h : NumText.AllDigits ds) : ∀ c ∈ ds, c ∈ DIGS.cps.toList := fun c hc => by
  have := h c hc
  have key : ∀ k, k < 10 → 48 + k ∈ DIGS.cps.toList := by decide +kernel
  have z := key (c - 48) (by omega)
  rwa [show 48 + (c - 48) = c by omega] at z
/-- digits as str writes them -/
theorem numL_zero : ∀ (k n : Nat), n < 10 ^ k → numL n = [48] ∨ (numL n).getD 0 0 ≠ 48
  | k, n, h => by
    by_cases h10 : n < 10
    · rw [numL_lt h10]
      by_cases h0 : n = 0
      · exact .inl (by rw [h0])
      · exact .inr (by show 48 + n ≠ 48; omega)
    · cases k with
      | zero => exact absurd h (by show ¬ n < 1; omega)
      | succ k =>
        rw [numL_step (by omega)]
        have hk : n / 10 < 10 ^ k := by rw [Nat.pow_succ] at h; exact Nat.div_lt_of_lt_mul (by rw [Nat.mul_comm]; exact h)
        have ne := numL_ne (n / 10)
        have hd : (numL (n / 10) ++ [48 + n % 10]).getD 0 0 = (numL (n / 10)).getD 0 0 := by
          cases e : numL (n / 10) with
          | nil => exact absurd e ne
          | cons a b => rfl
        rcases numL_zero k (n / 10) hk with z | z
        · have := numL_val (n / 10)
          rw [z] at this
          have : n / 10 = 0 := by rw [← this]; rfl
          omega
        · exact .inr (by rw [hd]; exact z)
theorem num_is {k n : Nat} (hk : 0 < k) (h : n < 10 ^ k) : isNum (numL n) k = true := by
  have h1 := numL_len hk h
  have h0 : 1 ≤ (numL n).length := List.length_pos_iff.mpr (numL_ne n)
  have h2 : runN DIGS.cps.toList (numL n) = (numL n).length := by
    have := run_all DIGS.cps.toList (numL n) [] (all_dig (numL_digits n)) (fun c hc => by cases hc)
    rwa [List.append_nil] at this
  unfold isNum
  rw [decide_eq_true (show 1 ≤ (numL n).length ∧ (numL n).length ≤ k from ⟨h0, h1⟩), decide_eq_true h2, Bool.true_and, Bool.true_and]
  rcases numL_zero k n h with z | z
  · rw [decide_eq_true z, Bool.true_or]
  · rw [decide_eq_true z, Bool.or_true]
theorem num_dig {ds : List Nat} {k : Nat} (h : isNum ds k = true) : NumText.AllDigits ds ∧ ds ≠ [] ∧ ds.length ≤ k := by
  unfold isNum at h
  simp only [Bool.and_eq_true, decide_eq_true_eq] at h
  obtain ⟨⟨h1, h2⟩, h3, _⟩ := h
  refine ⟨?_, fun z => by rw [z] at h1; exact absurd h1 (by decide), h2⟩
  have key : ∀ l : List Nat, runN DIGS.cps.toList l = l.length → ∀ c ∈ l, c ∈ DIGS.cps.toList := by
    intro l
    induction l with
    | nil => intro _ c hc; cases hc
    | cons a r ih =>
      intro e c hc
      rw [run_cons] at e
      by_cases ha : a ∈ DIGS.cps.toList
      · rw [if_pos ha, List.length_cons] at e
        rcases List.mem_cons.mp hc with z | z
        · rw [z]; exact ha
        · exact ih (by omega) c z
      · rw [if_neg ha, List.length_cons] at e; omega
  have d : ∀ c ∈ DIGS.cps.toList, 48 ≤ c ∧ c ≤ 57 := by decide +kernel
  exact fun c hc => d c (key ds h3 c hc)
/-! which tokens pieces are -/
theorem sign_no {p : List Nat} (h : p.headD 0 ∉ ([40, 41, 123, 125] : List Nat)) : mkS p ∉ SIGNS := fun m => by
  have key : ∀ x ∈ SIGNS, x.cps.toList.headD 0 ∈ ([40, 41, 123, 125] : List Nat) := by decide +kernel
  have := key _ m
  rw [mk'_list] at this
  exact h this
theorem tok_sign : ∀ s ∈ ([40, 41, 123, 125] : List Nat), tokOf [s] = .sg (mkS [s]) := by decide +kernel
theorem tok_name {w : Str} (h : Wd w) : tokOf (39 :: w.cps.toList) = .name w := by
  unfold tokOf
  rw [if_neg (sign_no (by show 39 ∉ _; decide)), List.headD_cons, List.tail_cons, mk'_of, if_pos ⟨rfl, wd_is h⟩]
theorem tok_var {w : Str} (h : Wd w) : tokOf (36 :: w.cps.toList) = .var w := by
  unfold tokOf
  rw [if_neg (sign_no (by show 36 ∉ _; decide)), List.headD_cons, List.tail_cons, mk'_of, if_neg (fun z => absurd z.1 (by decide)), if_pos ⟨rfl, wd_is h⟩]
theorem tok_addr {n : Nat} (h : n < 10 ^ 9) : tokOf (64 :: numL n) = .addr (n : Nat) := by
  unfold tokOf
  rw [if_neg (sign_no (by show 64 ∉ _; decide)), List.headD_cons, List.tail_cons, if_neg (fun z => absurd z.1 (by decide)), if_neg (fun z => absurd z.1 (by decide)), if_pos ⟨rfl, num_is (by decide) h⟩, numL_val]
theorem dig_head {ds : List Nat} (h : ∀ c ∈ ds, c ∈ DIGS.cps.toList) (n : ds ≠ []) (l : List Nat) (hl : ∀ c ∈ DIGS.cps.toList, c ∉ l) : ds.headD 0 ∉ l := by
  cases ds with
  | nil => exact absurd rfl n
  | cons a r => exact hl _ (h a (.head _))
theorem tok_nat {n : Nat} (h : n < 10 ^ 15) : tokOf (numL n) = .int (n : Nat) := by
  have hd := dig_head (all_dig (numL_digits n)) (numL_ne n)
  unfold tokOf
  rw [if_neg (sign_no (hd _ (by decide +kernel)))]
  have k : ∀ m, m ∈ ([39, 36, 64, 45] : List Nat) → (numL n).headD 0 ≠ m := fun m hm e => hd [39, 36, 64, 45] (by decide +kernel) (by rw [e]; exact hm)
  rw [if_neg (fun z => k 39 (by decide) z.1), if_neg (fun z => k 36 (by decide) z.1), if_neg (fun z => k 64 (by decide) z.1), if_neg (fun z => k 45 (by decide) z.1), if_pos (num_is (by decide) h), numL_val]
theorem tok_neg {n : Nat} (h : n < 10 ^ 15) (h0 : 0 < n) : tokOf (45 :: numL n) = .int (-(n : Nat)) := by
  have n0 : numL n ≠ [48] := fun e => by
    have := numL_val n
    rw [e] at this
    have : n = 0 := by rw [← this]; rfl
    omega
  unfold tokOf
  rw [if_neg (sign_no (by show 45 ∉ _; decide)), List.headD_cons, List.tail_cons, if_neg (fun z => absurd z.1 (by decide)), if_neg (fun z => absurd z.1 (by decide)), if_neg (fun z => absurd z.1 (by decide)), if_pos ⟨rfl, n0, num_is (by decide) h⟩, numL_val]
theorem tok_word {w : Str} (h : Wd w) : tokOf w.cps.toList = .word w := by
  obtain ⟨s, r, e, hs⟩ := h.hd
  have ll : ∀ (l : List Nat), (∀ c ∈ LET.cps.toList, c ∉ l) → w.cps.toList.headD 0 ∉ l := fun l hl => by rw [e]; exact hl s hs
  unfold tokOf
  rw [if_neg (sign_no (ll _ (by decide +kernel)))]
  have k : ∀ m, m ∈ ([39, 36, 64, 45] : List Nat) → w.cps.toList.headD 0 ≠ m := fun m hm e => ll [39, 36, 64, 45] (by decide +kernel) (by rw [e]; exact hm)
  have nn : isNum w.cps.toList 15 = false := by
    cases hh : isNum w.cps.toList 15 with
    | false => rfl
    | true =>
      have := (num_dig hh).1
      rw [e] at this
      have := this.head
      have key : ∀ c ∈ LET.cps.toList, ¬ (48 ≤ c ∧ c ≤ 57) := by decide +kernel
      exact absurd this (key s hs)
  rw [if_neg (fun z => k 39 (by decide) z.1), if_neg (fun z => k 36 (by decide) z.1), if_neg (fun z => k 64 (by decide) z.1), if_neg (fun z => k 45 (by decide) z.1), if_neg (by rw [nn]; decide), mk'_of, if_pos (wd_is h)]
end PK
namespace PK
open PySem L2 TL
/-! terms -/
inductive Tm where
  | int (n : Int)
  | name (s : Str)
  | addr (n : Int)
  | var (s : Str)
  | node (c : Str) (ts : List Tm)
  | map (es : List (Str × Tm))
mutual
def Tm.d : Tm → PyData
  | .int n => .tuple [.str "int", .int n]
  | .name s => .tuple [.str "name", .str s]
  | .addr n => .tuple [.str "addr", .int n]
  | .var s => .tuple [.str "meta", .str s]
  | .node c ts => .tuple [.str "node", .str c, .tuple (Tm.ds ts)]
  | .map es => .tuple [.str "map", .tuple (Tm.es es)]
def Tm.ds : List Tm → List PyData
  | [] => []
  | t :: r => t.d :: Tm.ds r
def Tm.es : List (Str × Tm) → List PyData
  | [] => []
  | (w, t) :: r => .tuple [.str w, t.d] :: Tm.es r
end
theorem Tm.ds_map : ∀ ts : List Tm, Tm.ds ts = ts.map Tm.d
  | [] => rfl
  | t :: r => by unfold Tm.ds; rw [Tm.ds_map r]; rfl
theorem Tm.es_map : ∀ es : List (Str × Tm), Tm.es es = es.map fun e => PyData.tuple [.str e.1, e.2.d]
  | [] => rfl
  | (w, t) :: r => by unfold Tm.es; rw [Tm.es_map r]; rfl
/-! reading, purely -/
/-- (too deep?, the position) -/
abbrev PErr := Bool × Nat
abbrev ents (es : List (Str × Tm)) : List (Str × Tm) := es.mergeSort fun a b => decide (a.1.cps.toList ≤ b.1.cps.toList)
def pMany (r : Nat → Except PErr (Tm × Nat)) : Nat → Nat → Except PErr (List Tm × Nat)
  | 0, i => .ok ([], i)
  | n + 1, i => match r i with
    | .error e => .error e
    | .ok (t, j) => match pMany r n j with
      | .error e => .error e
      | .ok (ts, k) => .ok (t :: ts, k)
def pEnts (r : Nat → Except PErr (Tm × Nat)) (tk : List (Tk × Nat)) : Nat → Nat → List (Str × Tm) → Except PErr (List (Str × Tm) × Nat)
  | 0, i, acc => .ok (acc, i)
  | n + 1, i, acc => match tk[i]? with
    | some (.name w, _) => if w ∈ acc.map (·.1) then .ok (acc, i) else match r (i + 1) with
      | .error e => .error e
      | .ok (t, j) => pEnts r tk n j (acc ++ [(w, t)])
    | _ => .ok (acc, i)
def pClose (tk : List (Tk × Nat)) (s : Str) (j : Nat) (t : Tm) : Except PErr (Tm × Nat) := match tk[j]? with
  | some (k, p) => if k.kind = s then .ok (t, j + 1) else .error (false, p)
  | none => .error (false, 0)
def pNode (sig : List (Str × Nat)) (tk : List (Tk × Nat)) (r : Nat → Except PErr (Tm × Nat)) (d i p : Nat) : Except PErr (Tm × Nat) := match tk[i + 1]? with
  | some (.word c, q) => match sig.lookup c with
    | none => .error (false, q)
    | some m => if 60 ≤ d then .error (true, p) else match pMany r m (i + 2) with
      | .error e => .error e
      | .ok (ts, j) => pClose tk ")" j (.node c ts)
  | some (_, q) => .error (false, q)
  | none => .error (false, 0)
def pMap (tk : List (Tk × Nat)) (r : Nat → Except PErr (Tm × Nat)) (d i p : Nat) : Except PErr (Tm × Nat) :=
  if 60 ≤ d then .error (true, p) else match pEnts r tk tk.length (i + 1) [] with
    | .error e => .error e
    | .ok (es, j) => pClose tk "}" j (.map (ents es))
def pTerm (sig : List (Str × Nat)) (tk : List (Tk × Nat)) : Nat → Nat → Nat → Except PErr (Tm × Nat)
  | 0, _, _ => .error (false, 0)
  | f + 1, d, i => match tk[i]? with
    | some (.int n, _) => .ok (.int n, i + 1)
    | some (.name w, _) => .ok (.name w, i + 1)
    | some (.addr n, _) => .ok (.addr n, i + 1)
    | some (.var w, _) => .ok (.var w, i + 1)
    | some (.word w, p) => if sig.lookup w = some 0 then .ok (.node w [], i + 1) else .error (false, p)
    | some (.sg s, p) =>
      if s = "{" then pMap tk (pTerm sig tk f (d + 1)) d i p
      else if s = "(" then
        if sig = [] then .error (false, p) else pNode sig tk (pTerm sig tk f (d + 1)) d i p
      else .error (false, p)
    | some (_, p) => .error (false, p)
    | none => .error (false, 0)
/-- the whole reading -/
def pRead (sig : List (Str × Nat)) (cs : List Nat) : Except PErr Tm := match pTerm sig (toks cs) 61 0 0 with
  | .error e => .error e
  | .ok (t, j) => match (toks cs)[j]? with
    | some (k, p) => if k = .fin then .ok t else .error (false, p)
    | none => .error (false, 0)
/-! the tokens of a term: Fl n: with at most n open signs within each other -/
def Leaf (sig : List (Str × Nat)) : Tm → List Tk → Prop
  | .int n, ts => ts = [.int n]
  | .name w, ts => ts = [.name w]
  | .addr n, ts => ts = [.addr n]
  | .var w, ts => ts = [.var w]
  | .node c [], ts => ts = [.word c] ∧ sig.lookup c = some 0
  | _, _ => False
def FlL (R : Tm → List Tk → Prop) : List Tm → List Tk → Prop
  | [], b => b = []
  | t :: r, b => ∃ a b', b = a ++ b' ∧ R t a ∧ FlL R r b'
def FlE (R : Tm → List Tk → Prop) : List (Str × Tm) → List Tk → Prop
  | [], b => b = []
  | (w, t) :: r, b => ∃ a b', b = .name w :: (a ++ b') ∧ R t a ∧ FlE R r b'
def Fl (sig : List (Str × Nat)) : Nat → Tm → List Tk → Prop
  | 0, t, ts => Leaf sig t ts
  | n + 1, t, ts => Leaf sig t ts ∨ (∃ c us body, t = .node c us ∧ sig.lookup c = some us.length ∧ FlL (Fl sig n) us body ∧ ts = .sg "(" :: .word c :: (body ++ [.sg ")"])) ∨
    ∃ es body, t = .map (ents es) ∧ (es.map (·.1)).Nodup ∧ FlE (Fl sig n) es body ∧ ts = .sg "{" :: (body ++ [.sg "}"])
/-- these tokens stand from i on -/
def At (tk : List (Tk × Nat)) (i : Nat) (ts : List Tk) : Prop := ∃ rest, (tk.drop i).map (·.1) = ts ++ rest
theorem At.hd {tk : List (Tk × Nat)} {i : Nat} {t : Tk} {ts : List Tk} (h : At tk i (t :: ts)) : (∃ p, tk[i]? = some (t, p)) ∧ At tk (i + 1) ts := by
  obtain ⟨rest, e⟩ := h
  cases d : tk.drop i with
  | nil => rw [d] at e; simp at e
  | cons x r =>
    rw [d] at e
    simp only [List.map_cons, List.cons_append, List.cons.injEq] at e
    have g : tk[i]? = some x := by
      have := congrArg (·[0]?) d
      simpa using this
    have r' : tk.drop (i + 1) = r := by
      have := congrArg List.tail d
      simpa using this
    exact ⟨⟨x.2, by rw [g, ← e.1]⟩, rest, by rw [r']; exact e.2⟩
theorem At.app {tk : List (Tk × Nat)} {i : Nat} {a b : List Tk} (h : At tk i (a ++ b)) : At tk i a ∧ At tk (i + a.length) b := by
  obtain ⟨rest, e⟩ := h
  refine ⟨⟨b ++ rest, by rw [e, List.append_assoc]⟩, rest, ?_⟩
  have := congrArg (List.drop a.length) e
  rw [List.append_assoc, List.drop_left, ← List.map_drop, List.drop_drop] at this
  exact this
theorem many_ok {R : Tm → List Tk → Prop} {tk : List (Tk × Nat)} {r : Nat → Except PErr (Tm × Nat)} (hr : ∀ t a i, R t a → At tk i a → r i = .ok (t, i + a.length)) :
    ∀ (us : List Tm) (b : List Tk) (i : Nat), FlL R us b → At tk i b → pMany r us.length i = .ok (us, i + b.length)
  | [], b, i, h, _ => by
    have : b = [] := h
    subst this; rfl
  | t :: us, b, i, h, ha => by
    obtain ⟨a, b', rfl, h1, h2⟩ := h
    obtain ⟨x1, x2⟩ := ha.app
    rw [List.length_cons]
    unfold pMany
    rw [hr t a i h1 x1]
    dsimp only
    rw [many_ok hr us b' _ h2 x2, List.length_append]
    dsimp only
    rw [Nat.add_assoc]
theorem ents_ok {R : Tm → List Tk → Prop} {tk : List (Tk × Nat)} {r : Nat → Except PErr (Tm × Nat)} (hr : ∀ t a i, R t a → At tk i a → r i = .ok (t, i + a.length)) :
    ∀ (es : List (Str × Tm)) (b : List Tk) (i n : Nat) (acc : List (Str × Tm)), FlE R es b → At tk i (b ++ [.sg "}"]) → b.length < n → ((acc ++ es).map (·.1)).Nodup → pEnts r tk n i acc = .ok (acc ++ es, i + b.length)
  | [], b, i, n, acc, h, ha, hn, _ => by
    have : b = [] := h
    subst this
    obtain ⟨⟨p, e⟩, _⟩ := At.hd ha
    obtain ⟨n, rfl⟩ : ∃ m, n = m + 1 := ⟨n - 1, by simp at hn; omega⟩
    unfold pEnts
    rw [e, List.append_nil]
    rfl
  | (w, t) :: es, b, i, n, acc, h, ha, hn, nd => by
    obtain ⟨a, b', rfl, h1, h2⟩ := h
    rw [List.cons_append, List.append_assoc] at ha
    obtain ⟨⟨p, e⟩, ha2⟩ := At.hd ha
    obtain ⟨x1, x2⟩ := ha2.app
    rw [List.length_cons, List.length_append] at hn
    obtain ⟨n, rfl⟩ : ∃ m, n = m + 1 := ⟨n - 1, by omega⟩
    have nw : w ∉ acc.map (·.1) := fun z => by
      rw [List.map_append, List.map_cons] at nd
      exact (List.nodup_append.mp nd).2.2 w z w (.head _) rfl
    unfold pEnts
    rw [e]
    dsimp only
    rw [if_neg nw, hr t a _ h1 x1]
    dsimp only
    rw [ents_ok hr es b' _ n (acc ++ [(w, t)]) h2 x2 (by omega) (by rw [List.append_assoc]; exact nd), List.append_assoc, List.length_cons, List.length_append]
    congr 2
    omega
theorem close_ok {tk : List (Tk × Nat)} {s : Str} {j : Nat} {t : Tm} (h : At tk j [.sg s]) : pClose tk s j t = .ok (t, j + 1) := by
  obtain ⟨⟨p, e⟩, _⟩ := h.hd
  unfold pClose
  rw [e]
  exact if_pos rfl
theorem At.len {tk : List (Tk × Nat)} {i : Nat} {a : List Tk} (h : At tk i a) : a.length ≤ tk.length := by
  obtain ⟨rest, e⟩ := h
  have := congrArg List.length e
  rw [List.length_map, List.length_drop, List.length_append] at this
  omega
theorem leaf_ok {sig : List (Str × Nat)} {tk : List (Tk × Nat)} {f d i : Nat} {t : Tm} {ts : List Tk} (h : Leaf sig t ts) (ha : At tk i ts) : pTerm sig tk (f + 1) d i = .ok (t, i + ts.length) := by
  unfold Leaf at h
  split at h
  all_goals try exact h.elim
  all_goals first
    | (obtain ⟨rfl, hl⟩ := h; obtain ⟨⟨p, e⟩, _⟩ := ha.hd; unfold pTerm; rw [e]; dsimp only; rw [if_pos hl]; rfl)
    | (subst h; obtain ⟨⟨p, e⟩, _⟩ := ha.hd; unfold pTerm; rw [e]; rfl)
theorem read_ok {sig : List (Str × Nat)} {tk : List (Tk × Nat)} : ∀ (n : Nat) (t : Tm) (ts : List Tk) (f d i : Nat), Fl sig n t ts → At tk i ts → n + d ≤ 60 → n < f → pTerm sig tk f d i = .ok (t, i + ts.length) := by
  intro n
  induction n with
  | zero =>
    intro t ts f d i h ha _ hf
    obtain ⟨f, rfl⟩ : ∃ m, f = m + 1 := ⟨f - 1, by omega⟩
    exact leaf_ok h ha
  | succ n ih =>
    intro t ts f d i h ha hd hf
    obtain ⟨f, rfl⟩ : ∃ m, f = m + 1 := ⟨f - 1, by omega⟩
    have hr : ∀ t a i, Fl sig n t a → At tk i a → pTerm sig tk f (d + 1) i = .ok (t, i + a.length) := fun t a i h1 h2 => ih t a f (d + 1) i h1 h2 (by omega) (by omega)
    rcases h with h | ⟨c, us, body, rfl, hl, hb, rfl⟩ | ⟨es, body, rfl, nd, hb, rfl⟩
    · exact leaf_ok h ha
    · obtain ⟨⟨p, e⟩, h1⟩ := ha.hd
      obtain ⟨⟨q, e2⟩, h2⟩ := h1.hd
      obtain ⟨h3, h4⟩ := h2.app
      unfold pTerm
      rw [e]
      dsimp only
      rw [if_neg (by decide +kernel), if_pos rfl, if_neg (fun z => by rw [z] at hl; cases hl)]
      unfold pNode
      rw [e2]
      dsimp only
      rw [hl]
      dsimp only
      rw [if_neg (by omega), many_ok hr us body _ hb h3]
      dsimp only
      rw [close_ok h4]
      simp only [List.length_cons, List.length_append, List.length_nil]
      congr 2
      omega
    · obtain ⟨⟨p, e⟩, h1⟩ := ha.hd
      obtain ⟨_, h4⟩ := h1.app
      have hlen := ha.len
      simp only [List.length_cons, List.length_append, List.length_nil] at hlen
      unfold pTerm
      rw [e]
      dsimp only
      rw [if_pos rfl]
      unfold pMap
      rw [if_neg (by omega), ents_ok hr es body _ _ [] hb h1 (by omega) nd]
      dsimp only
      rw [List.nil_append, close_ok h4]
      simp only [List.length_cons, List.length_append, List.length_nil]
      congr 2
      omega
/-- a text in which the tokens of a term lie is read -/
theorem text_ok {sig : List (Str × Nat)} {cs : List Nat} {n : Nat} {t : Tm} {ts : List Tk} (hl : Lays cs ts) (hf : Fl sig n t ts) (hn : n ≤ 60) : pRead sig cs = .ok t := by
  have e : (toks cs).map (·.1) = ts ++ [.fin] := by
    unfold toks
    rw [List.map_append, hl 0]; rfl
  have ha : At (toks cs) 0 ts := ⟨[.fin], by rw [List.drop_zero]; exact e⟩
  have h2 : (toks cs)[ts.length]?.map (·.1) = some .fin := by
    rw [← List.getElem?_map, e]
    simp
  unfold pRead
  rw [read_ok n t ts 61 0 0 hf ha (by omega) (by omega)]
  dsimp only
  rw [Nat.zero_add]
  cases g : (toks cs)[ts.length]? with
  | none => rw [g] at h2; cases h2
  | some x =>
    rw [g] at h2
    obtain ⟨k, p⟩ := x
    have : k = .fin := by simpa using h2
    dsimp only
    rw [if_pos this]
/-! where reading stops -/
def Ended (tk : List (Tk × Nat)) : Prop := ∃ tk' p, tk = tk' ++ [(Tk.fin, p)]
theorem Ended.lt {tk : List (Tk × Nat)} (h : Ended tk) {i : Nat} {k : Tk} {p : Nat} (e : tk[i]? = some (k, p)) (hk : k ≠ .fin) : i + 1 < tk.length := by
  obtain ⟨tk', q, rfl⟩ := h
  have hi := (List.getElem?_eq_some_iff.mp e).1
  rw [List.length_append, List.length_singleton] at hi ⊢
  by_cases z : i = tk'.length
  · subst z
    simp at e
    exact absurd e.1.symm hk
  · omega
theorem many_lt {r : Nat → Except PErr (Tm × Nat)} {n : Nat} (hr : ∀ i t j, i < n → r i = .ok (t, j) → i < j ∧ j < n) : ∀ (m i : Nat) (ts : List Tm) (j : Nat), i < n → pMany r m i = .ok (ts, j) → i ≤ j ∧ j < n
  | 0, i, ts, j, hi, h => by cases h; exact ⟨Nat.le_refl _, hi⟩
  | m + 1, i, ts, j, hi, h => by
    unfold pMany at h
    cases e : r i with
    | error x => rw [e] at h; cases h
    | ok x =>
      obtain ⟨t, k⟩ := x
      rw [e] at h
      dsimp only at h
      obtain ⟨a, b⟩ := hr i t k hi e
      cases e2 : pMany r m k with
      | error x => rw [e2] at h; cases h
      | ok x =>
        obtain ⟨us, l⟩ := x
        rw [e2] at h
        dsimp only at h
        cases h
        have := many_lt hr m k us j b e2
        omega
theorem ents_lt {tk : List (Tk × Nat)} (he : Ended tk) {r : Nat → Except PErr (Tm × Nat)} (hr : ∀ i t j, i < tk.length → r i = .ok (t, j) → i < j ∧ j < tk.length) :
    ∀ (m i : Nat) (acc es : List (Str × Tm)) (j : Nat), i < tk.length → pEnts r tk m i acc = .ok (es, j) → i ≤ j ∧ j < tk.length
  | 0, i, acc, es, j, hi, h => by cases h; exact ⟨Nat.le_refl _, hi⟩
  | m + 1, i, acc, es, j, hi, h => by
    unfold pEnts at h
    split at h
    · rename_i w p e
      split at h
      · cases h; exact ⟨Nat.le_refl _, hi⟩
      · have h1 := he.lt e (by intro z; cases z)
        cases e2 : r (i + 1) with
        | error x => rw [e2] at h; cases h
        | ok x =>
          obtain ⟨t, k⟩ := x
          rw [e2] at h
          dsimp only at h
          obtain ⟨a, b⟩ := hr _ t k h1 e2
          have := ents_lt he hr m k _ es j b h
          omega
    · cases h; exact ⟨Nat.le_refl _, hi⟩
theorem close_lt {tk : List (Tk × Nat)} (he : Ended tk) {s : Str} (hs : s ≠ "end") {j k : Nat} {t u : Tm} (h : pClose tk s j t = .ok (u, k)) : u = t ∧ k = j + 1 ∧ k < tk.length := by
  unfold pClose at h
  split at h
  · rename_i x p e
    split at h
    · rename_i ks
      cases h
      exact ⟨rfl, rfl, he.lt e (fun z => hs (by rw [← ks, z]; rfl))⟩
    · cases h
  · cases h
theorem term_lt {sig : List (Str × Nat)} {tk : List (Tk × Nat)} (he : Ended tk) : ∀ (f d i : Nat) (t : Tm) (j : Nat), i < tk.length → pTerm sig tk f d i = .ok (t, j) → i < j ∧ j < tk.length := by
  intro f
  induction f with
  | zero => intro d i t j _ h; cases h
  | succ f ih =>
    intro d i t j hi h
    have hr : ∀ i t j, i < tk.length → pTerm sig tk f (d + 1) i = .ok (t, j) → i < j ∧ j < tk.length := fun i t j h1 h2 => ih (d + 1) i t j h1 h2
    unfold pTerm at h
    split at h
    · rename_i e; cases h; exact ⟨by omega, he.lt e (by intro z; cases z)⟩
    · rename_i e; cases h; exact ⟨by omega, he.lt e (by intro z; cases z)⟩
    · rename_i e; cases h; exact ⟨by omega, he.lt e (by intro z; cases z)⟩
    · rename_i e; cases h; exact ⟨by omega, he.lt e (by intro z; cases z)⟩
    · rename_i e
      split at h
      · cases h; exact ⟨by omega, he.lt e (by intro z; cases z)⟩
      · cases h
    · rename_i s p e
      have h1 := he.lt e (by intro z; cases z)
      split at h
      · unfold pMap at h
        split at h
        · cases h
        · split at h
          · cases h
          · rename_i es k e2
            obtain ⟨a, b⟩ := ents_lt he hr _ _ _ _ _ h1 e2
            obtain ⟨_, c1, c2⟩ := close_lt he (by decide +kernel) h
            omega
      · split at h
        · split at h
          · cases h
          · unfold pNode at h
            split at h
            · rename_i c q e2
              have h2 := he.lt e2 (by intro z; cases z)
              split at h
              · cases h
              · split at h
                · cases h
                · split at h
                  · cases h
                  · rename_i ts k e3
                    obtain ⟨a, b⟩ := many_lt hr _ _ _ _ h2 e3
                    obtain ⟨_, c1, c2⟩ := close_lt he (by decide +kernel) h
                    omega
            · cases h
            · cases h
        · cases h
    · cases h
    · cases h
theorem toks_ended (cs : List Nat) : Ended (toks cs) := ⟨_, _, rfl⟩
end PK
namespace PK
open PySem L2 TL
/-! the program's tokens -/
theorem DtAll.length {K : PySem.W.Frag} {H : Hp} : ∀ {xs : List V} {ds : List PyData}, DtAll K H xs ds → xs.length = ds.length
  | _, _, .nil => rfl
  | _, _, .cons _ r => by rw [List.length_cons, List.length_cons, DtAll.length r]
/-- a list grows by one item of data -/
theorem DtAll.snoc {K : PySem.W.Frag} {H H1 : Hp} {D : Addr} {vs : List V} {ds : List PyData} {v : V} {d : PyData} (da : DtAll K H vs ds) (sm : Same H H1) (hD : H1 D = some (.lst vs)) (dv : Dt K H1 v d) : DtAll K (upd H1 D (.lst (vs ++ [v]))) (vs ++ [v]) (ds ++ [d]) :=
  DtAll.mono (fun _ _ z => seqT_upd z hD) _ _ (DtAll.append (da.same sm) (.cons dv .nil))
def tkD (t : Tk × Nat) : PyData := .tuple [.str t.1.kind, t.1.worth, .int (t.2 : Nat)]
def spTok (K : PySem.W.Frag) : Sp := fun vs H Q _ => ∃ (x : Str) (p : Nat), vs = [.str x, .int (p : Nat)] ∧ x.cps.toList ≠ [] ∧ x.length ≤ 10000 ∧ ∀ H' v, Same H H' → Dt K H' v (tkD (tokOf x.cps.toList, p)) → Q v H'
theorem cut1 (x : Str) (h : x.cps.toList ≠ []) : cutS x (some 1) none = mkS x.cps.toList.tail := by
  have e := len_list x
  have h0 : 0 < x.cps.toList.length := List.length_pos_iff.mpr h
  unfold cutS mkS
  have s1 : HT.sIx x.length 0 (some 1) = 1 := by
    have := HT.sIx_nat x.length 0 1
    rw [show ((1 : Nat) : Int) = 1 from rfl] at this
    rw [this]; omega
  rw [s1, HT.sIx_none, List.take_of_length_le (by rw [List.length_drop]; omega)]
  cases x.cps.toList <;> rfl
theorem cutM (x : Str) {a b : Nat} (h : a ≤ b) (hb : b ≤ x.length) : cutS x (some (a : Nat)) (some (b : Nat)) = mkS ((x.cps.toList.drop a).take (b - a)) := by
  unfold cutS mkS
  rw [HT.sIx_nat, HT.sIx_nat, show min a x.length = a by omega, show min b x.length = b by omega]
theorem int_of {ds : List Nat} {k : Nat} (hk : k ≤ 640) (h : isNum ds k = true) : PySem.intText? (mkS ds) = some ((NumText.digitsVal ds : Nat) : Int) ∧ (mkS ds).length ≤ 640 := by
  obtain ⟨h1, h2, h3⟩ := num_dig h
  have e := mk'_list ds
  refine ⟨?_, by rw [mk'_len]; omega⟩
  have := intText_digits (x := mkS ds) (by rw [e]; exact h1) (by rw [e]; exact h2) (by rw [mk'_len]; omega)
  rwa [e] at this
theorem isNum_mk (ds : List Nat) (k : Nat) : isNum (mkS ds).cps.toList k = isNum ds k := by rw [mk'_list]
def tk4 (c : Nat) (r : List Nat) (x : Str) : Tk := if isNum (c :: r) 15 = true then .int (NumText.digitsVal (c :: r) : Nat) else if isWd x = true then .word x else .bad
def tk3 (c : Nat) (r : List Nat) (x : Str) : Tk := if c = 45 ∧ r ≠ [48] ∧ isNum r 15 = true then .int (-(NumText.digitsVal r : Nat)) else tk4 c r x
def tk2 (c : Nat) (r : List Nat) (x : Str) : Tk := if c = 64 ∧ isNum r 9 = true then .addr (NumText.digitsVal r : Nat) else tk3 c r x
def tk1 (c : Nat) (r : List Nat) (x y : Str) : Tk := if c = 36 ∧ isWd y = true then .var y else tk2 c r x
section
variable {P : Program} {w : World} {K : PySem.W.Frag} {mg : Str → Option Value} {base : Heap} {aS : Addr}
abbrev s_token : Stmt := topS 25
theorem sc_token : FnScope ["piece", "position", "first", "rest"] ["piece", "position"] (defScope s_token) := ⟨rfl, rfl, rfl, by decide +kernel, rfl, by decide +kernel, by decide +kernel⟩
-- slots: 0:piece 1:position 2:first 3:rest
abbrev s_tokens_of : Stmt := topS 26
theorem sc_tokens_of : FnScope ["text", "tokens", "at", "end"] ["text"] (defScope s_tokens_of) := ⟨rfl, rfl, rfl, by decide +kernel, rfl, by decide +kernel, by decide +kernel⟩
-- slots: 0:text 1:tokens 2:at 3:end
theorem ok_tok {f : Addr} {fd : FuncData} (F : Fun K "_token" "_token" s_token f fd) (T : TxtP K mg aS) (C_is_word : C8.Cal P w K mg base 1 "is_word" spWord []) (C_is_number : C8.Cal P w K mg base 2 "_is_number" spIsNum []) : FnOk P w K mg base CX0 3 f fd ["piece", "position"] (spTok K) := by
  refine F.ok sc_token (fun vs H Q E h => ?_) (fun cdv A outer s H vs Q E hr h => ?_)
  · obtain ⟨_, _, rfl, _⟩ := h
    rfl
  obtain ⟨x, p, rfl, hx, hl, q⟩ := h
  refine ⟨_, (pss_cons (ps_par (i := 2) (j := 3) (by rfl) sc_token.nd rfl rfl (by decide) rfl rfl (pa_cons (pe_ix ix_str (pv 0) pe_int (fun _ _ => rfl)) (pa_cons (pe_slice sl_str (pv 0) (po_some pe_int) po_none) pa_nil)) (by rfl))
    (pss_cons (ps_if (pt_cmpR op_in_seq (pv 0) (pe_glob (v := .ref aS) rfl T.g_S rfl) rfl) (pss_one (ps_ret (pe_tup (pa_cons (pv 0) (pa_cons pe_non (pa_cons (pv 1) pa_nil)))))) pss_nil)
    (C8.pss_cut (ps_if (PW.pt (pw_and (pt_cmpR op_eq (pv 2) pe_str (nomark _)) (pw_and1 (pt_val (C8.pe_c C_is_word hr (by decide) rfl (pa_cons (pv 3) pa_nil)))))) (pss_one (ps_ret (pe_tup (pa_cons pe_str (pa_cons (pv 3) (pa_cons (pv 1) pa_nil)))))) pss_nil)
    (C8.pss_cut (ps_if (PW.pt (pw_and (pt_cmpR op_eq (pv 2) pe_str (nomark _)) (pw_and1 (pt_val (C8.pe_c C_is_word hr (by decide) rfl (pa_cons (pv 3) pa_nil)))))) (pss_one (ps_ret (pe_tup (pa_cons pe_str (pa_cons (pv 3) (pa_cons (pv 1) pa_nil)))))) pss_nil)
    (C8.pss_cut (ps_if (PW.pt (pw_and (pt_cmpR op_eq (pv 2) pe_str (nomark _)) (pw_and1 (pt_val (C8.pe_c C_is_number hr (by decide) rfl (pa_cons (pv 3) (pa_cons (pe_glI (n := 9) rfl T.g_MA) pa_nil))))))) (pss_one (ps_ret (pe_tup (pa_cons pe_str (pa_cons (pe_callTy call_int_str (by rfl) T.z_int (by decide +kernel) (pa_cons (pv 3) pa_nil)) (pa_cons (pv 1) pa_nil)))))) pss_nil)
    (C8.pss_cut (ps_if (PW.pt (pw_and (pt_cmpR op_eq (pv 2) pe_str (nomark _)) (pw_and (pt_cmpR op_ne (pv 3) pe_str (nomark _)) (pw_and1 (pt_val (C8.pe_c C_is_number hr (by decide) rfl (pa_cons (pv 3) (pa_cons (pe_glI (n := 15) rfl T.g_MI) pa_nil)))))))) (pss_one (ps_ret (pe_tup (pa_cons pe_str (pa_cons (pe_un un_neg (pe_callTy call_int_str (by rfl) T.z_int (by decide +kernel) (pa_cons (pv 3) pa_nil))) (pa_cons (pv 1) pa_nil)))))) pss_nil)
    (pss_cons (ps_if (pt_val (C8.pe_c C_is_number hr (by decide) rfl (pa_cons (pv 0) (pa_cons (pe_glI (n := 15) rfl T.g_MI) pa_nil)))) (pss_one (ps_ret (pe_tup (pa_cons pe_str (pa_cons (pe_callTy call_int_str (by rfl) T.z_int (by decide +kernel) (pa_cons (pv 0) pa_nil)) (pa_cons (pv 1) pa_nil)))))) pss_nil)
    (pss_cons (ps_if (pt_val (C8.pe_c C_is_word hr (by decide) rfl (pa_cons (pv 0) pa_nil))) (pss_one (ps_ret (pe_tup (pa_cons pe_str (pa_cons (pv 0) (pa_cons (pv 1) pa_nil)))))) pss_nil)
    (pss_one (ps_ret (pe_tup (pa_cons pe_str (pa_cons pe_non (pa_cons (pv 1) pa_nil)))))))))))))), ?_⟩
  have en := len_list x
  have hc1 := cut1 x hx
  obtain ⟨c, r, ex⟩ : ∃ c r, x.cps.toList = c :: r := by
    cases e : x.cps.toList with
    | nil => exact absurd e hx
    | cons a r => exact ⟨a, r, rfl⟩
  rw [ex] at en hc1
  rw [List.length_cons] at en
  have lr : (mkS r).length ≤ 10000 := by rw [mk'_len]; omega
  have ex' : mkS (c :: r) = x := by rw [← ex, mk'_of]
  refine ⟨_, rfl, x, 0, c, rfl, rfl, small (by omega), by rw [ex]; exact atI_nat (j := 0) rfl, ?_⟩
  refine ⟨_, rfl, 1, rfl, x, rfl, small (by omega), ?_⟩
  rw [hc1, List.tail_cons]
  rw [ex] at q
  have tup : ∀ {H1 : Hp} {k : Str} {v : V} {e : PyData} {t : Tk}, Same H H1 → tokOf (c :: r) = t → t.kind = k → t.worth = e → Dt K H1 v e → (3 ≤ sizeLine) ∧ ∀ a, H1 a = none → Q (.ref a) (upd H1 a (.tup [.str k, v, .int (p : Nat)])) := fun {H1 k v e t} sm et ek ew dv =>
    ⟨small (by decide), fun a ha => q _ _ (Same.upd sm (sm.free ha)) (by unfold tkD; rw [et]; dsimp only; rw [ek, ew]; exact Dt.mk3 ha (.str _) dv (.int _))⟩
  have et : tokOf (c :: r) = if x ∈ SIGNS then .sg x else if c = 39 ∧ isWd (mkS r) = true then .name (mkS r) else tk1 c r x (mkS r) := by
    unfold tk1 tk2 tk3 tk4
    unfold tokOf
    rw [ex', List.headD_cons, List.tail_cons]
  have exn : isNum x.cps.toList 15 = isNum (c :: r) 15 := by rw [ex]
  have hy : (mkS r).cps.toList = r := mk'_list r
  have hi : ∀ k, k ≤ 640 → isNum r k = true → intText? (mkS r) = some ((NumText.digitsVal r : Nat) : Int) ∧ (mkS r).length ≤ 640 := fun k hk h => int_of hk h
  have hix : isNum (c :: r) 15 = true → intText? x = some ((NumText.digitsVal (c :: r) : Nat) : Int) ∧ x.length ≤ 640 := fun h => by
    have := int_of (by decide) h
    rwa [ex'] at this
  have hz : mkS r = "0" ↔ r = [48] := ⟨fun e => by rw [← hy, e]; decide +kernel, fun e => by rw [e]; decide +kernel⟩
  clear hc1
  generalize mkS r = y at *
  refine ⟨_, _, rfl, _, rfl, aS, _, rfl, .inr (T.signs H), rfl, flat_strs SIGNS, _, rfl, ?_⟩
  rw [show inV (V.str x) [V.str "(", .str ")", .str "{", .str "}"] = decide (x ∈ SIGNS) from inV_str x SIGNS]
  by_cases h1 : x ∈ SIGNS
  · rw [decide_eq_true h1]
    rw [if_pos h1] at et
    exact iteT ⟨_, rfl, _, rfl, tup (Same.refl H) et rfl rfl .non⟩
  rw [decide_eq_false h1]
  rw [if_neg h1] at et
  refine iteF ?_
  have one_eq : ∀ (k : Nat) (z : Str), z.cps.toList = [k] → decide (V.str ⟨#[c]⟩ = V.str z) = decide (c = k) := fun k z hz => by
    by_cases e : c = k
    · rw [decide_eq_true e, decide_eq_true (by rw [e]; exact congrArg V.str (Str.ext' (Array.toList_inj.mp hz.symm)))]
    · rw [decide_eq_false e, decide_eq_false fun z' => e ?_]
      have := congrArg (fun s : Str => s.cps.toList) (V.str.inj z')
      rw [hz] at this
      exact (List.cons.inj this).1
  have e1 := one_eq 39 "'" (by decide +kernel)
  have e2 := one_eq 36 "$" (by decide +kernel)
  have e3 := one_eq 64 "@" (by decide +kernel)
  have e4 := one_eq 45 "-" (by decide +kernel)
  clear one_eq
  generalize (⟨#[c]⟩ : Str) = o at *
  -- a name
  refine ⟨fun σ H1 => σ = [some (.str x), some (.int (p : Nat)), some (.str o), some (.str y)] ∧ Same H H1 ∧ tokOf (c :: r) = tk1 c r x y, ⟨_, rfl, rfl, _, rfl, ?_⟩, ?_⟩
  · rw [e1]
    by_cases hc : c = 39
    · rw [decide_eq_true hc]
      refine iteT ⟨_, rfl, y, rfl, lr, fun H1 sm => ⟨_, rfl, ?_⟩⟩
      by_cases hw : isWd y = true
      · rw [hw]
        rw [if_pos ⟨hc, hw⟩] at et
        exact iteT ⟨_, rfl, _, rfl, tup sm et rfl rfl (.str y)⟩
      · rw [Bool.eq_false_iff.mpr hw]
        exact iteF ⟨rfl, sm, et.trans (if_neg fun z => hw z.2)⟩
    · rw [decide_eq_false hc]
      exact iteF ⟨rfl, Same.refl H, et.trans (if_neg fun z => hc z.1)⟩
  clear et
  rintro σ H1 ⟨rfl, sm1, et⟩
  unfold tk1 at et
  refine ⟨fun σ H1 => σ = [some (.str x), some (.int (p : Nat)), some (.str o), some (.str y)] ∧ Same H H1 ∧ tokOf (c :: r) = tk2 c r x, ⟨_, rfl, rfl, _, rfl, ?_⟩, ?_⟩
  · rw [e2]
    by_cases hc : c = 36
    · rw [decide_eq_true hc]
      refine iteT ⟨_, rfl, y, rfl, lr, fun H2 sm2 => ⟨_, rfl, ?_⟩⟩
      by_cases hw : isWd y = true
      · rw [hw]
        rw [if_pos ⟨hc, hw⟩] at et
        exact iteT ⟨_, rfl, _, rfl, tup (sm1.trans sm2) et rfl rfl (.str y)⟩
      · rw [Bool.eq_false_iff.mpr hw]
        exact iteF ⟨rfl, sm1.trans sm2, et.trans (if_neg fun z => hw z.2)⟩
    · rw [decide_eq_false hc]
      exact iteF ⟨rfl, sm1, et.trans (if_neg fun z => hc z.1)⟩
  clear et
  rintro σ H1 ⟨rfl, sm1, et⟩
  unfold tk2 at et
  refine ⟨fun σ H1 => σ = [some (.str x), some (.int (p : Nat)), some (.str o), some (.str y)] ∧ Same H H1 ∧ tokOf (c :: r) = tk3 c r x, ⟨_, rfl, rfl, _, rfl, ?_⟩, ?_⟩
  · rw [e3]
    by_cases hc : c = 64
    · rw [decide_eq_true hc]
      refine iteT ⟨_, rfl, y, 9, rfl, lr, ⟨_, rfl, ?_⟩⟩
      rw [hy]
      by_cases hw : isNum r 9 = true
      · rw [hw]
        rw [if_pos ⟨hc, hw⟩] at et
        obtain ⟨i1, i2⟩ := hi 9 (by decide) hw
        exact iteT ⟨_, rfl, y, _, rfl, i1, i2, _, rfl, tup sm1 et rfl rfl (.int _)⟩
      · rw [Bool.eq_false_iff.mpr hw]
        exact iteF ⟨rfl, sm1, et.trans (if_neg fun z => hw z.2)⟩
    · rw [decide_eq_false hc]
      exact iteF ⟨rfl, sm1, et.trans (if_neg fun z => hc z.1)⟩
  clear et
  rintro σ H1 ⟨rfl, sm1, et⟩
  unfold tk3 at et
  refine ⟨fun σ H1 => σ = [some (.str x), some (.int (p : Nat)), some (.str o), some (.str y)] ∧ Same H H1 ∧ tokOf (c :: r) = tk4 c r x, ⟨_, rfl, rfl, _, rfl, ?_⟩, ?_⟩
  · rw [e4]
    by_cases hc : c = 45
    · rw [decide_eq_true hc]
      refine iteT ⟨_, rfl, rfl, _, rfl, ?_⟩
      by_cases h0 : r = [48]
      · rw [decide_eq_true (show V.str y = V.str "0" by rw [hz.mpr h0])]
        exact iteF ⟨rfl, sm1, et.trans (if_neg fun z => z.2.1 h0)⟩
      rw [decide_eq_false (show ¬ V.str y = V.str "0" from fun z => h0 (hz.mp (V.str.inj z)))]
      refine iteT ⟨_, rfl, y, 15, rfl, lr, ⟨_, rfl, ?_⟩⟩
      rw [hy]
      by_cases hw : isNum r 15 = true
      · rw [hw]
        rw [if_pos ⟨hc, h0, hw⟩] at et
        obtain ⟨i1, i2⟩ := hi 15 (by decide) hw
        exact iteT ⟨_, rfl, y, _, rfl, i1, i2, _, rfl, _, rfl, tup sm1 et rfl rfl (.int _)⟩
      · rw [Bool.eq_false_iff.mpr hw]
        exact iteF ⟨rfl, sm1, et.trans (if_neg fun z => hw z.2.2)⟩
    · rw [decide_eq_false hc]
      exact iteF ⟨rfl, sm1, et.trans (if_neg fun z => hc z.1)⟩
  clear et
  rintro σ H1 ⟨rfl, sm1, et⟩
  unfold tk4 at et
  refine ⟨_, rfl, x, 15, rfl, by omega, ⟨_, rfl, ?_⟩⟩
  rw [exn]
  by_cases hw : isNum (c :: r) 15 = true
  · rw [hw]
    rw [if_pos hw] at et
    obtain ⟨i1, i2⟩ := hix hw
    exact iteT ⟨_, rfl, x, _, rfl, i1, i2, _, rfl, tup sm1 et rfl rfl (.int _)⟩
  rw [Bool.eq_false_iff.mpr hw]
  rw [if_neg hw] at et
  refine iteF ⟨_, rfl, x, rfl, by omega, fun H2 sm2 => ⟨_, rfl, ?_⟩⟩
  by_cases hw : isWd x = true
  · rw [hw]
    rw [if_pos hw] at et
    exact iteT ⟨_, rfl, _, rfl, tup (sm1.trans sm2) et rfl rfl (.str x)⟩
  · rw [Bool.eq_false_iff.mpr hw]
    rw [if_neg hw] at et
    exact iteF ⟨_, rfl, tup (sm1.trans sm2) et rfl rfl .non⟩
def spToks (K : PySem.W.Frag) : Sp := fun vs H Q _ => ∃ x : Str, vs = [.str x] ∧ x.length ≤ 8000 ∧ ∀ (H' : Hp) (R : Addr) (ws : List V), Same H H' → H R = none → H' R = some (.lst ws) → DtAll K H' ws ((toks x.cps.toList).map tkD) → Q (.ref R) H'
theorem ok_toks {f : Addr} {fd : FuncData} (F : Fun K "_tokens_of" "_tokens_of" s_tokens_of f fd) (T : TxtP K mg aS) (C_token_end : C8.Cal P w K mg base 2 "_token_end" spTokEnd []) (C_token : C8.Cal P w K mg base 3 "_token" (spTok K) []) : FnOk P w K mg base CX0 4 f fd ["text"] (spToks K) := by
  refine F.ok sc_tokens_of (fun vs H Q E h => ?_) (fun cdv A outer s H vs Q E hr h => ?_)
  · obtain ⟨_, rfl, _⟩ := h
    rfl
  obtain ⟨x, rfl, hx, q⟩ := h
  refine ⟨_, (pss_cons (ps_set (i := 1) sc_tokens_of.nd rfl (Or.inl rfl) (pe_lst pa_nil))
    (pss_cons (ps_set (i := 2) sc_tokens_of.nd rfl (Or.inl rfl) pe_int)
    (pss_cons (ps_while PassesOwn.never (pt_cmpR op_lt (pv 2) (pe_callB call_len_str (by rfl) T.z_len (by decide +kernel) (pa_cons (pv 0) pa_nil)) (nomark _)) (pss_one (ps_if (pt_cmpR op_in_sign (pe_ix ix_str (pv 0) (pv 2) (fun _ _ => rfl)) (pe_glS (s := SEP) rfl T.g_SEP) rfl) (pss_one (ps_aug (i := 2) sc_tokens_of.nd rfl (Or.inl rfl) pe_int ip_add)) (pss_cons (ps_set (i := 3) sc_tokens_of.nd rfl (Or.inl rfl) (C8.pe_c C_token_end hr (by decide) rfl (pa_cons (pv 0) (pa_cons (pv 2) pa_nil))))
    (pss_cons (ps_expr (pe_bm PySem.F.plainAttrs_list PySem.F.slot_list_append PySem.F.type_list_append mt_append (pv 1) (pa_cons (C8.pe_c C_token hr (by decide) rfl (pa_cons (pe_slice sl_str (pv 0) (po_some (pv 2)) (po_some (pv 3))) (pa_cons (pv 2) pa_nil))) pa_nil)))
    (pss_one (ps_set (i := 2) sc_tokens_of.nd rfl (Or.inl rfl) (pv 3))))))))
    (pss_cons (ps_expr (pe_bm PySem.F.plainAttrs_list PySem.F.slot_list_append PySem.F.type_list_append mt_append (pv 1) (pa_cons (pe_tup (pa_cons pe_str (pa_cons pe_non (pa_cons (pe_callB call_len_str (by rfl) T.z_len (by decide +kernel) (pa_cons (pv 0) pa_nil)) pa_nil)))) pa_nil)))
    (pss_one (ps_ret (pv 1))))))), ?_⟩
  have en := len_list x
  refine ⟨Nat.zero_le _, fun R hR => ?_⟩
  have sc_len : ∀ (f p : Nat) (cs : List Nat), (scan f p cs).length ≤ cs.length := by
    intro f
    induction f with
    | zero => intro p cs; exact Nat.zero_le _
    | succ f ih =>
      intro p cs
      cases cs with
      | nil => exact Nat.le_refl _
      | cons c r =>
        by_cases h : c ∈ SEP.cps.toList
        · rw [scan_sep h]
          exact Nat.le_succ_of_le (ih _ _)
        · rw [scan_tok h, List.length_cons, List.length_cons]
          have h0 : 0 < tokLen (c :: r) := tokLen_pos (by simp)
          have := ih (p + tokLen (c :: r)) ((c :: r).drop (tokLen (c :: r)))
          rw [List.length_drop, List.length_cons] at this
          omega
  have tot := sc_len x.cps.toList.length 0 x.cps.toList
  refine ⟨fun m σ H' => ∃ (a : Nat) (b : Option V) (ws : List V) (done : List (Tk × Nat)), σ = [some (.str x), some (.ref R), some (.int (a : Nat)), b] ∧ m = x.length - a ∧ a ≤ x.length ∧ Same H H' ∧ H' R = some (.lst ws) ∧ DtAll K H' ws (done.map tkD) ∧
    scan x.cps.toList.length 0 x.cps.toList = done ++ scan (x.cps.toList.drop a).length a (x.cps.toList.drop a), ⟨_, 0, none, [], [], rfl, rfl, Nat.zero_le _, same_new hR, upd_same, .nil, by rw [List.drop_zero]; rfl⟩, ?_⟩
  rintro m σ H' ⟨a, b, ws, done, rfl, rfl, ha, sm, hw, da, es⟩
  have lw : ws.length = done.length := by have := da.length; rw [List.length_map] at this; exact this
  have ld : done.length ≤ 8000 := by
    rw [es, List.length_append] at tot
    omega
  refine ⟨_, rfl, ⟨_, rfl, x, rfl, small (by omega), _, _, rfl, rfl, _, rfl, ?_⟩⟩
  by_cases hl : a < x.length
  · have he2 : a < x.cps.toList.length := by omega
    have dr : x.cps.toList.drop a = x.cps.toList[a] :: x.cps.toList.drop (a + 1) := List.drop_eq_getElem_cons he2
    rw [decide_eq_true (show (a : Int) < (x.length : Int) by omega)]
    refine iteT ⟨fun σ H2 => ∃ (a' : Nat) (b : Option V) (ws : List V) (done : List (Tk × Nat)), a < a' ∧ σ = [some (.str x), some (.ref R), some (.int (a' : Nat)), b] ∧ a' ≤ x.length ∧ Same H H2 ∧ H2 R = some (.lst ws) ∧ DtAll K H2 ws (done.map tkD) ∧
      scan x.cps.toList.length 0 x.cps.toList = done ++ scan (x.cps.toList.drop a').length a' (x.cps.toList.drop a'), ?_, ?_⟩
    · rintro σ' H2 ⟨a', b', ws', done', h1, rfl, h2, h3, h4, h5, h6⟩
      exact ⟨_, by omega, a', b', ws', done', rfl, rfl, h2, h3, h4, h5, h6⟩
    refine ⟨_, rfl, _, rfl, x, (a : Int), x.cps.toList[a], rfl, rfl, small (by omega), atI_nat (List.getElem?_eq_getElem he2), x.cps.toList[a], SEP, rfl, rfl, _, rfl, ?_⟩
    by_cases hc : x.cps.toList[a] ∈ SEP.cps.toList
    · rw [decide_eq_true hc]
      refine iteT ⟨_, rfl, _, _, rfl, rfl, a + 1, b, ws, done, by omega, rfl, by omega, sm, hw, da, ?_⟩
      rw [es, dr, List.length_cons, scan_sep hc]
    · rw [decide_eq_false hc]
      have hte : tokEnd x.cps.toList a = a + tokLen (x.cps.toList.drop a) := tokEnd_len he2
      have hp : 0 < tokLen (x.cps.toList.drop a) := tokLen_pos (by rw [dr]; simp)
      have hle : tokLen (x.cps.toList.drop a) ≤ x.cps.toList.length - a := by
        have := tokLen_le (x.cps.toList.drop a)
        rwa [List.length_drop] at this
      refine iteF ⟨_, rfl, _, rfl, x, a, rfl, hl, by omega, ?_⟩
      rw [hte]
      generalize hn : tokLen (x.cps.toList.drop a) = n at *
      refine ⟨_, rfl, .inl ⟨rfl, _, SqL.of hw⟩, ⟨_, rfl, _, rfl, _, rfl, _, rfl, _, rfl, x, rfl, small (by omega), _, rfl, ?_⟩⟩
      rw [cutM x (by omega) (by omega), show a + n - a = n by omega]
      refine ⟨mkS ((x.cps.toList.drop a).take n), a, rfl, ?_, ?_, fun H2 v sm2 dv => ?_⟩
      · rw [mk'_list]
        exact List.length_pos_iff.mp (by rw [List.length_take, List.length_drop]; omega)
      · rw [mk'_len, List.length_take, List.length_drop]; omega
      · rw [mk'_list] at dv
        have hw2 := sm2 _ _ hw
        refine ⟨R, _, _, rfl, rfl, hw2, smallL (by omega), _, rfl, a + n, _, _, done ++ [(tokOf ((x.cps.toList.drop a).take n), a)], by omega, rfl, by omega, Same.upd (sm.trans sm2) hR, upd_same, ?_, ?_⟩
        · rw [List.map_append]
          exact da.snoc sm2 hw2 dv
        · rw [es, dr, List.length_cons, scan_tok hc, ← dr, hn, List.append_assoc, List.singleton_append]
          congr 2
          rw [List.drop_drop]
          exact scan_fuel _ _ _ _ _ (Nat.le_refl _) (by rw [List.length_drop, List.length_drop]; omega) (Nat.le_refl _)
  · rw [decide_eq_false (show ¬ (a : Int) < (x.length : Int) by omega)]
    rw [List.drop_eq_nil_of_le (by omega), scan_nil, List.append_nil] at es
    refine iteF ⟨_, rfl, .inl ⟨rfl, _, SqL.of hw⟩, ⟨_, rfl, x, rfl, small (by omega), small (by show 3 ≤ _; decide), fun t ht => ?_⟩⟩
    have sm2 := same_new (H := H') (o := .tup [.str "end", .non, .int (x.length : Nat)]) ht
    have hw2 := sm2 _ _ hw
    refine ⟨R, _, _, rfl, rfl, hw2, smallL (by omega), _, rfl, q _ R _ (Same.upd (sm.trans sm2) hR) hR upd_same ?_⟩
    unfold toks
    rw [es, List.map_append]
    refine da.snoc sm2 hw2 ?_
    unfold tkD
    rw [← en]
    exact Dt.mk3 ht (.str _) .non (.int _)
end
end PK
namespace PK
open PySem L2 TL
/-! errors with a position; methods that may raise -/
abbrev s_initP : Stmt := (C8.clsBody (topS 10)).getD 0 (.Pass ⟨0, 0, 0, 0⟩)
theorem sc_initP : FnScope ["self", "position"] ["self", "position"] (defScope s_initP) := ⟨rfl, rfl, rfl, by decide +kernel, rfl, by decide +kernel, by decide +kernel⟩
structure NoP (K : PySem.W.Frag) (C : Addr) : Prop where
  ox : OexC K C
  p : PySem.W.findIn K (.ref C) "position" = some none
def spIP (K : PySem.W.Frag) : Sp := fun vs H Q _ => ∃ (C a : Addr) (v : V), vs = [.ref a, v] ∧ NoP K C ∧ H a = some (exo a C none) ∧ ∀ dx, H dx = none → dx ≠ a → Q .non (upd (upd H dx (exd dx [("position", v)])) a (exo a C (some dx)))
section
variable {P : Program} {w : World} {K : PySem.W.Frag} {mg : Str → Option Value} {base : Heap}
theorem ok_initP {qual : Str} {f : Addr} {fd : FuncData} (F : Fun K "__init__" qual s_initP f fd) : FnOk P w K mg base CX0 1 f fd ["self", "position"] (spIP K) := by
  refine F.ok sc_initP (fun vs H Q E h => ?_) (fun cdv A outer s H vs Q E hr h => ?_)
  · obtain ⟨_, _, _, rfl, _⟩ := h
    rfl
  obtain ⟨C, a, v, rfl, N, ha, q⟩ := h
  refine ⟨_, (pss_one (ps_ost (pv 0) (pv 1))), ?_⟩
  exact ⟨_, rfl, _, rfl, a, C, rfl, N.ox, N.p, .inl ⟨ha, q⟩⟩
end
structure CalY (P : Program) (w : World) (K : PySem.W.Frag) (mg : Str → Option Value) (base : Heap) (k : Nat) (x : Str) (C : Addr) (sp : Sp) : Prop where
  no : NoP K C
  gC : mg x = some (.ref C)
  ex : ∃ (fI : Addr) (fd : FuncData) (ps : List Str), PySem.W.findIn K (.ref C) "__init__" = some (some (.ref fI)) ∧ PySem.W.typeIn K (.ref fI) = some (.type "function") ∧ FnOk P w K mg base CX0 k fI fd ps sp ∧ Binds K fd ps []
theorem pmk_y {X : Cx} {k j : Nat} {x : Str} {C : Addr} {sp : Sp} {e : Expr} {es : List Expr} {ta : TA} {p pos : Pos} (c : CalY X.prog X.w X.K X.mg X.base k x C sp) (hr : Room j X.A) (hk : k + 1 ≤ j) (hg : Gl X x) (ha : PA X (e :: es) ta)
    (hdb : (x == ("__debug__" : Str)) = false := by decide) (he : starEach (e :: es) X.env = (false, eval e X.env) :: starEach es X.env := by rfl) (hpl : (backTo pos (starEach es X.env)).any (·.1) = false := by rfl) :
    PMk X (.Call (.Name x p) (e :: es) [] pos) (tMkO C sp [] ta) := by
  obtain ⟨fI, fd, ps, i, t, F, b⟩ := c.ex
  exact pmk_oex c.no.ox i t F (hr.mono hk) b .nil pass0 hg c.gC ha hdb he hpl
theorem madeP {K : PySem.W.Frag} {C : Addr} {v : V} {σ : L2.St} {H : Hp} {Q : XK} (N : NoP K C) (q : ∀ d H', Same H H' → H' d = some (.xd [("position", v)]) → Q (.ref C) (some d) H') : tMkO C (spIP K) [] (fun _ H Q => Q [v] H) σ H Q := by
  refine ⟨(by show 1 ≤ 1000; decide), fun a ha => ⟨C, a, v, rfl, N, upd_same, fun d hd hne => ⟨rfl, d, _, upd_same, by rw [upd_ne hne, upd_same], ?_, q d _ ?_ upd_same⟩⟩⟩
  · rwa [upd_ne hne] at hd
  · rw [upd_ne hne] at hd
    intro b o e
    have h1 := ne_of_none e ha
    have h2 := ne_of_none e hd
    rw [upd_ne h2, del_ne h1, upd_ne h1, upd_ne h2, upd_ne h1]; exact e
/-- a def that may raise, called by its name -/
structure CalR (P : Program) (w : World) (K : PySem.W.Frag) (mg : Str → Option Value) (base : Heap) (k : Nat) (x : Str) (sp : Sp) : Prop where
  ex : ∃ (f : Addr) (fd : FuncData) (ps : List Str), FnOk P w K mg base (L2.CX P w) k f fd ps sp ∧ mg x = some (.ref f) ∧ PySem.W.keepIn K (.ref f) = true ∧ Binds K fd ps []
section
variable {X : Cx} {k j : Nat} {x : Str} {sp : Sp} {p pos : Pos} {e : Expr} {es : List Expr} {t : TA} {W : WX}
theorem pe_cr (c : CalR X.prog X.w X.K X.mg X.base k x sp) (hr : Room j X.A) (hk : k ≤ j) (hg : Gl X x) (ha : PA X (e :: es) t)
    (hdb : (x == ("__debug__" : Str)) = false := by decide) (he : starEach (e :: es) X.env = (false, eval e X.env) :: starEach es X.env := by rfl) (hpl : (backTo pos (starEach es X.env)).any (·.1) = false := by rfl) :
    PE X (.Call (.Name x p) (e :: es) [] pos) (tCall sp [] C8.E0 t) := by
  obtain ⟨f, fd, ps, F, hm, kp, b⟩ := c.ex
  exact pe_call F (hr.mono hk) hg hm kp b .nil passL ha hdb he hpl
theorem pe_crS (c : CalR X.prog X.w X.K X.mg X.base k x sp) (tk : Takes X W) (hr : Room j X.A) (hk : k ≤ j) (hg : Gl X x) (ha : PA X (e :: es) t)
    (hdb : (x == ("__debug__" : Str)) = false := by decide) (he : starEach (e :: es) X.env = (false, eval e X.env) :: starEach es X.env := by rfl) (hpl : (backTo pos (starEach es X.env)).any (·.1) = false := by rfl) :
    PE X (.Call (.Name x p) (e :: es) [] pos) (tCallS sp (WE W) t) := by
  obtain ⟨f, fd, ps, F, hm, kp, b⟩ := c.ex
  exact pe_callS F (hr.mono hk) hg hm kp b (fun σ => passAt tk σ) ha hdb he hpl
end
/-- a method that may raise -/
structure CalM (P : Program) (w : World) (K : PySem.W.Frag) (mg : Str → Option Value) (base : Heap) (k : Nat) (C : Addr) (m : Str) (sp : Sp) : Prop where
  cl : Cls K C
  ex : ∃ (f : Addr) (fd : FuncData) (ps : List Str), Meth K C m f ∧ FnOk P w K mg base (L2.CX P w) k f fd ps sp ∧ Binds K fd ps []
section
variable {X : Cx} {k j : Nat} {x m : Str} {sp : Sp} {p pos apos : Pos} {o e : Expr} {es : List Expr} {ta : TE} {t : TA} {C : Addr} {E : XK}
theorem pe_mr {pl : Sem Bool} (c : CalM X.prog X.w X.K X.mg X.base k C m sp) (tk : Takes X (fun cls d _ H => E cls d H)) (hr : Room j X.A) (hk : k ≤ j) (he : PE X o ta) (ha : PA X (e :: es) t)
    (hst : starEach (e :: es) X.env = (false, eval e X.env) :: starEach es X.env := by rfl) (hpl : (backTo pos (starEach es X.env)).any (·.1) = false := by rfl)
    (ht : eval (.Call (.Attribute o m apos) (e :: es) [] pos) X.env = (do
      let ov ← eval o X.env
      standAt apos.atName
      let (f, first) ← holding [ov] (getMethod ov m pl)
      callWith pos f first (backTo pos (starEach (e :: es) X.env)) (backToKw pos (keywordEach [] X.env))) := by rfl) :
    PE X (.Call (.Attribute o m apos) (e :: es) [] pos) (tMeth C m sp [] E ta t) := by
  obtain ⟨f, fd, ps, hm, F, b⟩ := c.ex
  exact pe_meth he c.cl hm F (hr.mono hk) b .nil (passes_call tk fun _ _ _ _ h => h) ha hst hpl ht
theorem pe_crE (c : CalR X.prog X.w X.K X.mg X.base k x sp) (tk : Takes X (fun cls d _ H => E cls d H)) (hr : Room j X.A) (hk : k ≤ j) (hg : Gl X x) (ha : PA X (e :: es) t)
    (hdb : (x == ("__debug__" : Str)) = false := by decide) (he : starEach (e :: es) X.env = (false, eval e X.env) :: starEach es X.env := by rfl) (hpl : (backTo pos (starEach es X.env)).any (·.1) = false := by rfl) :
    PE X (.Call (.Name x p) (e :: es) [] pos) (tCall sp [] E t) := by
  obtain ⟨f, fd, ps, F, hm, kp, b⟩ := c.ex
  exact pe_call F (hr.mono hk) hg hm kp b .nil (passes_call tk fun _ _ _ _ h => h) ha hdb he hpl
end
end PK
namespace PK
open PySem L2 TL
/-! the reader -/
def sigK (sig : List (Str × Nat)) : List (Key × V) := sig.map fun e => (Sum.inr e.1, V.int (e.2 : Nat))
theorem valV_sig (w : Str) : ∀ sig : List (Str × Nat), valV (sigK sig) (Sum.inr w) = (sig.lookup w).map fun n => V.int (n : Nat)
  | [] => rfl
  | (k, n) :: r => by
    have ih := valV_sig w r
    by_cases h : k = w
    · subst h
      rw [show sigK ((k, n) :: r) = (Sum.inr k, V.int (n : Nat)) :: sigK r from rfl, valV_hd]
      simp [List.lookup]
    · rw [show sigK ((k, n) :: r) = (Sum.inr k, V.int (n : Nat)) :: sigK r from rfl, valV_tl (fun z => h (Sum.inr.inj z)), ih]
      have : (w == k) = false := beq_eq_false_iff_ne.mpr (Ne.symm h)
      simp [List.lookup, this]
abbrev rdF (dS L : Addr) (i : Nat) : List (Str × V) := [("signature", .ref dS), ("tokens", .ref L), ("at", .int (i : Nat))]
structure RTx (K : PySem.W.Frag) (C : Addr) : Prop where
  cl : Cls K C
  nS : NoAttr K C "signature"
  nT : NoAttr K C "tokens"
  nA : NoAttr K C "at"
/-- what stands of a reader -/
structure RdA (K : PySem.W.Frag) (H : Hp) (p C dS L : Addr) (sig : List (Str × Nat)) (tk : List (Tk × Nat)) (i : Nat) : Prop where
  at_ : ∃ dx, H p = some (.ins C dx (rdF dS L i))
  sg : H dS = some (.dK (sigK sig))
  tl : ∃ ws, H L = some (.lst ws) ∧ DtAll K H ws (tk.map tkD)
/-- what the tokens and the signature must be -/
structure TkOk (sig : List (Str × Nat)) (tk : List (Tk × Nat)) : Prop where
  len : tk.length ≤ 100000
  ended : Ended tk
  signs : ∀ s p, (Tk.sg s, p) ∈ tk → s ∈ SIGNS
  few : ∃ N : List Str, N.length < 64 ∧ ∀ w p, (Tk.name w, p) ∈ tk → w ∈ N
  low : ∀ e ∈ sig, e.2 ≤ 1000
section
variable {K : PySem.W.Frag} {H H' H1 : Hp} {p C dS L dx : Addr} {sig : List (Str × Nat)} {tk : List (Tk × Nat)} {i : Nat}
theorem DtAll.get : ∀ {vs : List V} {ds : List PyData} {i : Nat} {d : PyData}, DtAll K H vs ds → ds[i]? = some d → ∃ v, vs[i]? = some v ∧ Dt K H v d
  | _, _, _, _, .nil, e => by simp at e
  | _, _, 0, _, .cons h _, e => by
    simp at e; subst e
    exact ⟨_, rfl, h⟩
  | _, _, i + 1, _, .cons _ r, e => by
    obtain ⟨v, g, h⟩ := DtAll.get (i := i) r (by simpa using e)
    exact ⟨v, by simpa using g, h⟩
theorem Keep.trans {l : Addr} {H H1 H2 : Hp} (x : Keep l H H1) (y : Keep l H1 H2) : Keep l H H2 := fun b o hb h => y b o hb (x b o hb h)
theorem Keep.refl {l : Addr} {H : Hp} : Keep l H H := fun _ _ _ h => h
theorem Keep.ofSame {l : Addr} {H H1 : Hp} (s : Same H H1) : Keep l H H1 := fun b o _ h => s b o h
theorem seqT_keep {a : Addr} {xs : List V} {fs : List (Str × V)} (h : SqT K H a xs) (k : Keep p H H') (hp : H p = some (.ins C dx fs)) : SqT K H' a xs := by
  have ne : ∀ {o : HO}, H a = some o → (∀ C dx fs, o ≠ .ins C dx fs) → a ≠ p := fun e d z => by
    subst z
    rw [hp] at e; cases e
    exact d _ _ _ rfl
  rcases h with (h | ⟨o, h⟩) | h
  · exact .inl (.inl (k _ _ (ne h (fun _ _ _ => HO.noConfusion)) h))
  · exact .inl (.inr ⟨o, k _ _ (ne h (fun _ _ _ => HO.noConfusion)) h⟩)
  · exact .inr h
theorem Dt.keep {d : PyData} {v : V} {fs : List (Str × V)} (h : Dt K H v d) (k : Keep p H H') (hp : H p = some (.ins C dx fs)) : Dt K H' v d := Dt.mono (fun _ _ q => seqT_keep q k hp) d v h
theorem DtAll.keep {d : List PyData} {v : List V} {fs : List (Str × V)} (h : DtAll K H v d) (k : Keep p H H') (hp : H p = some (.ins C dx fs)) : DtAll K H' v d := DtAll.mono (fun _ _ q => seqT_keep q k hp) d v h
theorem RdA.keep (r : RdA K H p C dS L sig tk i) (k : Keep p H H') {j : Nat} (h : ∃ dx, H' p = some (.ins C dx (rdF dS L j))) : RdA K H' p C dS L sig tk j := by
  obtain ⟨dx, hp⟩ := r.at_
  obtain ⟨ws, hw, da⟩ := r.tl
  exact ⟨h, k _ _ (ne_of r.sg hp (fun z => by cases z)) r.sg, ws, k _ _ (ne_of hw hp (fun z => by cases z)) hw, da.keep k hp⟩
theorem RdA.same (r : RdA K H p C dS L sig tk i) (s : Same H H') : RdA K H' p C dS L sig tk i := by
  obtain ⟨dx, hp⟩ := r.at_
  exact r.keep (Keep.ofSame s) ⟨dx, s _ _ hp⟩
theorem RdA.here (r : RdA K H p C dS L sig tk i) {k : Tk} {q : Nat} (e : tk[i]? = some (k, q)) : ∃ ws t w, H L = some (.lst ws) ∧ ws.length = tk.length ∧ ws[i]? = some (.ref t) ∧ SqT K H t [.str k.kind, w, .int (q : Nat)] ∧ Dt K H w k.worth := by
  obtain ⟨ws, hw, da⟩ := r.tl
  have hl := da.length
  rw [List.length_map] at hl
  obtain ⟨v, gv, dv⟩ := DtAll.get da (show (tk.map tkD)[i]? = some (tkD (k, q)) by rw [List.getElem?_map, e]; rfl)
  obtain ⟨t, x, y, z, rfl, st, dx, dy, dz⟩ := Dt.t3 dv
  rw [dx.s, dz.i] at st
  exact ⟨ws, t, y, hw, hl, gv, st, dy⟩
end
section
variable {P : Program} {w : World} {K : PySem.W.Frag} {mg : Str → Option Value} {base : Heap} {aS C CB CD : Addr}
/-- self.tokens[self.at] -/
theorem vHere {σ : L2.St} {H : Hp} {Q : VK} {p dS L : Addr} {sig : List (Str × Nat)} {tk : List (Tk × Nat)} {i : Nat} {k : Tk} {q : Nat} (X : RTx K C) (h : σ[0]? = some (some (.ref p))) (r : RdA K H p C dS L sig tk i) (e : tk[i]? = some (k, q))
    (g : ∀ t w, SqT K H t [.str k.kind, w, .int (q : Nat)] → Dt K H w k.worth → Q (.ref t) H) : tOp (rIxL K) (tFld K (tVar 0) "tokens") (tFld K (tVar 0) "at") σ H Q := by
  obtain ⟨dx, hp⟩ := r.at_
  obtain ⟨ws, t, w, hw, hl, gt, st, dw⟩ := r.here e
  exact ⟨_, h, p, C, dx, _, _, rfl, hp, X.cl, X.nT, rfl, _, h, p, C, dx, _, _, rfl, hp, X.cl, X.nA, rfl, L, ws, (i : Int), _, rfl, rfl, SqL.of hw, atI_nat gt, g t w st dw⟩
def spRTake (K : PySem.W.Frag) (C CB : Addr) : Sp := fun vs H Q E => ∃ (p dS L : Addr) (x : Str) (sig : List (Str × Nat)) (tk : List (Tk × Nat)) (i : Nat) (k : Tk) (q : Nat), vs = [.ref p, .str x] ∧ RdA K H p C dS L sig tk i ∧ tk[i]? = some (k, q) ∧
  (k.kind = x → ∀ v H', Keep p H H' → RdA K H' p C dS L sig tk (i + 1) → Dt K H' v k.worth → Q v H') ∧ (k.kind ≠ x → ∀ d H', Keep p H H' → H' d = some (.xd [("position", .int (q : Nat))]) → E (.ref CB) (some d) H')
abbrev s_Reader_take : Stmt := (C8.clsBody (topS 27)).getD 1 (.Pass ⟨0, 0, 0, 0⟩)
theorem sc_Reader_take : FnScope ["self", "kind", "found", "worth", "position"] ["self", "kind"] (defScope s_Reader_take) := ⟨rfl, rfl, rfl, by decide +kernel, rfl, by decide +kernel, by decide +kernel⟩
-- slots: 0:self 1:kind 2:found 3:worth 4:position
theorem ok_rtake {f : Addr} {fd : FuncData} (F : Fun K "take" "Reader.take" s_Reader_take f fd) (T : TxtP K mg aS) (X : RTx K C) (XB : CalY P w K mg base 1 "BadTerm" CB (spIP K)) : FnOk P w K mg base (L2.CX P w) 3 f fd ["self", "kind"] (spRTake K C CB) := by
  refine F.okX sc_Reader_take (fun vs H Q E h => ?_) (fun cdv A outer s H vs Q E hr h => ?_)
  · obtain ⟨_, _, _, _, _, _, _, _, _, rfl, _⟩ := h
    rfl
  obtain ⟨p, dS, L, x, sig, tk, i, k, qq, rfl, r, e, q1, q2⟩ := h
  refine ⟨_, (pss_cons (ps_asg (pe_ix ix_list (pe_fld (pv 0) rfl) (pe_fld (pv 0) rfl) (fun _ _ => rfl)) (pg_tup (by rfl) (pgs_cons (pg_name (i := 2) sc_Reader_take.nd rfl (Or.inl rfl)) (pgs_cons (pg_name (i := 3) sc_Reader_take.nd rfl (Or.inl rfl)) (pgs_cons (pg_name (i := 4) sc_Reader_take.nd rfl (Or.inl rfl)) pgs_nil)))))
    (pss_cons (ps_if (pt_cmpR op_ne (pv 2) (pv 1) (nomark _)) (pss_one (ps_raise rfl (takes_of rfl rfl rfl rfl) <| pmk_y XB hr (by decide) rfl (pa_cons (pv 4) pa_nil))) pss_nil)
    (pss_cons (ps_fldaug (pv 0) pe_int in_add)
    (pss_one (ps_ret (pv 3)))))), ?_⟩
  refine vHere X rfl r e fun t w st dw => ?_
  refine ⟨t, _, rfl, st, rfl, _, _, rfl, _, _, rfl, _, _, rfl, rfl, ?_⟩
  refine ⟨_, rfl, _, rfl, rfl, _, rfl, ?_⟩
  by_cases hk : k.kind = x
  · rw [decide_eq_true (show V.str k.kind = V.str x by rw [hk])]
    obtain ⟨dx, hp⟩ := r.at_
    refine iteF ⟨_, rfl, p, C, dx, _, _, rfl, hp, X.cl, X.nA, rfl, _, _, rfl, rfl, dx, _, hp, (by show 3 < 1000; decide), _, rfl, ?_⟩
    have kp : Keep p H (upd H p (.ins C dx (rdF dS L (i + 1)))) := fun b o hb h => by rw [upd_ne hb]; exact h
    exact q1 hk _ _ kp (r.keep kp ⟨dx, upd_same⟩) (dw.keep kp hp)
  · rw [decide_eq_false (show ¬ V.str k.kind = V.str x from fun z => hk (V.str.inj z))]
    exact iteT ⟨_, rfl, madeP (σ := []) XB.no fun d H' sm hd => q2 hk d H' (Keep.ofSame sm) hd⟩
end
end PK
namespace PK
open PySem L2 TL
/-- what comes of reading -/
def outR (K : PySem.W.Frag) (C CB CD p dS L : Addr) (sig : List (Str × Nat)) (tk : List (Tk × Nat)) (H : Hp) (Q : VK) (E : XK) : Except PErr (Tm × Nat) → Prop
  | .ok (t, j) => ∀ v H', Keep p H H' → RdA K H' p C dS L sig tk j → Dt K H' v t.d → Q v H'
  | .error (b, q) => ∀ d H', Keep p H H' → H' d = some (.xd [("position", .int (q : Nat))]) → E (.ref (if b then CD else CB)) (some d) H'
theorem outR.keep {K : PySem.W.Frag} {C CB CD p dS L : Addr} {sig : List (Str × Nat)} {tk : List (Tk × Nat)} {H H1 : Hp} {Q : VK} {E : XK} {r : Except PErr (Tm × Nat)} (h : outR K C CB CD p dS L sig tk H Q E r) (k : Keep p H H1) : outR K C CB CD p dS L sig tk H1 Q E r := by
  unfold outR at h ⊢
  split at h
  · exact fun v H' k' => h v H' (k.trans k')
  · exact fun d H' k' => h d H' (k.trans k')
def spTerm (K : PySem.W.Frag) (C CB CD : Addr) (f : Nat) : Sp := fun vs H Q E => ∃ (p dS L : Addr) (sig : List (Str × Nat)) (tk : List (Tk × Nat)) (i d : Nat), vs = [.ref p, .int (d : Nat)] ∧ RdA K H p C dS L sig tk i ∧ i < tk.length ∧ TkOk sig tk ∧ d ≤ 60 ∧ 61 ≤ f + d ∧
  outR K C CB CD p dS L sig tk H Q E (pTerm sig tk f d i)
def spNode (K : PySem.W.Frag) (C CB CD : Addr) (f : Nat) : Sp := fun vs H Q E => ∃ (p dS L : Addr) (sig : List (Str × Nat)) (tk : List (Tk × Nat)) (i d q : Nat), vs = [.ref p, .int (d : Nat)] ∧ RdA K H p C dS L sig tk i ∧ tk[i]? = some (.sg "(", q) ∧ TkOk sig tk ∧ d ≤ 60 ∧ 60 ≤ f + d ∧
  outR K C CB CD p dS L sig tk H Q E (pNode sig tk (pTerm sig tk f (d + 1)) d i q)
def spMap (K : PySem.W.Frag) (C CB CD : Addr) (f : Nat) : Sp := fun vs H Q E => ∃ (p dS L : Addr) (sig : List (Str × Nat)) (tk : List (Tk × Nat)) (i d q : Nat), vs = [.ref p, .int (d : Nat)] ∧ RdA K H p C dS L sig tk i ∧ tk[i]? = some (.sg "{", q) ∧ TkOk sig tk ∧ d ≤ 60 ∧ 60 ≤ f + d ∧
  outR K C CB CD p dS L sig tk H Q E (pMap tk (pTerm sig tk f (d + 1)) d i q)
section
variable {P : Program} {w : World} {K : PySem.W.Frag} {mg : Str → Option Value} {base : Heap} {aS C CB CD : Addr}
abbrev s_Reader_term : Stmt := (C8.clsBody (topS 27)).getD 2 (.Pass ⟨0, 0, 0, 0⟩)
theorem sc_Reader_term : FnScope ["self", "depth", "kind", "worth", "position"] ["self", "depth"] (defScope s_Reader_term) := ⟨rfl, rfl, rfl, by decide +kernel, rfl, by decide +kernel, by decide +kernel⟩
-- slots: 0:self 1:depth 2:kind 3:worth 4:position
theorem ok_rterm {n : Nat} {f : Addr} {fd : FuncData} (F : Fun K "term" "Reader.term" s_Reader_term f fd) (T : TxtP K mg aS) (X : RTx K C) (XB : CalY P w K mg base 1 "BadTerm" CB (spIP K))
    (M_take : CalM P w K mg base 3 C "take" (spRTake K C CB)) (M_node : CalM P w K mg base (2 * n + 5) C "node" (spNode K C CB CD n)) (M_mapping : CalM P w K mg base (2 * n + 5) C "mapping" (spMap K C CB CD n)) :
    FnOk P w K mg base (L2.CX P w) (2 * n + 6) f fd ["self", "depth"] (spTerm K C CB CD (n + 1)) := by
  refine F.okX sc_Reader_term (fun vs H Q E h => ?_) (fun cdv A outer s H vs Q E hr h => ?_)
  · obtain ⟨_, _, _, _, _, _, _, rfl, _⟩ := h
    rfl
  obtain ⟨p, dS, L, sig, tk, i, d, rfl, r, hi, ok, hd, hf, q⟩ := h
  refine ⟨_, (pss_cons (ps_asg (pe_ix ix_list (pe_fld (pv 0) rfl) (pe_fld (pv 0) rfl) (fun _ _ => rfl)) (pg_tup (by rfl) (pgs_cons (pg_name (i := 2) sc_Reader_term.nd rfl (Or.inl rfl)) (pgs_cons (pg_name (i := 3) sc_Reader_term.nd rfl (Or.inl rfl)) (pgs_cons (pg_name (i := 4) sc_Reader_term.nd rfl (Or.inl rfl)) pgs_nil)))))
    (pss_cons (ps_if (pt_cmpR op_in_seq (pv 2) (pe_tup (pa_cons pe_str (pa_cons pe_str (pa_cons pe_str (pa_cons pe_str pa_nil))))) rfl) (pss_one (ps_ret (pe_tup (pa_cons (pv 2) (pa_cons (pe_mr M_take (takes_of rfl rfl rfl rfl) hr (by omega) (pv 0) (pa_cons (pv 2) pa_nil)) pa_nil))))) pss_nil)
    (pss_cons (ps_if (PW.pt (pw_and (pt_cmpR op_eq (pv 2) pe_str (nomark _)) (pw_and1 (pt_cmpR op_eq (pe_dget1 (hu_of hr) (pe_fld (pv 0) rfl) (pv 3) ⟨by rfl, by rfl, by rfl, by rfl⟩) pe_int (nomark _))))) (pss_one (ps_ret (pe_tup (pa_cons pe_str (pa_cons (pe_mr M_take (takes_of rfl rfl rfl rfl) hr (by omega) (pv 0) (pa_cons (pv 2) pa_nil)) (pa_cons (pe_tup pa_nil) pa_nil)))))) pss_nil)
    (pss_cons (ps_if (pt_cmpR op_eq (pv 2) pe_str (nomark _)) (pss_one (ps_ret (pe_mr M_mapping (takes_of rfl rfl rfl rfl) hr (by omega) (pv 0) (pa_cons (pv 1) pa_nil)))) pss_nil)
    (pss_cons (ps_if (PW.pt (pw_and (pt_cmpR op_eq (pv 2) pe_str (nomark _)) (pw_and1 (pt_truth (pe_fld (pv 0) rfl) (by intro _; rfl))))) (pss_one (ps_ret (pe_mr M_node (takes_of rfl rfl rfl rfl) hr (by omega) (pv 0) (pa_cons (pv 1) pa_nil)))) pss_nil)
    (pss_one (ps_raise rfl (takes_of rfl rfl rfl rfl) <| pmk_y XB hr (by omega) rfl (pa_cons (pv 4) pa_nil)))))))), ?_⟩
  obtain ⟨⟨k, qq⟩, e⟩ : ∃ x, tk[i]? = some x := ⟨_, List.getElem?_eq_getElem hi⟩
  refine vHere X rfl r e fun t w st dw => ?_
  refine ⟨t, _, rfl, st, rfl, _, _, rfl, _, _, rfl, _, _, rfl, rfl, ?_⟩
  refine ⟨_, rfl, small (by show 4 ≤ _; decide), fun t4 h4 => ⟨t4, _, rfl, .inr (SqT.of upd_same), rfl, flat_strs ["int", "name", "addr", "meta"], _, rfl, ?_⟩⟩
  have sm := same_new (H := H) (o := .tup [V.str "int", .str "name", .str "addr", .str "meta"]) h4
  have r1 := r.same sm
  have q1 := q.keep (Keep.ofSame sm)
  have dw1 := dw.same sm
  generalize upd H t4 (.tup [V.str "int", .str "name", .str "addr", .str "meta"]) = H1 at *
  obtain ⟨dx, hp⟩ := r1.at_
  rw [show inV (V.str k.kind) [V.str "int", .str "name", .str "addr", .str "meta"] = decide (k.kind ∈ (["int", "name", "addr", "meta"] : List Str)) from inV_str k.kind ["int", "name", "addr", "meta"]]
  -- what is read at once
  have leaf : ∀ (t : Tm), t.d = .tuple [.str k.kind, k.worth] → pTerm sig tk (n + 1) d i = .ok (t, i + 1) → k.kind ∈ (["int", "name", "addr", "meta"] : List Str) → ∀ {D : Ends}, D.rt = Q → ∀ {A : Prop}, if decide (k.kind ∈ (["int", "name", "addr", "meta"] : List Str)) = true then
      tRet (tTup (tCons (tVar 2) (tCons (tMeth C "take" (spRTake K C CB) [] E (tVar 0) (tCons (tVar 2) tNil)) tNil))) D [some (.ref p), some (.int (d : Nat)), some (.str k.kind), some w, some (.int (qq : Nat))] H1 else A := fun t et ep hk D hD A => by
    rw [decide_eq_true hk]
    rw [ep] at q1
    refine iteT ⟨_, rfl, _, rfl, p, dx, _, rfl, hp, rfl, _, rfl, p, dS, L, k.kind, sig, tk, i, k, qq, rfl, r1, e, fun _ v H' kp r' dv => ⟨small (by show 2 ≤ _; decide), fun a ha => ?_⟩, fun z => absurd rfl z⟩
    rw [hD]
    exact q1 _ _ (kp.trans (Keep.ofSame (same_new ha))) (r'.same (same_new ha)) (by rw [et]; exact Dt.mk2 ha (.str _) dv)
  cases k with
  | int m => exact leaf (.int m) (by unfold Tm.d; rfl) (by unfold pTerm; rw [e]) (by show ("int" : Str) ∈ _; decide +kernel) rfl
  | name m => exact leaf (.name m) (by unfold Tm.d; rfl) (by unfold pTerm; rw [e]) (by show ("name" : Str) ∈ _; decide +kernel) rfl
  | addr m => exact leaf (.addr m) (by unfold Tm.d; rfl) (by unfold pTerm; rw [e]) (by show ("addr" : Str) ∈ _; decide +kernel) rfl
  | var m => exact leaf (.var m) (by unfold Tm.d; rfl) (by unfold pTerm; rw [e]) (by show ("meta" : Str) ∈ _; decide +kernel) rfl
  | word m =>
    cases dw1
    rw [show decide ((Tk.word m).kind ∈ (["int", "name", "addr", "meta"] : List Str)) = false from decide_eq_false (show ("word" : Str) ∉ _ by decide +kernel)]
    refine iteF ⟨_, rfl, rfl, _, rfl, sT rfl ?_⟩
    refine ⟨_, rfl, p, C, dx, _, _, rfl, hp, X.cl, X.nS, rfl, dS, rfl, .inl ⟨_, .of r1.sg⟩, _, rfl, _, DGet.k (k := Sum.inr m) r1.sg, ?_⟩
    rw [valV_sig]
    by_cases h0 : sig.lookup m = some 0
    · rw [h0]
      have ep : pTerm sig tk (n + 1) d i = .ok (.node m [], i + 1) := by unfold pTerm; rw [e]; exact if_pos h0
      rw [ep] at q1
      refine ⟨rfl, _, rfl, ?_⟩
      rw [decide_eq_true (show ((some 0).map fun n : Nat => V.int (n : Nat)).getD .non = V.int 0 from rfl)]
      refine iteT ⟨_, rfl, p, dx, _, rfl, hp, rfl, _, rfl, p, dS, L, _, sig, tk, i, _, qq, rfl, r1, e, fun _ v H' kp r' dv => ⟨small (by show 0 ≤ _; decide), fun a ha => ⟨small (by show 3 ≤ _; decide), fun b hb => ?_⟩⟩, fun z => absurd rfl z⟩
      exact q1 _ _ ((kp.trans (Keep.ofSame (same_new ha))).trans (Keep.ofSame (same_new hb))) ((r'.same (same_new ha)).same (same_new hb)) (by unfold Tm.d; unfold Tm.ds; exact Dt.mk3 hb (.str _) (dv.new ha) (.tup (SqT.of upd_same) .nil))
    · have ep : pTerm sig tk (n + 1) d i = .error (false, qq) := by unfold pTerm; rw [e]; exact if_neg h0
      rw [ep] at q1
      have sc : scal (((sig.lookup m).map fun n : Nat => V.int (n : Nat)).getD .non) (V.int 0) = true := by cases sig.lookup m <;> rfl
      have ne : ¬ (((sig.lookup m).map fun n : Nat => V.int (n : Nat)).getD .non = V.int 0) := fun z => h0 (by
        cases hl : sig.lookup m with
        | none => rw [hl] at z; cases z
        | some x =>
          rw [hl] at z
          have : (x : Int) = 0 := V.int.inj z
          rw [show x = 0 by omega])
      refine ⟨sc, _, rfl, ?_⟩
      rw [decide_eq_false ne]
      refine iteF ⟨_, rfl, rfl, _, rfl, sF (by show ("word" : Str) ≠ _; decide +kernel) ⟨_, rfl, rfl, _, rfl, sF (by show ("word" : Str) ≠ _; decide +kernel) ⟨_, rfl, madeP (σ := []) XB.no fun d' H' sm' hd' => q1 d' H' (Keep.ofSame sm') hd'⟩⟩⟩
  | sg x =>
    cases dw1
    have hx := ok.signs x qq (List.mem_of_getElem? e)
    have hx4 : x = "(" ∨ x = ")" ∨ x = "{" ∨ x = "}" := by simpa [SIGNS] using hx
    have nk : ∀ y ∈ SIGNS, y ∉ (["int", "name", "addr", "meta"] : List Str) ∧ y ≠ "word" := by decide +kernel
    rw [show decide ((Tk.sg x).kind ∈ (["int", "name", "addr", "meta"] : List Str)) = false from decide_eq_false (nk x hx).1]
    refine iteF ⟨_, rfl, rfl, _, rfl, sF (nk x hx).2 ?_⟩
    have ep : pTerm sig tk (n + 1) d i = (if x = "{" then pMap tk (pTerm sig tk n (d + 1)) d i qq else if x = "(" then if sig = [] then .error (false, qq) else pNode sig tk (pTerm sig tk n (d + 1)) d i qq else .error (false, qq)) := by
      unfold pTerm; rw [e]
    rw [ep] at q1
    by_cases h1 : x = "{"
    · subst h1
      rw [if_pos rfl] at q1
      exact ⟨_, rfl, rfl, _, rfl, sT rfl ⟨_, rfl, p, dx, _, rfl, hp, rfl, _, rfl, p, dS, L, sig, tk, i, d, qq, rfl, r1, e, ok, hd, by omega, q1⟩⟩
    rw [if_neg h1] at q1
    by_cases h2 : x = "("
    · subst h2
      rw [if_pos rfl] at q1
      refine ⟨_, rfl, rfl, _, rfl, sF (by show ("(" : Str) ≠ _; decide +kernel) ⟨_, rfl, rfl, _, rfl, sT rfl ?_⟩⟩
      refine ⟨_, rfl, p, C, dx, _, _, rfl, hp, X.cl, X.nS, rfl, _, .inr (.inr ⟨_, r1.sg, rfl⟩), ?_⟩
      cases sig with
      | nil => exact iteF ⟨_, rfl, madeP (σ := []) XB.no fun d' H' sm' hd' => q1 d' H' (Keep.ofSame sm') hd'⟩
      | cons s0 sr =>
        rw [if_neg (by simp)] at q1
        exact iteT ⟨_, rfl, p, dx, _, rfl, hp, rfl, _, rfl, p, dS, L, _, tk, i, d, qq, rfl, r1, e, ok, hd, by omega, q1⟩
    rw [if_neg h2] at q1
    exact ⟨_, rfl, rfl, _, rfl, sF h1 ⟨_, rfl, rfl, _, rfl, sF h2 ⟨_, rfl, madeP (σ := []) XB.no fun d' H' sm' hd' => q1 d' H' (Keep.ofSame sm') hd'⟩⟩⟩
  | bad =>
    have ep : pTerm sig tk (n + 1) d i = .error (false, qq) := by unfold pTerm; rw [e]
    rw [ep] at q1
    rw [show decide (Tk.bad.kind ∈ (["int", "name", "addr", "meta"] : List Str)) = false by decide +kernel]
    exact iteF ⟨_, rfl, rfl, _, rfl, sF (by decide +kernel) ⟨_, rfl, rfl, _, rfl, sF (by decide +kernel) ⟨_, rfl, rfl, _, rfl, sF (by decide +kernel) ⟨_, rfl, madeP (σ := []) XB.no fun d' H' sm' hd' => q1 d' H' (Keep.ofSame sm') hd'⟩⟩⟩⟩
  | fin =>
    have ep : pTerm sig tk (n + 1) d i = .error (false, qq) := by unfold pTerm; rw [e]
    rw [ep] at q1
    rw [show decide (Tk.fin.kind ∈ (["int", "name", "addr", "meta"] : List Str)) = false by decide +kernel]
    exact iteF ⟨_, rfl, rfl, _, rfl, sF (by decide +kernel) ⟨_, rfl, rfl, _, rfl, sF (by decide +kernel) ⟨_, rfl, rfl, _, rfl, sF (by decide +kernel) ⟨_, rfl, madeP (σ := []) XB.no fun d' H' sm' hd' => q1 d' H' (Keep.ofSame sm') hd'⟩⟩⟩⟩
end
end PK
namespace PK
open PySem L2 TL
theorem many_zero (r : Nat → Except PErr (Tm × Nat)) (i : Nat) : pMany r 0 i = .ok ([], i) := rfl
theorem many_succ (r : Nat → Except PErr (Tm × Nat)) (n i : Nat) : pMany r (n + 1) i = match r i with
    | .error e => .error e
    | .ok (t, j) => match pMany r n j with
      | .error e => .error e
      | .ok (ts, k) => .ok (t :: ts, k) := rfl
theorem keep_free {p R : Addr} {H H' : Hp} {o : HO} (k : Keep p H H') (hp : H' p = some o) (h : H' R = none) : H R = none := by
  cases e : H R with
  | none => rfl
  | some u =>
    by_cases z : R = p
    · rw [z, hp] at h; cases h
    · rw [k R u z e] at h; cases h
theorem mem_lookup {sig : List (Str × Nat)} {c : Str} {m : Nat} : sig.lookup c = some m → (c, m) ∈ sig := by
  induction sig with
  | nil => intro h; cases h
  | cons e r ih =>
    intro h
    by_cases hc : (c == e.1) = true
    · simp only [List.lookup, hc] at h
      cases h
      rw [show (c, e.2) = e from Prod.ext (beq_iff_eq.mp hc) rfl]
      exact .head _
    · rw [Bool.not_eq_true] at hc
      simp only [List.lookup, hc] at h
      exact .tail _ (ih h)
section
variable {P : Program} {w : World} {K : PySem.W.Frag} {mg : Str → Option Value} {base : Heap} {aS C CB CD : Addr}
abbrev s_Reader_node : Stmt := (C8.clsBody (topS 27)).getD 3 (.Pass ⟨0, 0, 0, 0⟩)
theorem sc_Reader_node : FnScope ["self", "depth", "position", "kind", "constructor", "place", "parts", "_"] ["self", "depth"] (defScope s_Reader_node) := ⟨rfl, rfl, rfl, by decide +kernel, rfl, by decide +kernel, by decide +kernel⟩
-- slots: 0:self 1:depth 2:position 3:kind 4:constructor 5:place 6:parts 7:_
theorem ok_rnode {n : Nat} {f : Addr} {fd : FuncData} (F : Fun K "node" "Reader.node" s_Reader_node f fd) (T : TxtP K mg aS) (X : RTx K C) (XB : CalY P w K mg base 1 "BadTerm" CB (spIP K)) (XD : CalY P w K mg base 1 "TooDeep" CD (spIP K))
    (M_take : CalM P w K mg base 3 C "take" (spRTake K C CB)) (M_term : CalM P w K mg base (2 * n + 4) C "term" (spTerm K C CB CD n)) :
    FnOk P w K mg base (L2.CX P w) (2 * n + 5) f fd ["self", "depth"] (spNode K C CB CD n) := by
  refine F.okX sc_Reader_node (fun vs H Q E h => ?_) (fun cdv A outer s H vs Q E hr h => ?_)
  · obtain ⟨_, _, _, _, _, _, _, _, rfl, _⟩ := h
    rfl
  obtain ⟨p, dS, L, sig, tk, i, d, qq, rfl, r, e, ok, hd, hf, q⟩ := h
  refine ⟨_, (pss_cons (ps_set (i := 2) sc_Reader_node.nd rfl (Or.inl rfl) (pe_ix ix_tup (pe_ix ix_list (pe_fld (pv 0) rfl) (pe_fld (pv 0) rfl) (fun _ _ => rfl)) pe_int (fun _ _ => rfl)))
    (pss_cons (ps_expr (pe_mr M_take (takes_of rfl rfl rfl rfl) hr (by omega) (pv 0) (pa_cons pe_str pa_nil)))
    (pss_cons (ps_asg (pe_ix ix_list (pe_fld (pv 0) rfl) (pe_fld (pv 0) rfl) (fun _ _ => rfl)) (pg_tup (by rfl) (pgs_cons (pg_name (i := 3) sc_Reader_node.nd rfl (Or.inl rfl)) (pgs_cons (pg_name (i := 4) sc_Reader_node.nd rfl (Or.inl rfl)) (pgs_cons (pg_name (i := 5) sc_Reader_node.nd rfl (Or.inl rfl)) pgs_nil)))))
    (pss_cons (ps_if (PW.pt (pw_or (pt_cmpR op_ne (pv 3) pe_str (nomark _)) (pw_or1 (pt_cmp (pc_dnotin (hu_of hr) (pv 4) (pe_fld (pv 0) rfl)))))) (pss_one (ps_raise rfl (takes_of rfl rfl rfl rfl) <| pmk_y XB hr (by omega) rfl (pa_cons (pv 5) pa_nil))) pss_nil)
    (pss_cons (ps_if (pt_cmpR op_ge (pv 1) (pe_glI (n := 60) rfl T.g_MO) (nomark _)) (pss_one (ps_raise rfl (takes_of rfl rfl rfl rfl) <| pmk_y XD hr (by omega) rfl (pa_cons (pv 2) pa_nil))) pss_nil)
    (pss_cons (ps_expr (pe_mr M_take (takes_of rfl rfl rfl rfl) hr (by omega) (pv 0) (pa_cons pe_str pa_nil)))
    (pss_cons (ps_set (i := 6) sc_Reader_node.nd rfl (Or.inl rfl) (pe_lst pa_nil))
    (pss_cons (ps_for (passes_of rfl) rfl (pi_range1 (by rfl) T.z_range (pa_cons (pe_dget (hu_of hr) (pe_fld (pv 0) rfl) (pv 4) (fun _ _ => rfl)) pa_nil)) (pg_name (i := 7) sc_Reader_node.nd rfl (Or.inl rfl)) (pss_one (ps_expr (pe_bm PySem.F.plainAttrs_list PySem.F.slot_list_append PySem.F.type_list_append mt_append (pv 6) (pa_cons (pe_mr M_term (takes_of rfl rfl rfl rfl) hr (by omega) (pv 0) (pa_cons (pe_op op_add (pv 1) pe_int) pa_nil)) pa_nil)))))
    (pss_cons (ps_expr (pe_mr M_take (takes_of rfl rfl rfl rfl) hr (by omega) (pv 0) (pa_cons pe_str pa_nil)))
    (pss_one (ps_ret (pe_tup (pa_cons pe_str (pa_cons (pv 4) (pa_cons (pe_callTy call_tuple_of (by rfl) T.z_tuple (by decide +kernel) (pa_cons (pv 6) pa_nil)) pa_nil))))))))))))))), ?_⟩
  obtain ⟨dx, hp⟩ := id r.at_
  refine vHere X rfl r e fun t w st dw => ?_
  refine ⟨t, _, _, _, rfl, rfl, st, rfl, ?_⟩
  refine ⟨_, rfl, p, dx, _, rfl, hp, rfl, p, dS, L, _, sig, tk, i, _, qq, rfl, r, e, fun _ v H1 k1 r1 _ => ?_, fun z => absurd rfl z⟩
  have q1 := q.keep k1
  have h1 := ok.ended.lt e (by intro z; cases z)
  obtain ⟨⟨k, q2⟩, e2⟩ : ∃ x, tk[i + 1]? = some x := ⟨_, List.getElem?_eq_getElem h1⟩
  refine vHere X rfl r1 e2 fun t2 w2 st2 dw2 => ?_
  refine ⟨t2, _, rfl, st2, rfl, _, _, rfl, _, _, rfl, _, _, rfl, rfl, ?_⟩
  obtain ⟨dx1, hp1⟩ := id r1.at_
  refine ⟨_, rfl, rfl, _, rfl, ?_⟩
  by_cases hk : k.kind = "word"
  · rw [decide_eq_true (show V.str k.kind = V.str "word" by rw [hk])]
    refine iteF ?_
    have : ∃ c, k = .word c := by
      cases k with
      | word c => exact ⟨c, rfl⟩
      | sg x =>
        have nk : ∀ y ∈ SIGNS, y ≠ "word" := by decide +kernel
        exact absurd hk (nk x (ok.signs x q2 (List.mem_of_getElem? e2)))
      | int _ => exact absurd hk (by show ("int" : Str) ≠ _; decide +kernel)
      | name _ => exact absurd hk (by show ("name" : Str) ≠ _; decide +kernel)
      | addr _ => exact absurd hk (by show ("addr" : Str) ≠ _; decide +kernel)
      | var _ => exact absurd hk (by show ("meta" : Str) ≠ _; decide +kernel)
      | bad => exact absurd hk (by decide +kernel)
      | fin => exact absurd hk (by decide +kernel)
    obtain ⟨c, rfl⟩ := this
    cases dw2
    refine ⟨_, rfl, _, rfl, p, C, dx1, _, _, rfl, hp1, X.cl, X.nS, rfl, dS, _, rfl, DGet.k (k := Sum.inr c) r1.sg, _, rfl, ?_⟩
    rw [valV_sig]
    unfold pNode at q1
    rw [e2] at q1
    dsimp only at q1
    cases hl : sig.lookup c with
    | none =>
      rw [hl] at q1
      exact iteT ⟨_, rfl, madeP (σ := []) XB.no fun d' H' sm' hd' => q1 d' H' (Keep.ofSame sm') hd'⟩
    | some m =>
      rw [hl] at q1
      dsimp only at q1
      refine iteF ⟨_, rfl, _, _, rfl, rfl, _, rfl, ?_⟩
      by_cases h60 : 60 ≤ d
      · rw [if_pos h60] at q1
        rw [decide_eq_true (show (60 : Int) ≤ (d : Int) by omega)]
        exact iteT ⟨_, rfl, madeP (σ := []) XD.no fun d' H' sm' hd' => q1 d' H' (Keep.ofSame sm') hd'⟩
      rw [if_neg h60] at q1
      rw [decide_eq_false (show ¬ (60 : Int) ≤ (d : Int) by omega)]
      refine iteF ⟨_, rfl, p, dx1, _, rfl, hp1, rfl, p, dS, L, _, sig, tk, i + 1, _, q2, rfl, r1, e2, fun _ v2 H2 k2 r2 _ => ?_, fun z => absurd rfl z⟩
      have h2 := ok.ended.lt e2 (by intro z; cases z)
      have hm : m ≤ 1000 := ok.low _ (mem_lookup hl)
      refine ⟨Nat.zero_le _, fun R hR => ?_⟩
      obtain ⟨dx2, hp2⟩ := id r2.at_
      have nR : p ≠ R := ne_of_none hp2 hR
      have hR1 : H1 R = none := keep_free k2 hp2 hR
      have k3 : Keep p H1 (upd H2 R (.lst [])) := k2.trans (Keep.ofSame (same_new hR))
      have r3 := r2.same (same_new (o := .lst []) hR)
      refine ⟨_, rfl, p, C, dx2, _, _, rfl, by rw [upd_ne nR]; exact hp2, X.cl, X.nS, rfl, _, rfl, dS, .int (m : Nat), rfl, ?_, ?_⟩
      · have := DGet.k (k := Sum.inr c) r3.sg
        rw [valV_sig, hl] at this
        exact this
      refine ⟨(m : Int), rfl, by omega, by omega, for_range (n := m) (fun a σ H' => ∃ (ws : List V) (ts : List Tm) (j : Nat) (b : Option V), σ = [some (.ref p), some (.int (d : Nat)), some (.int (qq : Nat)), some (.str (Tk.word c).kind), some (.str c), some (.int (q2 : Nat)), some (.ref R), b] ∧
        Keep p H1 H' ∧ H' R = some (.lst ws) ∧ DtAll K H' ws (Tm.ds ts) ∧ ts.length = a ∧ RdA K H' p C dS L sig tk j ∧ j < tk.length ∧
        pMany (pTerm sig tk n (d + 1)) m (i + 2) = match pMany (pTerm sig tk n (d + 1)) (m - a) j with
          | .error x => .error x
          | .ok (us, l) => .ok (ts ++ us, l)) ?_ ?_ ?_⟩
      · refine ⟨[], [], i + 2, none, rfl, k3, upd_same, by unfold Tm.ds; exact .nil, rfl, r3, h2, ?_⟩
        rw [Nat.sub_zero]
        cases pMany (pTerm sig tk n (d + 1)) m (i + 2) <;> rfl
      · rintro a σ H' ha ⟨ws, ts, j, b, rfl, kp, hw, da, lt, rj, hj, em⟩
        obtain ⟨dxj, hpj⟩ := id rj.at_
        obtain ⟨a', ea⟩ : ∃ a', m - a = a' + 1 := ⟨m - a - 1, by omega⟩
        rw [ea, many_succ] at em
        have lw := da.length
        have ld : (Tm.ds ts).length = ts.length := by rw [Tm.ds_map, List.length_map]
        refine ⟨_, rfl, .inl ⟨rfl, _, SqL.of hw⟩, ⟨_, rfl, p, dxj, _, rfl, hpj, rfl, _, rfl, _, _, rfl, rfl, p, dS, L, sig, tk, j, d + 1, rfl, rj, hj, ok, by omega, by omega, ?_⟩⟩
        cases ht : pTerm sig tk n (d + 1) j with
        | error x =>
          rw [ht] at em
          rw [em] at q1
          exact q1.keep kp
        | ok x =>
          obtain ⟨tm, l⟩ := x
          rw [ht] at em
          dsimp only at em
          intro v' H'' k' r' dv
          have hpj'' := hpj
          have hw'' := k' _ _ (ne_of hw hpj (fun z => by cases z)) hw
          obtain ⟨dxl, hpl⟩ := id r'.at_
          refine ⟨R, _, _, rfl, rfl, hw'', smallL (by omega), ws ++ [v'], ts ++ [tm], l, _, rfl, ?_, upd_same, ?_, by rw [List.length_append, lt]; rfl, ?_, (term_lt ok.ended _ _ _ _ _ hj ht).2, ?_⟩
          · intro b' o hb' ho
            rw [upd_ne (ne_of_none ho hR1)]
            exact (kp.trans k') b' o hb' ho
          · rw [Tm.ds_map, List.map_append, ← Tm.ds_map]
            exact DtAll.mono (fun _ _ z => seqT_upd z hw'') _ _ (DtAll.append (da.keep k' hpj) (.cons dv .nil))
          · obtain ⟨ws', hL, dL⟩ := r'.tl
            have nLR : L ≠ R := fun z => by
              subst z
              obtain ⟨ws0, hL0, _⟩ := r1.tl
              rw [hL0] at hR1; cases hR1
            exact ⟨⟨dxl, by rw [upd_ne nR]; exact hpl⟩, by rw [upd_ne (ne_of r'.sg hw'' (fun z => by cases z))]; exact r'.sg, ws', by rw [upd_ne nLR]; exact hL, DtAll.mono (fun _ _ z => seqT_upd z hw'') _ _ dL⟩
          · rw [em, show m - (a + 1) = a' by omega]
            cases pMany (pTerm sig tk n (d + 1)) a' l with
            | error x => rfl
            | ok x =>
              obtain ⟨us, l2⟩ := x
              dsimp only
              rw [List.append_assoc]; rfl
      · rintro σ H' ⟨ws, ts, j, b, rfl, kp, hw, da, lt, rj, hj, em⟩
        rw [Nat.sub_self, many_zero] at em
        dsimp only at em
        rw [List.append_nil] at em
        rw [em] at q1
        dsimp only at q1
        obtain ⟨⟨k4, q4⟩, e4⟩ : ∃ x, tk[j]? = some x := ⟨_, List.getElem?_eq_getElem hj⟩
        obtain ⟨dxj, hpj⟩ := id rj.at_
        unfold pClose at q1
        rw [e4] at q1
        dsimp only at q1
        refine ⟨_, rfl, p, dxj, _, rfl, hpj, rfl, p, dS, L, _, sig, tk, j, k4, q4, rfl, rj, e4, fun hk4 v4 H4 kk4 r4 _ => ?_, fun hk4 => ?_⟩
        · rw [if_pos hk4] at q1
          have hw4 := kk4 _ _ (ne_of hw hpj (fun z => by cases z)) hw
          refine ⟨_, rfl, _, rfl, R, _, rfl, .inl ⟨SqL.of hw4, fun t5 h5 => ⟨small (by show 3 ≤ _; decide), fun t6 h6 => ?_⟩⟩⟩
          have s5 := same_new (H := H4) (o := .tup ws) h5
          refine q1 _ _ (((kp.trans kk4).trans (Keep.ofSame s5)).trans (Keep.ofSame (same_new h6))) ((r4.same s5).same (same_new h6)) ?_
          unfold Tm.d
          exact Dt.mk3 h6 (.str _) (.str c) (.tup (SqT.of upd_same) ((da.keep kk4 hpj).same s5))
        · rw [if_neg hk4] at q1
          intro d' H'' k' hd'
          exact q1 d' H'' (kp.trans k') hd'
  · rw [decide_eq_false (show ¬ V.str k.kind = V.str "word" from fun z => hk (V.str.inj z))]
    unfold pNode at q1
    rw [e2] at q1
    have q3 : outR K C CB CD p dS L sig tk H1 Q E (.error (false, q2)) := by
      cases k with
      | word c => exact absurd rfl hk
      | _ => exact q1
    exact iteT (iteT ⟨_, rfl, madeP (σ := []) XB.no fun d' H' sm' hd' => q3 d' H' (Keep.ofSame sm') hd'⟩)
end
end PK
namespace PK
open PySem L2 TL PyProof.Rows
/-! the order of names -/
abbrev SLe (a b : Str) : Prop := a.cps.toList ≤ b.cps.toList
theorem sle_trans {a b c : Str} (h : SLe a b) (g : SLe b c) : SLe a c := List.le_trans h g
theorem sle_total (a b : Str) : SLe a b ∨ SLe b a := List.le_total _ _
theorem sle_anti {a b : Str} (h : SLe a b) (g : SLe b a) : a = b := Str.ext' (Array.toList_inj.mp (List.le_antisymm h g))
theorem rising_pw : ∀ (l : List Str) (p : Str), risingS p l = true → (p :: l).Pairwise SLe
  | [], p, _ => by simp
  | x :: r, p, h => by
    unfold risingS at h
    rw [PyProof.Rows.ltCps_eq] at h
    obtain ⟨h1, h2⟩ := Bool.and_eq_true_iff.mp h
    have ih := rising_pw r x h2
    have px : SLe p x := fun z => by rw [decide_eq_true z] at h1; cases h1
    refine List.Pairwise.cons (fun y hy => ?_) ih
    rcases List.mem_cons.mp hy with e | e
    · rw [e]; exact px
    · exact sle_trans px ((List.pairwise_cons.mp ih).1 y e)
theorem sorted_pw {l : List Str} (h : sortedS l = true) : l.Pairwise SLe := by
  cases l with
  | nil => exact .nil
  | cons p r => exact rising_pw r p h
theorem ents_pw (es : List (Str × Tm)) : (ents es).Pairwise fun a b => SLe a.1 b.1 := by
  have := List.pairwise_mergeSort (le := fun a b : Str × Tm => decide (a.1.cps.toList ≤ b.1.cps.toList)) (fun a b c h g => decide_eq_true (sle_trans (of_decide_eq_true h) (of_decide_eq_true g)))
    (fun a b => by rcases sle_total a.1 b.1 with h | h <;> simp [h]) es
  exact this.imp fun h => of_decide_eq_true h
theorem ents_perm (es : List (Str × Tm)) : (ents es).Perm es := List.mergeSort_perm _ _
theorem key_inj {es : List (Str × Tm)} (nd : (es.map (·.1)).Nodup) {a b : Str × Tm} (ha : a ∈ es) (hb : b ∈ es) (h : a.1 = b.1) : a = b := by
  induction es with
  | nil => cases ha
  | cons e r ih =>
    rw [List.map_cons, List.nodup_cons] at nd
    rcases List.mem_cons.mp ha with ea | ea <;> rcases List.mem_cons.mp hb with eb | eb
    · rw [ea, eb]
    · exact absurd (by rw [← ea, h]; exact List.mem_map_of_mem eb) nd.1
    · exact absurd (by rw [← eb, ← h]; exact List.mem_map_of_mem ea) nd.1
    · exact ih nd.2 ea eb
theorem nodup_of_map {es : List (Str × Tm)} (h : (es.map (·.1)).Nodup) : es.Nodup := by
  rw [List.Nodup, List.pairwise_map] at h
  exact h.imp fun ne e => ne (by rw [e])
/-- the entries by the sorted names -/
theorem ents_of {es zs : List (Str × Tm)} (nd : (es.map (·.1)).Nodup) (hp : (zs.map (·.1)).Perm (es.map (·.1))) (hs : (zs.map (·.1)).Pairwise SLe) (hz : ∀ z ∈ zs, z ∈ es) : zs = ents es := by
  have ndz : (zs.map (·.1)).Nodup := hp.symm.nodup nd
  have ndz' : zs.Nodup := nodup_of_map ndz
  have nde' : es.Nodup := nodup_of_map nd
  have lz : zs.length = es.length := by have := hp.length_eq; rwa [List.length_map, List.length_map] at this
  have perm : zs.Perm es := by
    refine (List.perm_ext_iff_of_nodup ndz' nde').mpr fun a => ⟨hz a, fun ha => ?_⟩
    have : a.1 ∈ zs.map (·.1) := hp.symm.subset (List.mem_map_of_mem ha)
    obtain ⟨b, hb, e⟩ := List.mem_map.mp this
    rw [key_inj nd ha (hz b hb) e.symm]
    exact hb
  refine List.Perm.eq_of_pairwise (le := fun a b : Str × Tm => SLe a.1 b.1) (fun a b ha hb h g => ?_) (List.pairwise_map.mp hs) (ents_pw es) (perm.trans (ents_perm es).symm)
  exact key_inj nd (hz a ha) ((ents_perm es).subset hb) (sle_anti h g)
theorem valV_none {kvs : List (Key × V)} {ws : List Str} (e : kvs.map (·.1) = ws.map Sum.inr) {w : Str} : valV kvs (Sum.inr w) = none ↔ w ∉ ws := by
  have a := valV_any (Sum.inr w : Key) kvs
  constructor
  · intro h hw
    rw [h] at a
    have : (kvs.any fun kv => decide (kv.1 = Sum.inr w)) = true := by
      have m : (Sum.inr w : Key) ∈ kvs.map (·.1) := by rw [e]; exact List.mem_map_of_mem hw
      obtain ⟨x, hx, ex⟩ := List.mem_map.mp m
      exact List.any_eq_true.mpr ⟨x, hx, decide_eq_true ex⟩
    rw [this] at a; cases a
  · intro h
    cases v : valV kvs (Sum.inr w) with
    | none => rfl
    | some x =>
      rw [v] at a
      obtain ⟨y, hy, ey⟩ := List.any_eq_true.mp a
      have m : (Sum.inr w : Key) ∈ ws.map Sum.inr := by rw [← e, ← of_decide_eq_true ey]; exact List.mem_map_of_mem hy
      obtain ⟨z, hz, ez⟩ := List.mem_map.mp m
      exact absurd (Sum.inr.inj ez ▸ hz) h
/-- the value under a name -/
theorem valV_at {kvs : List (Key × V)} {es : List (Str × Tm)} {K : PySem.W.Frag} {H : Hp} : ∀ (kvs : List (Key × V)) (es : List (Str × Tm)), kvs.map (·.1) = (es.map (·.1)).map Sum.inr → DtAll K H (kvs.map (·.2)) (es.map (·.2.d)) → ∀ w ∈ es.map (·.1), ∃ v t, valV kvs (Sum.inr w) = some v ∧ (w, t) ∈ es ∧ Dt K H v t.d
  | [], [], _, _, w, hw => by cases hw
  | [], _ :: _, e, _, w, hw => by simp at e
  | _ :: _, [], e, _, w, hw => by simp at e
  | (k, v) :: kr, (x, t) :: er, e, da, w, hw => by
    simp only [List.map_cons, List.cons.injEq] at e
    obtain ⟨e1, e2⟩ := e
    subst e1
    rw [List.map_cons, List.map_cons] at da
    cases da with
    | cons d1 d2 =>
      by_cases h : x = w
      · subst h
        exact ⟨v, t, valV_hd, .head _, d1⟩
      · rcases List.mem_cons.mp hw with z | z
        · exact absurd z.symm h
        · obtain ⟨v', t', h1, h2, h3⟩ := valV_at (kvs := kvs) (es := es) kr er e2 d2 w z
          exact ⟨v', t', by rw [valV_tl (fun z => h (Sum.inr.inj z))]; exact h1, .tail _ h2, h3⟩
end PK
namespace PK
open PySem L2 TL PyProof.Rows
theorem ents_zero (r : Nat → Except PErr (Tm × Nat)) (tk : List (Tk × Nat)) (i : Nat) (acc : List (Str × Tm)) : pEnts r tk 0 i acc = .ok (acc, i) := rfl
theorem ents_name {r : Nat → Except PErr (Tm × Nat)} {tk : List (Tk × Nat)} {n i q : Nat} {acc : List (Str × Tm)} {x : Str} (e : tk[i]? = some (.name x, q)) (h : x ∉ acc.map (·.1)) : pEnts r tk (n + 1) i acc = match r (i + 1) with
      | .error e => .error e
      | .ok (t, j) => pEnts r tk n j (acc ++ [(x, t)]) := by
  show (match tk[i]? with | some (.name w, _) => _ | _ => _) = _
  rw [e]
  dsimp only
  rw [if_neg h]
  all_goals rfl
theorem ents_stop {r : Nat → Except PErr (Tm × Nat)} {tk : List (Tk × Nat)} {n i q : Nat} {acc : List (Str × Tm)} {k : Tk} (e : tk[i]? = some (k, q)) (h : ∀ x, k = .name x → x ∈ acc.map (·.1)) : pEnts r tk n i acc = .ok (acc, i) := by
  cases n with
  | zero => rfl
  | succ n =>
    show (match tk[i]? with | some (.name w, _) => _ | _ => _) = _
    rw [e]
    cases k with
    | name x => exact if_pos (h x rfl)
    | _ => rfl
section
variable {P : Program} {w : World} {K : PySem.W.Frag} {mg : Str → Option Value} {base : Heap} {aS C CB CD : Addr}
abbrev s_Reader_mapping : Stmt := (C8.clsBody (topS 27)).getD 4 (.Pass ⟨0, 0, 0, 0⟩)
theorem sc_Reader_mapping : FnScope ["self", "depth", "entries", "word"] ["self", "depth"] (defScope s_Reader_mapping) := ⟨rfl, rfl, rfl, by decide +kernel, rfl, by decide +kernel, by decide +kernel⟩
-- slots: 0:self 1:depth 2:entries(cell) 3:word
theorem ok_rmap {n : Nat} {f : Addr} {fd : FuncData} (F : Fun K "mapping" "Reader.mapping" s_Reader_mapping f fd) (T : TxtP K mg aS) (X : RTx K C) (XB : CalY P w K mg base 1 "BadTerm" CB (spIP K)) (XD : CalY P w K mg base 1 "TooDeep" CD (spIP K))
    (M_take : CalM P w K mg base 3 C "take" (spRTake K C CB)) (M_term : CalM P w K mg base (2 * n + 4) C "term" (spTerm K C CB CD n)) :
    FnOk P w K mg base (L2.CX P w) (2 * n + 5) f fd ["self", "depth"] (spMap K C CB CD n) := by
  refine F.okX sc_Reader_mapping (fun vs H Q E h => ?_) (fun cdv A outer s H vs Q E hr h => ?_)
  · obtain ⟨_, _, _, _, _, _, _, _, rfl, _⟩ := h
    rfl
  obtain ⟨p, dS, L, sig, tk, i, d, qq, rfl, r, e, ok, hd, hf, q⟩ := h
  refine ⟨_, (pss_cons (ps_if (pt_cmpR op_ge (pv 1) (pe_glI (n := 60) rfl T.g_MO) (nomark _)) (pss_one (ps_raise rfl (takes_of rfl rfl rfl rfl) <| pmk_y XD hr (by omega) rfl (pa_cons (pe_ix ix_tup (pe_ix ix_list (pe_fld (pv 0) rfl) (pe_fld (pv 0) rfl) (fun _ _ => rfl)) pe_int (fun _ _ => rfl)) pa_nil))) pss_nil)
    (pss_cons (ps_expr (pe_mr M_take (takes_of rfl rfl rfl rfl) hr (by omega) (pv 0) (pa_cons pe_str pa_nil)))
    (pss_cons (ps_set (i := 2) sc_Reader_mapping.nd rfl (Or.inr rfl) pe_dnewK)
    (C8.pss_cut (ps_while (passes_of rfl) (PW.pt (pw_and (pt_cmpR op_eq (pe_ix ix_tup (pe_ix ix_list (pe_fld (pv 0) rfl) (pe_fld (pv 0) rfl) (fun _ _ => rfl)) pe_int (fun _ _ => rfl)) pe_str (nomark _)) (pw_and1 (pt_cmp (pc_dnotin (hu_of hr) (pe_ix ix_tup (pe_ix ix_list (pe_fld (pv 0) rfl) (pe_fld (pv 0) rfl) (fun _ _ => rfl)) pe_int (fun _ _ => rfl)) (pv 2)))))) (pss_cons (ps_set (i := 3) sc_Reader_mapping.nd rfl (Or.inl rfl) (pe_mr M_take (takes_of rfl rfl rfl rfl) hr (by omega) (pv 0) (pa_cons pe_str pa_nil)))
    (pss_one (ps_dput (hu_of hr) (pv 2) (pv 3) (pe_mr M_term (takes_of rfl rfl rfl rfl) hr (by omega) (pv 0) (pa_cons (pe_op op_add (pv 1) pe_int) pa_nil)) rfl))))
    (pss_cons (ps_expr (pe_mr M_take (takes_of rfl rfl rfl rfl) hr (by omega) (pv 0) (pa_cons pe_str pa_nil)))
    (pss_one (ps_ret (pe_tup (pa_cons pe_str (pa_cons (pe_callTy call_tuple_of (by rfl) T.z_tuple (by decide +kernel) (pa_cons (pe_lc (own := [("word", 3)]) (g := (gName 3)) (tt := tYes) (by rfl) sc_Reader_mapping.nd (pi_list (pe_callB (call_sortedD (by rfl)) (by rfl) T.z_sorted (by decide +kernel) (pa_cons (pv 2) pa_nil))) (blkOk_by (N := ["self", "depth", "entries", "word"]) (sc := defScope s_Reader_mapping) (by decide +kernel)) (fun _ _ _ _ _ => (pg_name (i := 3) sc_Reader_mapping.nd rfl (Or.inl rfl))) (fun _ _ _ _ _ => pts_nil) (fun _ _ _ _ _ => (pe_tup (pa_cons (pv 3) (pa_cons (pe_dget (hu_of hr) (pv 2) (pv 3) (fun _ _ => rfl)) pa_nil))))) pa_nil)) pa_nil)))))))))), ?_⟩
  obtain ⟨dx, hp⟩ := id r.at_
  unfold pMap at q
  refine ⟨_, rfl, _, _, rfl, rfl, _, rfl, ?_⟩
  by_cases h60 : 60 ≤ d
  · rw [if_pos h60] at q
    rw [decide_eq_true (show (60 : Int) ≤ (d : Int) by omega)]
    refine iteT (vHere X rfl r e fun t w st dw => ⟨t, _, _, _, rfl, rfl, st, rfl, ?_⟩)
    exact madeP (σ := []) XD.no fun d' H' sm' hd' => q d' H' (Keep.ofSame sm') hd'
  rw [if_neg h60] at q
  rw [decide_eq_false (show ¬ (60 : Int) ≤ (d : Int) by omega)]
  refine iteF ⟨_, rfl, p, dx, _, rfl, hp, rfl, p, dS, L, _, sig, tk, i, _, qq, rfl, r, e, fun _ v H1 k1 r1 _ => ?_, fun z => absurd rfl z⟩
  have q1 := outR.keep q k1
  clear q
  have h1 := ok.ended.lt e (by intro z; cases z)
  obtain ⟨N, hN, few⟩ := ok.few
  intro D hD
  obtain ⟨dx1, hp1⟩ := id r1.at_
  have nD : p ≠ D := ne_of_none hp1 hD
  have r2 := r1.same (same_new (o := .dK []) hD)
  refine ⟨fun σ H' => ∃ (kvs : List (Key × V)) (es : List (Str × Tm)) (j : Nat) (b : Option V), σ = [some (.ref p), some (.int (d : Nat)), some (.ref D), b] ∧ Keep p H1 H' ∧ H' D = some (.dK kvs) ∧
    kvs.map (·.1) = (es.map (·.1)).map Sum.inr ∧ DtAll K H' (kvs.map (·.2)) (es.map (·.2.d)) ∧ (es.map (·.1)).Nodup ∧ es.length < 64 ∧ RdA K H' p C dS L sig tk j ∧ j < tk.length ∧
    pEnts (pTerm sig tk n (d + 1)) tk tk.length (i + 1) [] = .ok (es, j), ?_, ?_⟩
  · refine ⟨fun m σ H' => ∃ (kvs : List (Key × V)) (es : List (Str × Tm)) (j g : Nat) (b : Option V), σ = [some (.ref p), some (.int (d : Nat)), some (.ref D), b] ∧ m = tk.length - j ∧ Keep p H1 H' ∧ H' D = some (.dK kvs) ∧
      kvs.map (·.1) = (es.map (·.1)).map Sum.inr ∧ DtAll K H' (kvs.map (·.2)) (es.map (·.2.d)) ∧ (es.map (·.1)).Nodup ∧ (∀ x ∈ es.map (·.1), x ∈ N) ∧ RdA K H' p C dS L sig tk j ∧ j < tk.length ∧ tk.length ≤ g + j ∧
      pEnts (pTerm sig tk n (d + 1)) tk tk.length (i + 1) [] = pEnts (pTerm sig tk n (d + 1)) tk g j es, ⟨_, [], [], i + 1, tk.length, none, rfl, rfl, Keep.ofSame (same_new hD), upd_same, rfl, .nil, .nil, (fun _ h => nomatch h), r2, h1, by omega, rfl⟩, ?_⟩
    rintro m σ H' ⟨kvs, es, j, g, b, rfl, rfl, kp, hw, ek, da, nd, hN2, rj, hj, hg, em⟩
    obtain ⟨dxj, hpj⟩ := id rj.at_
    obtain ⟨⟨k, q3⟩, e3⟩ : ∃ x, tk[j]? = some x := ⟨_, List.getElem?_eq_getElem hj⟩
    have les : es.length ≤ N.length := by
      have := inj_le (es.map (·.1)) N nd hN2
      rwa [List.length_map] at this
    have lk : kvs.length = es.length := by
      have := congrArg List.length ek
      simpa using this
    have out : (∀ x, k = .name x → x ∈ es.map (·.1)) → ∃ (kvs : List (Key × V)) (es : List (Str × Tm)) (j : Nat) (b' : Option V), [some (V.ref p), some (.int (d : Nat)), some (.ref D), b] = [some (.ref p), some (.int (d : Nat)), some (.ref D), b'] ∧ Keep p H1 H' ∧ H' D = some (.dK kvs) ∧
        kvs.map (·.1) = (es.map (·.1)).map Sum.inr ∧ DtAll K H' (kvs.map (·.2)) (es.map (·.2.d)) ∧ (es.map (·.1)).Nodup ∧ es.length < 64 ∧ RdA K H' p C dS L sig tk j ∧ j < tk.length ∧
        pEnts (pTerm sig tk n (d + 1)) tk tk.length (i + 1) [] = .ok (es, j) := fun h =>
      ⟨kvs, es, j, b, rfl, kp, hw, ek, da, nd, by omega, rj, hj, em.trans (ents_stop e3 h)⟩
    refine vHere X rfl rj e3 fun t w st dw => ⟨t, _, _, _, rfl, rfl, st, rfl, ?_⟩
    refine ⟨rfl, _, rfl, ?_⟩
    by_cases hk : ∃ x, k = .name x
    · obtain ⟨x, rfl⟩ := hk
      refine sT rfl ?_
      cases dw
      refine vHere X rfl rj e3 fun t2 w2 st2 dw2 => ⟨t2, _, _, _, rfl, rfl, st2, rfl, ?_⟩
      cases dw2
      refine ⟨_, rfl, D, _, rfl, DGet.k (k := Sum.inr x) hw, _, rfl, ?_⟩
      by_cases hx : x ∈ es.map (·.1)
      · have hv : valV kvs (Sum.inr x) ≠ none := fun z => (valV_none ek).mp z hx
        cases hvv : valV kvs (Sum.inr x) with
        | none => exact absurd hvv hv
        | some v0 => exact iteF (out fun y hy => by cases hy; exact hx)
      · rw [(valV_none ek).mpr hx]
        have h4 := ok.ended.lt e3 (by intro z; cases z)
        obtain ⟨g', rfl⟩ : ∃ g', g = g' + 1 := ⟨g - 1, by omega⟩
        rw [ents_name e3 hx] at em
        refine iteT ⟨fun σ H2 => ∃ m', m' < tk.length - j ∧ ∃ (kvs : List (Key × V)) (es : List (Str × Tm)) (j g : Nat) (b : Option V), σ = [some (.ref p), some (.int (d : Nat)), some (.ref D), b] ∧ m' = tk.length - j ∧ Keep p H1 H2 ∧ H2 D = some (.dK kvs) ∧
          kvs.map (·.1) = (es.map (·.1)).map Sum.inr ∧ DtAll K H2 (kvs.map (·.2)) (es.map (·.2.d)) ∧ (es.map (·.1)).Nodup ∧ (∀ x ∈ es.map (·.1), x ∈ N) ∧ RdA K H2 p C dS L sig tk j ∧ j < tk.length ∧ tk.length ≤ g + j ∧
          pEnts (pTerm sig tk n (d + 1)) tk tk.length (i + 1) [] = pEnts (pTerm sig tk n (d + 1)) tk g j es, fun σ' H2 h => h, ?_⟩
        refine ⟨_, rfl, p, dxj, _, rfl, hpj, rfl, p, dS, L, _, sig, tk, j, _, q3, rfl, rj, e3, fun _ v5 H5 k5 r5 d5 => ?_, fun z => absurd rfl z⟩
        cases d5
        obtain ⟨dx5, hp5⟩ := id r5.at_
        have hw5 := k5 _ _ (ne_of hw hpj (fun z => by cases z)) hw
        refine ⟨_, rfl, p, dx5, _, rfl, hp5, rfl, _, rfl, _, _, rfl, rfl, p, dS, L, sig, tk, j + 1, d + 1, rfl, r5, h4, ok, by omega, by omega, ?_⟩
        cases ht : pTerm sig tk n (d + 1) (j + 1) with
        | error z =>
          rw [ht] at em
          dsimp only at em
          rw [em] at q1
          exact q1.keep (kp.trans k5)
        | ok z =>
          obtain ⟨tm, l⟩ := z
          rw [ht] at em
          dsimp only at em
          intro v6 H6 k6 r6 d6
          have hw6 := k6 _ _ (ne_of hw5 hp5 (fun z => by cases z)) hw5
          have hlt := term_lt ok.ended _ _ _ _ _ h4 ht
          obtain ⟨dx6, hp6⟩ := id r6.at_
          refine ⟨_, rfl, _, rfl, D, _, rfl, DPut.k (k := Sum.inr x) hw6 (smallL (by omega)), ?_⟩
          refine ⟨_, by omega, kvs ++ [(Sum.inr x, v6)], es ++ [(x, tm)], l, g', _, rfl, rfl, ?_, ?_, ?_, ?_, ?_, ?_, ?_, hlt.2, by omega, em⟩
          · intro b' o hb' ho
            rw [upd_ne (ne_of_none ho hD)]
            exact ((kp.trans k5).trans k6) b' o hb' ho
          · rw [upd_same, putK_new _ ((valV_none ek).mpr hx)]
          · rw [List.map_append, ek, List.map_append, List.map_append]; rfl
          · rw [List.map_append, List.map_append]
            exact DtAll.mono (fun _ _ z => seqT_updK z hw6) _ _ (DtAll.append ((da.keep k5 hpj).keep k6 hp5) (.cons d6 .nil))
          · rw [List.map_append]
            exact List.nodup_append.mpr ⟨nd, by simp, fun a ha b hb e => hx (by
              have hb' : b = x := List.mem_singleton.mp hb
              rw [hb'] at e; rw [← e]; exact ha)⟩
          · intro y hy
            rw [List.map_append] at hy
            rcases List.mem_append.mp hy with h | h
            · exact hN2 y h
            · rw [List.mem_singleton.mp h]; exact few x q3 (List.mem_of_getElem? e3)
          · obtain ⟨ws', hL, dL⟩ := r6.tl
            have nS : dS ≠ D := fun z => by
              have h0 := r1.sg
              rw [z, hD] at h0; cases h0
            exact ⟨⟨dx6, by rw [upd_ne nD]; exact hp6⟩, by rw [upd_ne nS]; exact r6.sg, ws', by rw [upd_ne (ne_of hL hw6 (fun z => by cases z))]; exact hL, DtAll.mono (fun _ _ z => seqT_updK z hw6) _ _ dL⟩
    · have nk : k.kind ≠ "name" := by
        intro z
        cases k with
        | name x => exact hk ⟨x, rfl⟩
        | sg x =>
          have nk : ∀ y ∈ SIGNS, y ≠ "name" := by decide +kernel
          exact absurd z (nk x (ok.signs x q3 (List.mem_of_getElem? e3)))
        | int _ => exact absurd z (by show ("int" : Str) ≠ _; decide +kernel)
        | word _ => exact absurd z (by show ("word" : Str) ≠ _; decide +kernel)
        | addr _ => exact absurd z (by show ("addr" : Str) ≠ _; decide +kernel)
        | var _ => exact absurd z (by show ("meta" : Str) ≠ _; decide +kernel)
        | bad => exact absurd z (by decide +kernel)
        | fin => exact absurd z (by decide +kernel)
      refine sF nk ?_
      exact iteF (out fun y hy => absurd ⟨y, hy⟩ hk)
  · rintro σ H' ⟨kvs, es, j, b, rfl, kp, hw, ek, da, nd, l64, rj, hj, em⟩
    rw [em] at q1
    dsimp only at q1
    obtain ⟨⟨k4, q4⟩, e4⟩ : ∃ x, tk[j]? = some x := ⟨_, List.getElem?_eq_getElem hj⟩
    obtain ⟨dxj, hpj⟩ := id rj.at_
    unfold pClose at q1
    rw [e4] at q1
    dsimp only at q1
    refine ⟨_, rfl, p, dxj, _, rfl, hpj, rfl, p, dS, L, _, sig, tk, j, k4, q4, rfl, rj, e4, fun hk4 v4 H4 kk4 r4 _ => ?_, fun hk4 => ?_⟩
    · rw [if_pos hk4] at q1
      have hw4 := kk4 _ _ (ne_of hw hpj (fun z => by cases z)) hw
      have da4 := da.keep kk4 hpj
      refine ⟨_, rfl, D, kvs, es.map (·.1), rfl, .of hw4, ek, by rw [List.length_map]; exact l64, fun ys Y hperm hsort hY => ?_⟩
      have s5 := same_new (H := H4) (o := .lst (ys.map V.str)) hY
      have hpm : ∀ y ∈ ys, y ∈ es.map (·.1) := fun y hy => hperm.subset hy
      have ly : ys.length < 64 := by rw [hperm.length_eq, List.length_map]; exact l64
      refine ⟨Y, rfl, ⟨_, SqL.of upd_same⟩, fun D2 hD2 => lc_list (K := K) (a := Y) (xs := ys.map V.str) (fun a H'' => ∃ (ws : List V) (zs : List (Str × Tm)), a ≤ ys.length ∧ Same (upd H4 Y (.lst (ys.map V.str))) H'' ∧ H'' D2 = some (.lst ws) ∧
        DtAll K H'' ws (Tm.es zs) ∧ zs.map (·.1) = ys.take a ∧ ∀ z ∈ zs, z ∈ es) ?_ (fun a H'' _ h => ?_) ?_ ?_⟩
      · exact ⟨[], [], Nat.zero_le _, same_new hD2, upd_same, by unfold Tm.es; exact .nil, rfl, fun _ h => nomatch h⟩
      · obtain ⟨_, _, _, s6, _⟩ := h
        exact s6.seq (SqL.of upd_same)
      · rintro a x H'' hx ⟨ws, zs, ha, s6, hD3, dz, ez, hz⟩
        have ha2 : a < ys.length := by
          have := (List.getElem?_eq_some_iff.mp hx).1
          rwa [List.length_map] at this
        rw [List.getElem?_map, List.getElem?_eq_getElem ha2] at hx
        cases hx
        obtain ⟨v6, t6, hv6, hm6, d6⟩ := valV_at (kvs := kvs) (es := es) kvs es ek da4 ys[a] (hpm _ (List.getElem_mem ha2))
        have hDn : H'' D = some (.dK kvs) := s6 _ _ (s5 _ _ hw4)
        have lw : ws.length = zs.length := by have := dz.length; rwa [Tm.es_map, List.length_map] at this
        have lz : zs.length = a := by
          have := congrArg List.length ez
          rw [List.length_map, List.length_take] at this
          omega
        refine ⟨rfl, yes_ ⟨_, rfl, _, rfl, _, rfl, D, v6, rfl, ?_, small (by show 2 ≤ _; decide), fun t ht => ⟨ws, ?_, smallL (by omega), ws ++ [.ref t], zs ++ [(ys[a], t6)], ha2, ?_, upd_same, ?_, ?_, ?_⟩⟩⟩
        · have := DGet.k (k := Sum.inr ys[a]) hDn
          rw [hv6] at this
          exact this
        · rw [upd_ne (ne_of_none hD3 ht)]; exact hD3
        · exact Same.upd (Same.upd s6 (s6.free ht)) hD2
        · rw [Tm.es_map, List.map_append, ← Tm.es_map]
          exact dz.snoc (same_new ht) (by rw [upd_ne (ne_of_none hD3 ht)]; exact hD3) (Dt.mk2 ht (.str _) ((d6.same s5).same s6))
        · rw [List.map_append, ez, List.take_add_one, List.getElem?_eq_getElem ha2]; rfl
        · intro z hz'
          rcases List.mem_append.mp hz' with h | h
          · exact hz z h
          · rw [List.mem_singleton.mp h]; exact hm6
      · rintro H'' ⟨ws, zs, _, s6, hD3, dz, ez, hz⟩
        rw [List.length_map, List.take_length] at ez
        have ee : zs = ents es := ents_of nd (by rw [ez]; exact hperm) (by rw [ez]; exact sorted_pw hsort) hz
        refine ⟨D2, _, rfl, .inl ⟨SqL.of hD3, fun l hl => ⟨small (by show 2 ≤ _; decide), fun t ht => ?_⟩⟩⟩
        have s7 := same_new (H := H'') (o := .tup ws) hl
        have s8 := (s5.trans s6).trans (s7.trans (same_new (o := .tup [.str "map", .ref l]) ht))
        refine q1 _ _ ((kp.trans kk4).trans (Keep.ofSame s8)) (r4.same s8) ?_
        unfold Tm.d
        rw [← ee]
        exact Dt.mk2 ht (.str _) (.tup (SqT.of upd_same) (dz.same s7))
    · rw [if_neg hk4] at q1
      intro d' H'' k' hd'
      exact q1 d' H'' (kp.trans k') hd'
end
end PK
namespace PK
open PySem L2 TL PyProof.Rows
structure CalC (P : Program) (w : World) (K : PySem.W.Frag) (mg : Str → Option Value) (base : Heap) (k : Nat) (x : Str) (C : Addr) (sp : Sp) : Prop where
  gC : mg x = some (.ref C)
  ex : ∃ (f : Addr) (fd : FuncData) (ps : List Str), Mk K C f ∧ FnOk P w K mg base CX0 k f fd ps sp ∧ Binds K fd ps []
section
variable {X : Cx} {k j : Nat} {x : Str} {sp : Sp} {p pos : Pos} {e : Expr} {es : List Expr} {t : TA} {C : Addr}
theorem pe_mk (c : CalC X.prog X.w X.K X.mg X.base k x C sp) (hr : Room j X.A) (hk : k + 1 ≤ j) (hg : Gl X x) (ha : PA X (e :: es) t)
    (hdb : (x == ("__debug__" : Str)) = false := by decide) (he : starEach (e :: es) X.env = (false, eval e X.env) :: starEach es X.env := by rfl) (hpl : (backTo pos (starEach es X.env)).any (·.1) = false := by rfl) :
    PE X (.Call (.Name x p) (e :: es) [] pos) (tMake C sp [] C8.E0 t) := by
  obtain ⟨f, fd, ps, M, F, b⟩ := c.ex
  exact pe_make M F (hr.mono hk) hg c.gC b .nil pass0 ha hdb he hpl
end
theorem tokOf_sg {p : List Nat} {s : Str} (h : tokOf p = .sg s) : s ∈ SIGNS := by
  unfold tokOf at h
  split at h
  · rename_i h1
    cases h; exact h1
  · repeat' split at h
    all_goals cases h
theorem scan_sg : ∀ (f p : Nat) (cs : List Nat) (s : Str) (q : Nat), (Tk.sg s, q) ∈ scan f p cs → s ∈ SIGNS := by
  intro f
  induction f with
  | zero => intro p cs s q h; cases h
  | succ f ih =>
    intro p cs s q h
    cases cs with
    | nil => rw [scan_nil] at h; cases h
    | cons c r =>
      by_cases hc : c ∈ SEP.cps.toList
      · rw [scan_sep hc] at h; exact ih _ _ _ _ h
      · rw [scan_tok hc] at h
        rcases List.mem_cons.mp h with e | e
        · exact tokOf_sg (Prod.mk.inj e).1.symm
        · exact ih _ _ _ _ e
theorem scan_len : ∀ (f p : Nat) (cs : List Nat), (scan f p cs).length ≤ cs.length := by
  intro f
  induction f with
  | zero => intro p cs; exact Nat.zero_le _
  | succ f ih =>
    intro p cs
    cases cs with
    | nil => exact Nat.le_refl _
    | cons c r =>
      by_cases h : c ∈ SEP.cps.toList
      · rw [scan_sep h]
        exact Nat.le_succ_of_le (ih _ _)
      · rw [scan_tok h, List.length_cons, List.length_cons]
        have h0 : 0 < tokLen (c :: r) := tokLen_pos (by simp)
        have := ih (p + tokLen (c :: r)) ((c :: r).drop (tokLen (c :: r)))
        rw [List.length_drop, List.length_cons] at this
        omega
theorem toks_ok {sig : List (Str × Nat)} {cs : List Nat} (hl : cs.length ≤ 4000) (few : ∃ N : List Str, N.length < 64 ∧ ∀ w p, (Tk.name w, p) ∈ toks cs → w ∈ N) (low : ∀ e ∈ sig, e.2 ≤ 1000) : TkOk sig (toks cs) where
  len := by
    unfold toks
    have := scan_len cs.length 0 cs
    rw [List.length_append, List.length_singleton]; omega
  ended := toks_ended cs
  signs := fun s p h => by
    unfold toks at h
    rcases List.mem_append.mp h with e | e
    · exact scan_sg _ _ _ _ _ e
    · have := List.mem_singleton.mp e
      cases this
  few := few
  low := low
def spRInit (K : PySem.W.Frag) (C : Addr) : Sp := fun vs H Q _ => ∃ (p dx dS : Addr) (x : Str) (sig : List (Str × Nat)), vs = [.ref p, .ref dS, .str x] ∧ H p = some (.ins C dx []) ∧ H dS = some (.dK (sigK sig)) ∧ x.length ≤ 4000 ∧
  ∀ H' L, Keep p H H' → RdA K H' p C dS L sig (toks x.cps.toList) 0 → Q .non H'
/-- what comes of a text -/
def outT (K : PySem.W.Frag) (CB CD : Addr) (H : Hp) (Q : VK) (E : XK) : Except PErr Tm → Prop
  | .ok t => ∀ v H', Same H H' → Dt K H' v t.d → Q v H'
  | .error (b, q) => ∀ d H', Same H H' → H' d = some (.xd [("position", .int (q : Nat))]) → E (.ref (if b then CD else CB)) (some d) H'
def spRead (K : PySem.W.Frag) (CB CD : Addr) : Sp := fun vs H Q E => ∃ (dS : Addr) (x : Str) (sig : List (Str × Nat)), vs = [.ref dS, .str x] ∧ H dS = some (.dK (sigK sig)) ∧ x.length ≤ 4000 ∧ TkOk sig (toks x.cps.toList) ∧ outT K CB CD H Q E (pRead sig x.cps.toList)
section
variable {P : Program} {w : World} {K : PySem.W.Frag} {mg : Str → Option Value} {base : Heap} {aS C CB CD : Addr}
abbrev s_Reader___init__ : Stmt := (C8.clsBody (topS 27)).getD 0 (.Pass ⟨0, 0, 0, 0⟩)
theorem sc_Reader___init__ : FnScope ["self", "signature", "text"] ["self", "signature", "text"] (defScope s_Reader___init__) := ⟨rfl, rfl, rfl, by decide +kernel, rfl, by decide +kernel, by decide +kernel⟩
-- slots: 0:self 1:signature 2:text
abbrev s_read_term : Stmt := topS 21
theorem sc_read_term : FnScope ["signature", "text", "reader", "term"] ["signature", "text"] (defScope s_read_term) := ⟨rfl, rfl, rfl, by decide +kernel, rfl, by decide +kernel, by decide +kernel⟩
-- slots: 0:signature 1:text 2:reader 3:term
theorem ok_rinit {f : Addr} {fd : FuncData} (F : Fun K "__init__" "Reader.__init__" s_Reader___init__ f fd) (X : RTx K C) (C_tokens_of : C8.Cal P w K mg base 4 "_tokens_of" (spToks K) []) : FnOk P w K mg base CX0 5 f fd ["self", "signature", "text"] (spRInit K C) := by
  refine F.ok sc_Reader___init__ (fun vs H Q E h => ?_) (fun cdv A outer s H vs Q E hr h => ?_)
  · obtain ⟨_, _, _, _, _, rfl, _⟩ := h
    rfl
  obtain ⟨p, dx, dS, x, sig, rfl, hp, hS, hx, q⟩ := h
  refine ⟨_, (pss_cons (ps_fld (pv 0) (pv 1) rfl)
    (pss_cons (ps_fld (pv 0) (C8.pe_c C_tokens_of hr (by decide) rfl (pa_cons (pv 2) pa_nil)) rfl)
    (pss_one (ps_fld (pv 0) pe_int rfl)))), ?_⟩
  have nS : dS ≠ p := ne_of hS hp (fun z => by cases z)
  refine ⟨_, rfl, _, rfl, p, C, dx, _, rfl, hp, X.cl, X.nS, (by show 0 < 1000; decide), ?_⟩
  refine ⟨_, rfl, x, rfl, by omega, fun H1 L ws s1 hL hw da => ?_⟩
  refine ⟨_, rfl, p, C, dx, _, rfl, s1 _ _ upd_same, X.cl, X.nT, (by show 1 < 1000; decide), ?_⟩
  refine ⟨_, rfl, p, C, dx, _, rfl, upd_same, X.cl, X.nA, (by show 2 < 1000; decide), ?_⟩
  have nL : L ≠ p := fun z => by subst z; rw [upd_same] at hL; cases hL
  refine q _ L (fun b o hb ho => ?_) ⟨⟨dx, upd_same⟩, ?_, ws, ?_, ?_⟩
  · rw [upd_ne hb, upd_ne hb]
    exact s1 _ _ (by rw [upd_ne hb]; exact ho)
  · rw [upd_ne nS, upd_ne nS]
    exact s1 _ _ (by rw [upd_ne nS]; exact hS)
  · rw [upd_ne nL, upd_ne nL]; exact hw
  · refine da.keep (p := p) (C := C) (dx := dx) (fs := _) (fun b o hb ho => ?_) (s1 _ _ upd_same)
    rw [upd_ne hb, upd_ne hb]; exact ho
theorem ok_read {f : Addr} {fd : FuncData} (F : Fun K "read_term" "read_term" s_read_term f fd) (T : TxtP K mg aS) (MR : CalC P w K mg base 5 "Reader" C (spRInit K C))
    (M_term : CalM P w K mg base 126 C "term" (spTerm K C CB CD 61)) (M_take : CalM P w K mg base 3 C "take" (spRTake K C CB)) : FnOk P w K mg base (L2.CX P w) 128 f fd ["signature", "text"] (spRead K CB CD) := by
  refine F.okX sc_read_term (fun vs H Q E h => ?_) (fun cdv A outer s H vs Q E hr h => ?_)
  · obtain ⟨_, _, _, rfl, _⟩ := h
    rfl
  obtain ⟨dS, x, sig, rfl, hS, hx, ok, q⟩ := h
  refine ⟨_, (pss_cons (ps_if (pt_cmpR op_gt (pe_callB call_len_str (by rfl) T.z_len (by decide +kernel) (pa_cons (pv 1) pa_nil)) (pe_glI (n := 4000) rfl T.g_MT) (nomark _)) (pss_one ps_never) pss_nil)
    (pss_cons (ps_set (i := 2) sc_read_term.nd rfl (Or.inl rfl) (pe_mk MR hr (by decide) rfl (pa_cons (pv 0) (pa_cons (pv 1) pa_nil))))
    (pss_cons (ps_set (i := 3) sc_read_term.nd rfl (Or.inl rfl) (pe_mr M_term (takes_of rfl rfl rfl rfl) hr (by decide) (pv 2) (pa_cons pe_int pa_nil)))
    (pss_cons (ps_expr (pe_mr M_take (takes_of rfl rfl rfl rfl) hr (by decide) (pv 2) (pa_cons pe_str pa_nil)))
    (pss_one (ps_ret (pv 3))))))), ?_⟩
  refine ⟨_, rfl, x, rfl, small (by omega), _, _, rfl, rfl, _, rfl, ?_⟩
  rw [decide_eq_false (show ¬ (x.length : Int) > 4000 by omega)]
  refine iteF ⟨_, rfl, _, rfl, fun p dx hp hdx ne => ?_⟩
  have nS : dS ≠ p := ne_of_none hS hp
  have nS2 : dS ≠ dx := ne_of_none hS hdx
  refine ⟨p, dx, dS, x, sig, rfl, upd_same, by rw [upd_ne nS, upd_ne nS2]; exact hS, hx, fun H1 L k1 r1 => ⟨rfl, ?_⟩⟩
  have sm : ∀ {H2 : Hp}, Keep p H1 H2 → Same H H2 := fun k2 b o hb => by
    have h1 : b ≠ p := ne_of_none hb hp
    have h2 : b ≠ dx := ne_of_none hb hdx
    exact k2 b o h1 (k1 b o h1 (by rw [upd_ne h1, upd_ne h2]; exact hb))
  obtain ⟨dx1, hp1⟩ := id r1.at_
  have l0 : 0 < (toks x.cps.toList).length := by unfold toks; rw [List.length_append, List.length_singleton]; omega
  unfold pRead at q
  refine ⟨_, rfl, p, dx1, _, rfl, hp1, rfl, p, dS, L, sig, _, 0, 0, rfl, r1, l0, ok, by omega, by omega, ?_⟩
  cases ht : pTerm sig (toks x.cps.toList) 61 0 0 with
  | error z =>
    rw [ht] at q
    exact fun d H' k' hd => q d H' (sm k') hd
  | ok z =>
    obtain ⟨tm, j⟩ := z
    rw [ht] at q
    dsimp only at q
    have hj := (term_lt ok.ended _ _ _ _ _ l0 ht).2
    obtain ⟨⟨k, q3⟩, e3⟩ : ∃ x', (toks x.cps.toList)[j]? = some x' := ⟨_, List.getElem?_eq_getElem hj⟩
    rw [e3] at q
    dsimp only at q
    intro v H' k' r' dv
    obtain ⟨dxj, hpj⟩ := id r'.at_
    have kf : k.kind = "end" ↔ k = .fin := ⟨fun z => by
        cases k with
        | fin => rfl
        | sg y =>
          have nk : ∀ y ∈ SIGNS, y ≠ "end" := by decide +kernel
          exact absurd z (nk y (ok.signs y q3 (List.mem_of_getElem? e3)))
        | int _ => exact absurd z (by show ("int" : Str) ≠ _; decide +kernel)
        | word _ => exact absurd z (by show ("word" : Str) ≠ _; decide +kernel)
        | name _ => exact absurd z (by show ("name" : Str) ≠ _; decide +kernel)
        | addr _ => exact absurd z (by show ("addr" : Str) ≠ _; decide +kernel)
        | var _ => exact absurd z (by show ("meta" : Str) ≠ _; decide +kernel)
        | bad => exact absurd z (by decide +kernel), fun z => by rw [z]; rfl⟩
    refine ⟨_, rfl, p, dxj, _, rfl, hpj, rfl, p, dS, L, _, sig, _, j, k, q3, rfl, r', e3, fun hk v5 H5 k5 r5 _ => ?_, fun hk d H5 k5 hd => ?_⟩
    · rw [if_pos (kf.mp hk)] at q
      exact ⟨_, rfl, q _ _ (sm (k'.trans k5)) (dv.keep k5 hpj)⟩
    · rw [if_neg (fun z => hk (kf.mpr z))] at q
      exact q d H5 (sm (k'.trans k5)) hd
end
end PK
/-! list(d), dict(d) of a dict of the module's top with text keys -/
namespace PKR
open PySem PySem.Spec PyProof.Rows L2
def PairK : List DictEntry → List (Key × V) → Prop
  | [], [] => True
  | e :: es, kv :: kvs => (∃ x t, e.key = .str x t ∧ kv.1 = Sum.inr x) ∧ RelV kv.2 e.val ∧ PairK es kvs
  | _, _ => False
structure KDictP (K : PySem.W.Frag) (w : World) (d : Addr) (kvs : List (Key × V)) : Prop where
  ex : ∃ es n, KDict K w d es n ∧ PairK es.toList kvs
  nd : (kvs.map (·.1)).Nodup
  len : kvs.length ≤ 1000
theorem pairK_kv {P : Program} {w : World} : ∀ {es : List DictEntry} {kvs : List (Key × V)}, PairK es kvs → ∃ vs, KV kvs vs ∧ PySem.Pairs (mixKind P w) es vs ∧ vs.map (·.1) = kvs.map (·.1)
  | [], [], _ => ⟨[], .nil, .nil, rfl⟩
  | [], _ :: _, h => h.elim
  | _ :: _, [], h => h.elim
  | e :: es, (k, v) :: kvs, ⟨⟨x, t, e1, e2⟩, r, h⟩ => by
    obtain ⟨vs, h1, h2, h3⟩ := pairK_kv (P := P) (w := w) h
    have e2' : k = Sum.inr x := e2
    subst e2'
    exact ⟨(Sum.inr x, e.val) :: vs, .cons ⟨rfl, r⟩ h1, .cons (by rw [e1]; show Value.isStrOf x (.str x t) = true; exact strKind_is P w x t) rfl h2, by rw [List.map_cons, List.map_cons, h3]⟩
section
variable {X : Cx}
theorem kdp_dict {pins : List (Addr × Obj)} {s : Shared} {σ : L2.St} {H : Hp} {d : Addr} {kvs : List (Key × V)} (D : KDictP X.K X.w d kvs) (I : Inv X pins σ H s) : (d == sysModules) = false ∧ ∃ vs, KV kvs vs ∧ s.heap.DictOf (mixKind X.prog X.w) d vs := by
  obtain ⟨es, n, K, p⟩ := D.ex
  obtain ⟨vs, h1, h2, h3⟩ := pairK_kv (P := X.prog) (w := X.w) p
  refine ⟨K.low, vs, h1, ⟨.type "dict", none, .dict es n, #[]⟩, es, n, I.kIn _ _ K.at_, ⟨rfl, rfl, rfl⟩, rfl, fun e he => ?_, h2, by rw [h3]; exact D.nd⟩
  obtain ⟨x, t, e1, e2⟩ := K.lit.all e (Array.mem_toList_iff.mpr he)
  exact ⟨Sum.inr x, by rw [e1]; exact strKind_is X.prog X.w x t, e2⟩
theorem call_dictK : CallR X (.type "dict") (fun xs H Q => ∃ (a : Addr) (kvs : List (Key × V)), xs = [.ref a] ∧ KDictP X.K X.w a kvs ∧ ∀ p, H p = none → Q (.ref p) (upd H p (.dK kvs))) := by
  intro pins s σ H xs us Q I r q
  obtain ⟨a, kvs, ex, hd, q⟩ := q
  subst ex
  obtain ⟨u, eu, rx⟩ := vals1 r
  subst eu
  cases rx
  obtain ⟨lo, vs, rel, dd⟩ := kdp_dict hd I
  have z : kvs.length ≤ sizeLine := by have := hd.len; rw [sizeLine_eq]; omega
  refine kt_call_dict lo dd (by rw [← rel.length]; exact z) fun h' d' hs => ?_
  have hm : (s.heap.objs.size == sysModules) = false := beq_eq_false_iff_ne.mpr (Nat.ne_of_gt I.big)
  exact ⟨.ref s.heap.objs.size, upd H s.heap.objs.size (.dK kvs), I.laid (t' := s.toks) (fun b u e => (hs.2 b (Nat.ne_of_lt (Heap.lt_size e))).trans (Heap.get?_push_of_some _ e)) (Nat.le_refl _)
    (show ObjOk X.prog X.w _ _ _ (.dK kvs) from ⟨z, hm, vs, rel, d'⟩), rfl, q _ (I.hok.fresh (Nat.le_refl _))⟩
theorem call_listK (hcalm : X.calm = true) : CallR X (.type "list") (fun xs H Q => ∃ (a : Addr) (kvs : List (Key × V)), xs = [.ref a] ∧ KDictP X.K X.w a kvs ∧ ∀ p, H p = none → Q (.ref p) (upd H p (.lst (kvs.map fun kv => kV kv.1)))) := by
  intro pins s σ H xs us Q I r q
  obtain ⟨a, kvs, ex, hd, q⟩ := q
  subst ex
  obtain ⟨u, eu, rx⟩ := vals1 r
  subst eu
  cases rx
  obtain ⟨lo, vs, rel, dd⟩ := kdp_dict hd I
  have z : kvs.length ≤ sizeLine := by have := hd.len; rw [sizeLine_eq]; omega
  obtain ⟨ep, hat⟩ := dd.dictAt
  have ek : (kvs.map fun kv => kV kv.1) = vs.map fun p => kV p.1 := by
    have e := congrArg (List.map kV) rel.keys
    rw [List.map_map, List.map_map] at e
    exact e
  refine PySem.W.kdl_call (PySem.W.kdl_dict (knd := mixKind X.prog X.w) (kvs := vs) (ep := ep) lo) (I.ok.hd hcalm) hat (by rw [← rel.length]; exact z) fun h' tk acc c' hk hD hacc => ?_
  have hv : Vals (vs.map fun p => kV p.1) acc.toList := keys_at (by rw [Array.length_toList]; exact hacc.1) fun j v e => hacc.2 j v (by rw [← Array.getElem?_toList]; exact e)
  refine ⟨.ref s.heap.objs.size, upd H s.heap.objs.size (.lst (kvs.map fun kv => kV kv.1)), I.laid (t' := tk) hk (Nat.le_refl _)
    (show ObjOk X.prog X.w _ _ _ (.lst (kvs.map fun kv => kV kv.1)) from ⟨by rw [List.length_map]; exact z, acc.toList, c', by rw [ek]; exact hv, by rw [Array.toArray_toList]; exact hD⟩), rfl, q _ (I.hok.fresh (Nat.le_refl _))⟩
end
end PKR
namespace PK
open PySem L2 TL
/-! terms as conditions -/
abbrev EL : List Str := ["equal", "less"]
def Tm.hd : Tm → Str
  | .int _ => "int"
  | .name _ => "name"
  | .addr _ => "addr"
  | .var _ => "meta"
  | .node _ _ => "node"
  | .map _ => "map"
theorem Tm.tup {K : PySem.W.Frag} {H : Hp} {v : V} {t : Tm} (h : Dt K H v t.d) : ∃ a xs, v = .ref a ∧ SqT K H a xs ∧ atI xs 0 = some (.str t.hd) := by
  cases t with
  | node c ts =>
    unfold Tm.d at h
    obtain ⟨p, x, y, z, e, s, h1, h2, h3⟩ := Dt.t3 h
    exact ⟨p, _, e, s, by rw [h1.s]; rfl⟩
  | int n => unfold Tm.d at h; obtain ⟨p, x, y, e, s, h1, h2⟩ := Dt.t2 h; exact ⟨p, _, e, s, by rw [h1.s]; rfl⟩
  | name n => unfold Tm.d at h; obtain ⟨p, x, y, e, s, h1, h2⟩ := Dt.t2 h; exact ⟨p, _, e, s, by rw [h1.s]; rfl⟩
  | addr n => unfold Tm.d at h; obtain ⟨p, x, y, e, s, h1, h2⟩ := Dt.t2 h; exact ⟨p, _, e, s, by rw [h1.s]; rfl⟩
  | var n => unfold Tm.d at h; obtain ⟨p, x, y, e, s, h1, h2⟩ := Dt.t2 h; exact ⟨p, _, e, s, by rw [h1.s]; rfl⟩
  | map n => unfold Tm.d at h; obtain ⟨p, x, y, e, s, h1, h2⟩ := Dt.t2 h; exact ⟨p, _, e, s, by rw [h1.s]; rfl⟩
theorem Tm.node_of {t : Tm} (h : t.hd = "node") : ∃ c ts, t = .node c ts := by
  cases t with
  | node c ts => exact ⟨c, ts, rfl⟩
  | int n => exact absurd h (by show ("int" : Str) ≠ _; decide +kernel)
  | name n => exact absurd h (by show ("name" : Str) ≠ _; decide +kernel)
  | addr n => exact absurd h (by show ("addr" : Str) ≠ _; decide +kernel)
  | var n => exact absurd h (by show ("meta" : Str) ≠ _; decide +kernel)
  | map n => exact absurd h (by show ("map" : Str) ≠ _; decide +kernel)
theorem Tm.var_of {t : Tm} (h : t.hd = "meta") : ∃ w, t = .var w := by
  cases t with
  | var c => exact ⟨c, rfl⟩
  | int n => exact absurd h (by show ("int" : Str) ≠ _; decide +kernel)
  | name n => exact absurd h (by show ("name" : Str) ≠ _; decide +kernel)
  | addr n => exact absurd h (by show ("addr" : Str) ≠ _; decide +kernel)
  | node n _ => exact absurd h (by show ("node" : Str) ≠ _; decide +kernel)
  | map n => exact absurd h (by show ("map" : Str) ≠ _; decide +kernel)
theorem Tm.int_of {t : Tm} (h : t.hd = "int") : ∃ n, t = .int n := by
  cases t with
  | int c => exact ⟨c, rfl⟩
  | var n => exact absurd h (by show ("meta" : Str) ≠ _; decide +kernel)
  | name n => exact absurd h (by show ("name" : Str) ≠ _; decide +kernel)
  | addr n => exact absurd h (by show ("addr" : Str) ≠ _; decide +kernel)
  | node n _ => exact absurd h (by show ("node" : Str) ≠ _; decide +kernel)
  | map n => exact absurd h (by show ("map" : Str) ≠ _; decide +kernel)
/-- an operand -/
def wOp : Tm → PyData
  | .node c [.var w, .int n] => if c = "plus" then .tuple [.str "sum", .str w, .int n] else (Tm.node c [.var w, .int n]).d
  | t => t.d
theorem wOp_of {c : Str} (h : c = "plus") (w : Str) (n : Int) : wOp (.node c [.var w, .int n]) = .tuple [.str "sum", .str w, .int n] := if_pos h
theorem wOp_sum (w : Str) (n : Int) : wOp (.node "plus" [.var w, .int n]) = .tuple [.str "sum", .str w, .int n] := wOp_of rfl w n
theorem wOp_not {t : Tm} (h : ¬ ∃ w n, t = .node "plus" [.var w, .int n]) : wOp t = t.d := by
  unfold wOp
  split
  · rename_i c w n
    split
    · rename_i e; subst e; exact absurd ⟨w, n, rfl⟩ h
    · rfl
  · rfl
def OkO (t : Tm) : Prop := ∀ ps, t = .node "plus" ps → ∃ a b, ps = [a, b]
/-- a plain condition -/
def wPl : Tm → PyData
  | .node c (a :: r) => if c ∈ EL then .tuple [.str c, wOp a, (match r with | b :: _ => wOp b | [] => .none)] else match a with
    | .var x => .tuple (.str c :: .str x :: Tm.ds r)
    | _ => .none
  | _ => .none
def OkP (t : Tm) : Prop := ∀ c ps, t = .node c ps → ps ≠ [] ∧ (c ∈ EL → ∃ a b, ps = [a, b] ∧ OkO a ∧ OkO b) ∧ ps.length ≤ 100
def wCn : Tm → PyData
  | .node c [a] => if c = "not" then .tuple [.str "not", wPl a] else wPl (.node c [a])
  | t => wPl t
def OkC (t : Tm) : Prop := (∀ ps, t = .node "not" ps → ∃ a, ps = [a] ∧ OkP a) ∧ OkP t
theorem cut_one (x : V) (r : List V) : cutV (x :: r) (some 1) none = r := by
  unfold cutV
  rw [show HT.sIx (x :: r).length 0 (some 1) = min 1 (x :: r).length from HT.sIx_nat (x :: r).length 0 1, HT.sIx_none, List.length_cons]
  rw [show min 1 (r.length + 1) = 1 by omega]
  show List.take (r.length + 1 - 1) r = r
  rw [Nat.add_sub_cancel]
  exact List.take_length
def spWO (K : PySem.W.Frag) : Sp := fun vs H Q _ => ∃ (v : V) (t : Tm), vs = [v] ∧ Dt K H v t.d ∧ OkO t ∧ ∀ H' v', Same H H' → Dt K H' v' (wOp t) → Q v' H'
def spWP (K : PySem.W.Frag) : Sp := fun vs H Q _ => ∃ (v : V) (t : Tm), vs = [v] ∧ Dt K H v t.d ∧ OkP t ∧ ∀ H' v', Same H H' → Dt K H' v' (wPl t) → Q v' H'
def spWC (K : PySem.W.Frag) : Sp := fun vs H Q _ => ∃ (v : V) (t : Tm), vs = [v] ∧ Dt K H v t.d ∧ OkC t ∧ ∀ H' v', Same H H' → Dt K H' v' (wCn t) → Q v' H'
section
variable {P : Program} {w : World} {K : PySem.W.Frag} {mg : Str → Option Value} {base : Heap}
abbrev s_written_operand : Stmt := topS 37
theorem sc_written_operand : FnScope ["term", "one", "other"] ["term"] (defScope s_written_operand) := ⟨rfl, rfl, rfl, by decide +kernel, rfl, by decide +kernel, by decide +kernel⟩
-- slots: 0:term 1:one 2:other
abbrev s_written_plain : Stmt := topS 36
theorem sc_written_plain : FnScope ["term", "head", "parts"] ["term"] (defScope s_written_plain) := ⟨rfl, rfl, rfl, by decide +kernel, rfl, by decide +kernel, by decide +kernel⟩
-- slots: 0:term 1:head 2:parts
abbrev s_written : Stmt := topS 35
theorem sc_written : FnScope ["term"] ["term"] (defScope s_written) := ⟨rfl, rfl, rfl, by decide +kernel, rfl, by decide +kernel, by decide +kernel⟩
-- slots: 0:term
theorem ok_wo {f : Addr} {fd : FuncData} (F : Fun K "_written_operand" "_written_operand" s_written_operand f fd) : FnOk P w K mg base CX0 1 f fd ["term"] (spWO K) := by
  refine F.ok sc_written_operand (fun vs H Q E h => ?_) (fun cdv A outer s H vs Q E hr h => ?_)
  · obtain ⟨_, _, rfl, _⟩ := h
    rfl
  obtain ⟨v, t, rfl, dv, ok, q⟩ := h
  refine ⟨_, (pss_cons (ps_if (PW.pt (pw_or (pt_cmpR op_ne (pe_ix ix_tup (pv 0) pe_int (fun _ _ => rfl)) pe_str (nomark _)) (pw_or1 (pt_cmpR op_ne (pe_ix ix_tup (pv 0) pe_int (fun _ _ => rfl)) pe_str (nomark _))))) (pss_one (ps_ret (pv 0))) pss_nil)
    (pss_cons (ps_asg (pe_ix ix_tup (pv 0) pe_int (fun _ _ => rfl)) (pg_tup (by rfl) (pgs_cons (pg_name (i := 1) sc_written_operand.nd rfl (Or.inl rfl)) (pgs_cons (pg_name (i := 2) sc_written_operand.nd rfl (Or.inl rfl)) pgs_nil))))
    (pss_cons (ps_if (PW.pt (pw_or (pt_cmpR op_ne (pe_ix ix_tup (pv 1) pe_int (fun _ _ => rfl)) pe_str (nomark _)) (pw_or1 (pt_cmpR op_ne (pe_ix ix_tup (pv 2) pe_int (fun _ _ => rfl)) pe_str (nomark _))))) (pss_one (ps_ret (pv 0))) pss_nil)
    (pss_one (ps_ret (pe_tup (pa_cons pe_str (pa_cons (pe_ix ix_tup (pv 1) pe_int (fun _ _ => rfl)) (pa_cons (pe_ix ix_tup (pv 2) pe_int (fun _ _ => rfl)) pa_nil))))))))), ?_⟩
  obtain ⟨a, xs, rfl, hs, h0⟩ := Tm.tup dv
  have back : (¬ ∃ w n, t = .node "plus" [.var w, .int n]) → Q (.ref a) H := fun h => q H _ (Same.refl H) (by rw [wOp_not h]; exact dv)
  refine vTx rfl hs h0 ⟨rfl, _, rfl, ?_⟩
  by_cases hn : t.hd = "node"
  · obtain ⟨c, ps, rfl⟩ := Tm.node_of hn
    have dv0 := dv
    unfold Tm.d at dv
    obtain ⟨a', x1, x2, x3, e, hs, d1, d2, d3⟩ := Dt.t3 dv
    cases e
    obtain rfl := d1.s
    obtain rfl := d2.s
    refine nF rfl (vTx rfl hs rfl ⟨rfl, _, rfl, ?_⟩)
    by_cases hc : c = "plus"
    · subst hc
      obtain ⟨p1, p2, rfl⟩ := ok ps rfl
      unfold Tm.ds at d3
      unfold Tm.ds at d3
      unfold Tm.ds at d3
      obtain ⟨b, y1, y2, rfl, hs2, e1, e2⟩ := Dt.t2 d3
      refine nF rfl (vTx rfl hs rfl ⟨b, _, rfl, hs2, rfl, _, _, rfl, _, _, rfl, rfl, ?_⟩)
      obtain ⟨a1, xs1, rfl, hs3, h3⟩ := Tm.tup e1
      obtain ⟨a2, xs2, rfl, hs4, h4⟩ := Tm.tup e2
      refine vTx rfl hs3 h3 ⟨rfl, _, rfl, ?_⟩
      by_cases hm : p1.hd = "meta"
      · obtain ⟨x, rfl⟩ := Tm.var_of hm
        refine nF rfl (vTx rfl hs4 h4 ⟨rfl, _, rfl, ?_⟩)
        by_cases hi : p2.hd = "int"
        · obtain ⟨n, rfl⟩ := Tm.int_of hi
          unfold Tm.d at e1 e2
          obtain ⟨a1', z1, z2, ez, hs5, f1, f2⟩ := Dt.t2 e1
          cases ez
          obtain rfl := f2.s
          obtain ⟨a2', z3, z4, ez, hs6, f3, f4⟩ := Dt.t2 e2
          cases ez
          obtain rfl := f4.i
          refine nF rfl (vTx rfl hs5 rfl (vTx rfl hs6 rfl ⟨small (by show 3 ≤ _; decide), fun p hp => ?_⟩))
          refine q _ _ (same_new hp) ?_
          rw [wOp_sum]
          exact Dt.mk3 hp (.str _) (.str _) (.int _)
        · exact nT hi ⟨_, rfl, back fun ⟨w, n, z⟩ => by cases z; exact hi rfl⟩
      · exact nT hm ⟨_, rfl, back fun ⟨w, n, z⟩ => by cases z; exact hm rfl⟩
    · exact nT hc ⟨_, rfl, back fun ⟨w, n, z⟩ => by cases z; exact hc rfl⟩
  · exact nT hn ⟨_, rfl, back fun ⟨w, n, z⟩ => by cases z; exact hn rfl⟩
theorem wPl_el {c : Str} {a b : Tm} {r : List Tm} (h : c ∈ EL) : wPl (.node c (a :: b :: r)) = .tuple [.str c, wOp a, wOp b] := if_pos h
theorem wPl_var {c x : Str} {r : List Tm} (h : c ∉ EL) : wPl (.node c (.var x :: r)) = .tuple (.str c :: .str x :: Tm.ds r) := if_neg h
theorem wPl_no {c : Str} {a : Tm} {r : List Tm} (h : c ∉ EL) (ha : a.hd ≠ "meta") : wPl (.node c (a :: r)) = .none := by
  cases a with
  | var x => exact absurd rfl ha
  | _ => exact if_neg h
theorem wPl_leaf {t : Tm} (h : t.hd ≠ "node") : wPl t = .none := by
  cases t with
  | node c ts => exact absurd rfl h
  | _ => rfl
theorem ok_wp {f : Addr} {fd : FuncData} (F : Fun K "_written_plain" "_written_plain" s_written_plain f fd) (C_written_operand : C8.Cal P w K mg base 1 "_written_operand" (spWO K) []) : FnOk P w K mg base CX0 2 f fd ["term"] (spWP K) := by
  refine F.ok sc_written_plain (fun vs H Q E h => ?_) (fun cdv A outer s H vs Q E hr h => ?_)
  · obtain ⟨_, _, rfl, _⟩ := h
    rfl
  obtain ⟨v, t, rfl, dv, ok, q⟩ := h
  refine ⟨_, (pss_cons (ps_if (pt_cmpR op_ne (pe_ix ix_tup (pv 0) pe_int (fun _ _ => rfl)) pe_str (nomark _)) (pss_one (ps_ret pe_non)) pss_nil)
    (pss_cons (ps_par (i := 1) (j := 2) (by rfl) sc_written_plain.nd rfl rfl (by decide) rfl rfl (pa_cons (pe_ix ix_tup (pv 0) pe_int (fun _ _ => rfl)) (pa_cons (pe_ix ix_tup (pv 0) pe_int (fun _ _ => rfl)) pa_nil)) (by rfl))
    (pss_cons (ps_if (pt_cmpR op_in_seq (pv 1) (pe_tup (pa_cons pe_str (pa_cons pe_str pa_nil))) rfl) (pss_one (ps_ret (pe_tup (pa_cons (pv 1) (pa_cons (C8.pe_c C_written_operand hr (by decide) rfl (pa_cons (pe_ix ix_tup (pv 2) pe_int (fun _ _ => rfl)) pa_nil)) (pa_cons (C8.pe_c C_written_operand hr (by decide) rfl (pa_cons (pe_ix ix_tup (pv 2) pe_int (fun _ _ => rfl)) pa_nil)) pa_nil)))))) pss_nil)
    (pss_cons (ps_if (pt_cmpR op_ne (pe_ix ix_tup (pe_ix ix_tup (pv 2) pe_int (fun _ _ => rfl)) pe_int (fun _ _ => rfl)) pe_str (nomark _)) (pss_one (ps_ret pe_non)) pss_nil)
    (pss_one (ps_ret (pe_op op_catT (pe_tup (pa_cons (pv 1) (pa_cons (pe_ix ix_tup (pe_ix ix_tup (pv 2) pe_int (fun _ _ => rfl)) pe_int (fun _ _ => rfl)) pa_nil))) (pe_slice sl_tup (pv 2) (po_some pe_int) po_none)))))))), ?_⟩
  obtain ⟨a, xs, rfl, hs, h0⟩ := Tm.tup dv
  refine vTx rfl hs h0 ⟨rfl, _, rfl, ?_⟩
  by_cases hn : t.hd = "node"
  · obtain ⟨c, ps, rfl⟩ := Tm.node_of hn
    obtain ⟨hne, hel, hlen⟩ := ok c ps rfl
    unfold Tm.d at dv
    obtain ⟨a', x1, x2, x3, e, hs, d1, d2, d3⟩ := Dt.t3 dv
    cases e
    obtain rfl := d1.s
    obtain rfl := d2.s
    obtain ⟨b, ys, rfl, hs2, da⟩ := Dt.tn d3
    refine nF rfl (vTx rfl hs rfl (vTx rfl hs rfl ⟨_, _, rfl, ?_⟩))
    refine ⟨_, rfl, small (by show 2 ≤ _; decide), fun t4 h4 => ⟨t4, _, rfl, .inr (SqT.of upd_same), rfl, flat_strs EL, _, rfl, ?_⟩⟩
    rw [show inV (V.str c) [V.str "equal", .str "less"] = decide (c ∈ EL) from inV_str c EL]
    have sm := same_new (H := H) (o := .tup [V.str "equal", .str "less"]) h4
    have hs' := Same.seqT sm hs
    have hs2' := Same.seqT sm hs2
    have da' := da.same sm
    generalize upd H t4 (.tup [V.str "equal", .str "less"]) = H1 at *
    by_cases hc : c ∈ EL
    · rw [decide_eq_true hc]
      obtain ⟨p1, p2, rfl, ok1, ok2⟩ := hel hc
      unfold Tm.ds at da'
      unfold Tm.ds at da'
      unfold Tm.ds at da'
      cases da' with
      | cons e1 r1 =>
      cases r1 with
      | cons e2 r2 =>
      cases r2
      refine iteT ⟨_, rfl, vTx rfl hs2' rfl ⟨_, p1, rfl, e1, ok1, fun H2 v1 s1 g1 => ?_⟩⟩
      refine vTx rfl (Same.seqT s1 hs2') rfl ⟨_, p2, rfl, e2.same s1, ok2, fun H3 v2 s2 g2 => ⟨small (by show 3 ≤ _; decide), fun p hp => ?_⟩⟩
      refine q _ _ (Same.upd ((sm.trans s1).trans s2) (((sm.trans s1).trans s2).free hp)) ?_
      rw [wPl_el hc]
      exact Dt.mk3 hp (.str _) (g1.same s2) g2
    · rw [decide_eq_false hc]
      cases ps with
      | nil => exact absurd rfl hne
      | cons p1 r =>
      unfold Tm.ds at da'
      cases da' with
      | cons e1 r1 =>
      rename_i vs1
      obtain ⟨a1, xs1, rfl, hs3, h3⟩ := Tm.tup e1
      refine iteF (vTx rfl hs2' (atI_nat (j := 0) rfl) ?_)
      refine ⟨a1, _, _, _, rfl, rfl, hs3, h3, rfl, _, rfl, ?_⟩
      by_cases hm : p1.hd = "meta"
      · obtain ⟨x, rfl⟩ := Tm.var_of hm
        unfold Tm.d at e1
        obtain ⟨a1', z1, z2, ez, hs5, f1, f2⟩ := Dt.t2 e1
        cases ez
        obtain rfl := f2.s
        refine nF rfl ⟨_, rfl, vTx rfl hs2' (atI_nat (j := 0) rfl) ⟨a1, _, _, _, rfl, rfl, hs5, rfl, small (by show 2 ≤ _; decide), fun t6 h6 => ?_⟩⟩
        have s6 := same_new (H := H1) (o := .tup [V.str c, .str x]) h6
        have lr : vs1.length = r.length := by rw [r1.length, Tm.ds_map, List.length_map]
        rw [List.length_cons] at hlen
        refine ⟨_, rfl, 1, rfl, b, _, rfl, Same.seqT s6 hs2', ?_, fun t7 h7 => ?_⟩
        · rintro ⟨h0, _⟩
          rw [show HT.sIx (V.ref a1 :: vs1).length 0 (some 1) = min 1 (V.ref a1 :: vs1).length from HT.sIx_nat (V.ref a1 :: vs1).length 0 1, List.length_cons] at h0
          omega
        rw [cut_one]
        have s7 := same_new (H := upd H1 t6 (.tup [V.str c, .str x])) (o := .tup vs1) h7
        have st6 : SqT K (upd (upd H1 t6 (.tup [V.str c, .str x])) t7 (.tup vs1)) t6 [V.str c, .str x] := Same.seqT s7 (SqT.of upd_same)
        refine ⟨t6, t7, _, _, rfl, rfl, st6, SqT.of upd_same, by simp, small (by show 2 + vs1.length ≤ _; omega), fun e => ?_, fun _ t8 h8 => ?_⟩
        · refine q _ _ ((sm.trans s6).trans s7) ?_
          rw [wPl_var hc]
          have : r = [] := by
            cases r with
            | nil => rfl
            | cons _ _ => rw [e] at lr; cases lr
          subst this
          unfold Tm.ds
          exact .tup st6 (.cons (.str _) (.cons (.str _) .nil))
        · refine q _ _ (((sm.trans s6).trans s7).trans (same_new h8)) ?_
          rw [wPl_var hc]
          exact .tup (SqT.of upd_same) (.cons (.str _) (.cons (.str _) (((r1.same s6).same s7).same (same_new h8))))
      · refine nT hm ?_
        exact q _ _ sm (by rw [wPl_no hc hm]; exact .non)
  · refine nT hn ?_
    exact q _ _ (Same.refl H) (by rw [wPl_leaf hn]; exact .non)
theorem wCn_not {t : Tm} (h : ∀ a, t ≠ .node "not" [a]) : wCn t = wPl t := by
  unfold wCn
  split
  · rename_i c a
    split
    · rename_i e; subst e; exact absurd rfl (h a)
    · rfl
  · rfl
theorem wCn_no {c : Str} (h : c = "not") (a : Tm) : wCn (.node c [a]) = .tuple [.str "not", wPl a] := if_pos h
theorem ok_wc {f : Addr} {fd : FuncData} (F : Fun K "_written" "_written" s_written f fd) (C_written_plain : C8.Cal P w K mg base 2 "_written_plain" (spWP K) []) : FnOk P w K mg base CX0 3 f fd ["term"] (spWC K) := by
  refine F.ok sc_written (fun vs H Q E h => ?_) (fun cdv A outer s H vs Q E hr h => ?_)
  · obtain ⟨_, _, rfl, _⟩ := h
    rfl
  obtain ⟨v, t, rfl, dv, ⟨okn, okp⟩, q⟩ := h
  refine ⟨_, (pss_cons (ps_if (PW.pt (pw_and (pt_cmpR op_eq (pe_ix ix_tup (pv 0) pe_int (fun _ _ => rfl)) pe_str (nomark _)) (pw_and1 (pt_cmpR op_eq (pe_ix ix_tup (pv 0) pe_int (fun _ _ => rfl)) pe_str (nomark _))))) (pss_one (ps_ret (pe_tup (pa_cons pe_str (pa_cons (C8.pe_c C_written_plain hr (by decide) rfl (pa_cons (pe_ix ix_tup (pe_ix ix_tup (pv 0) pe_int (fun _ _ => rfl)) pe_int (fun _ _ => rfl)) pa_nil)) pa_nil))))) pss_nil)
    (pss_one (ps_ret (C8.pe_c C_written_plain hr (by decide) rfl (pa_cons (pv 0) pa_nil))))), ?_⟩
  obtain ⟨a, xs, rfl, hs, h0⟩ := Tm.tup dv
  have on : (∀ a, t ≠ .node "not" [a]) → ∃ u t', Dt K H u t'.d ∧ u = .ref a ∧ OkP t' ∧ ∀ H' v', Same H H' → Dt K H' v' (wPl t') → Q v' H' := fun h => ⟨_, t, dv, rfl, okp, fun H' v' s' d' => q H' v' s' (by rw [wCn_not h]; exact d')⟩
  refine vTx rfl hs h0 ⟨rfl, _, rfl, ?_⟩
  by_cases hn : t.hd = "node"
  · obtain ⟨c, ps, rfl⟩ := Tm.node_of hn
    have dv0 := dv
    unfold Tm.d at dv
    obtain ⟨a', x1, x2, x3, e, hs, d1, d2, d3⟩ := Dt.t3 dv
    cases e
    obtain rfl := d1.s
    obtain rfl := d2.s
    refine sT rfl (vTx rfl hs rfl ⟨rfl, _, rfl, ?_⟩)
    by_cases hc : c = "not"
    · subst hc
      obtain ⟨p1, rfl, okp1⟩ := okn ps rfl
      unfold Tm.ds at d3
      unfold Tm.ds at d3
      obtain ⟨b, y1, rfl, hs2, e1⟩ := Dt.t1 d3
      refine sT rfl (vTx rfl hs rfl ⟨b, _, _, _, rfl, rfl, hs2, rfl, _, p1, rfl, e1, okp1, fun H2 v1 s1 g1 => ⟨small (by show 2 ≤ _; decide), fun p hp => ?_⟩⟩)
      refine q _ _ (Same.upd s1 (s1.free hp)) ?_
      rw [wCn_no rfl]
      exact Dt.mk2 hp (.str _) g1
    · obtain ⟨u, t', g1, g2, g3, g4⟩ := on fun a z => by cases z; exact hc rfl
      exact sF hc ⟨_, rfl, _, t', rfl, g2 ▸ g1, g3, g4⟩
  · obtain ⟨u, t', g1, g2, g3, g4⟩ := on fun a z => by cases z; exact hn rfl
    exact sF hn ⟨_, rfl, _, t', rfl, g2 ▸ g1, g3, g4⟩
end
end PK
namespace PK
open PySem L2 TL
/-! conditions of the program -/
abbrev HEADS : List Str := ["integer", "name", "address", "map"]
abbrev HKV : List (Key × V) := [(Sum.inr "integer", .str "int"), (Sum.inr "name", .str "name"), (Sum.inr "address", .str "addr"), (Sum.inr "map", .str "map")]
abbrev CSIG : List (Str × Nat) := [("integer", 1), ("name", 1), ("address", 1), ("map", 1), ("equal", 2), ("less", 2), ("has", 2), ("not", 1), ("plus", 2)]
structure TxtC (K : PySem.W.Frag) (w : World) (mg : Str → Option Value) (aS dH dG : Addr) : Prop extends TxtP K mg aS where
  z_dict : mg "dict" = none
  g_HEADS : mg "_HEADS" = some (.ref dH)
  g_SIG : mg "_SIGNATURE" = some (.ref dG)
  kH : PKR.KDictP K w dH HKV
  kG : PKR.KDictP K w dG (sigK CSIG)
def isI : PyData → Bool
  | .int _ => true
  | _ => false
def geZ : PyData → Bool
  | .int n => decide (0 ≤ n)
  | _ => false
def isW : PyData → Bool
  | .str w => isWd w
  | _ => false
abbrev NM : List Str := ["name", "meta"]
def leafB (k : Str) (x : PyData) : Bool := if k = "int" then isI x else if k = "addr" then isI x && geZ x else decide (k ∈ NM) && isW x
def LOk (k : Str) (x : PyData) : Prop := (k = "int" ∨ k = "addr" → ∃ n, x = .int n) ∧ (k ∈ NM → ∃ w, x = .str w ∧ w.length ≤ 10000)
def spLeaf (K : PySem.W.Frag) : Sp := fun vs H Q _ => ∃ (v : V) (k : Str) (x : PyData), vs = [v] ∧ Dt K H v (.tuple [.str k, x]) ∧ LOk k x ∧ ∀ H', Same H H' → Q (.bl (leafB k x)) H'
/-- operands -/
inductive OD where
  | two (k : Str) (x : PyData)
  | three (h : Str) (x y : PyData)
def OD.d : OD → PyData
  | .two k x => .tuple [.str k, x]
  | .three h x y => .tuple [.str h, x, y]
def nzB : PyData → Bool
  | .int n => !decide (n = 0)
  | _ => true
def OD.b : OD → Bool
  | .two k x => leafB k x
  | .three h x y => decide (h = "sum") && (isW x && (isI y && nzB y))
theorem OD.b3 (h : Str) (x y : PyData) : (OD.three h x y).b = (decide (h = "sum") && (isW x && (isI y && nzB y))) := rfl
def OD.Ok : OD → Prop
  | .two k x => LOk k x
  | .three h x y => h = "sum" → ∃ w n, x = .str w ∧ y = .int n ∧ w.length ≤ 10000
def spOper (K : PySem.W.Frag) : Sp := fun vs H Q _ => ∃ (v : V) (o : OD), vs = [v] ∧ Dt K H v o.d ∧ o.Ok ∧ ∀ H', Same H H' → Q (.bl o.b) H'
section
variable {P : Program} {w : World} {K : PySem.W.Frag} {mg : Str → Option Value} {base : Heap} {aS dH dG : Addr}
abbrev s_is_leaf : Stmt := topS 7
theorem sc_is_leaf : FnScope ["part", "kind", "worth"] ["part"] (defScope s_is_leaf) := ⟨rfl, rfl, rfl, by decide +kernel, rfl, by decide +kernel, by decide +kernel⟩
-- slots: 0:part 1:kind 2:worth
abbrev s_is_operand : Stmt := topS 33
theorem sc_is_operand : FnScope ["operand", "head", "word", "number"] ["operand"] (defScope s_is_operand) := ⟨rfl, rfl, rfl, by decide +kernel, rfl, by decide +kernel, by decide +kernel⟩
-- slots: 0:operand 1:head 2:word 3:number
theorem ok_leaf_p {f : Addr} {fd : FuncData} (F : Fun K "is_leaf" "is_leaf" s_is_leaf f fd) (T : TxtC K w mg aS dH dG) (C_is_whole : C8.Cal P w K mg base 1 "is_whole" spWhole []) (C_is_word : C8.Cal P w K mg base 1 "is_word" spWord []) : FnOk P w K mg base CX0 2 f fd ["part"] (spLeaf K) := by
  refine F.ok sc_is_leaf (fun vs H Q E h => ?_) (fun cdv A outer s H vs Q E hr h => ?_)
  · obtain ⟨_, _, _, rfl, _⟩ := h
    rfl
  obtain ⟨v, k, x, rfl, dv, ⟨ok1, ok2⟩, q⟩ := h
  refine ⟨_, (pss_cons (ps_if (PW.pt (pw_or (pt_not (pt_val (pe_callB call_isi (by rfl) T.z_isinstance (by decide +kernel) (pa_cons (pv 0) (pa_cons (pe_bltn (v := .ty "tuple") (by rfl) T.z_tuple (by decide +kernel) rfl) pa_nil))))) (pw_or1 (pt_cmpR op_ne (pe_callB call_len_seq (by rfl) T.z_len (by decide +kernel) (pa_cons (pv 0) pa_nil)) pe_int (nomark _))))) (pss_one (ps_ret pe_bl)) pss_nil)
    (pss_cons (ps_asg (pv 0) (pg_tup (by rfl) (pgs_cons (pg_name (i := 1) sc_is_leaf.nd rfl (Or.inl rfl)) (pgs_cons (pg_name (i := 2) sc_is_leaf.nd rfl (Or.inl rfl)) pgs_nil))))
    (pss_cons (ps_if (pt_cmpR op_eq (pv 1) pe_str (nomark _)) (pss_one (ps_ret (C8.pe_c C_is_whole hr (by decide) rfl (pa_cons (pv 2) pa_nil)))) pss_nil)
    (pss_cons (ps_if (pt_cmpR op_eq (pv 1) pe_str (nomark _)) (pss_one (ps_ret (pe_and (C8.pe_c C_is_whole hr (by decide) rfl (pa_cons (pv 2) pa_nil)) (pe_one (pe_cmpR op_ge (pv 2) pe_int (nomark _)))))) pss_nil)
    (pss_one (ps_ret (pe_and (pe_cmpR op_in_seq (pv 1) (pe_tup (pa_cons pe_str (pa_cons pe_str pa_nil))) rfl) (pe_one (C8.pe_c C_is_word hr (by decide) rfl (pa_cons (pv 2) pa_nil)))))))))), ?_⟩
  obtain ⟨a, x1, x2, rfl, hs, d1, d2⟩ := Dt.t2 dv
  obtain rfl := d1.s
  have ty := ty_tup hs
  refine vIsi rfl ty (b := true) (by decide +kernel) ⟨_, rfl, iteF ⟨_, rfl, a, _, rfl, .inr hs, rfl, _, rfl, iteF ?_⟩⟩
  refine ⟨_, rfl, a, _, rfl, hs, rfl, _, _, rfl, _, _, rfl, rfl, ?_⟩
  refine ⟨_, rfl, rfl, _, rfl, ?_⟩
  unfold leafB at q
  by_cases h1 : k = "int"
  · rw [if_pos h1] at q
    obtain ⟨n, rfl⟩ := ok1 (.inl h1)
    obtain rfl := d2.i
    exact sT h1 ⟨_, rfl, _, rfl, q H (Same.refl H)⟩
  rw [if_neg h1] at q
  refine sF h1 ⟨_, rfl, rfl, _, rfl, ?_⟩
  by_cases h2 : k = "addr"
  · rw [if_pos h2] at q
    obtain ⟨n, rfl⟩ := ok1 (.inr h2)
    obtain rfl := d2.i
    refine sT h2 ⟨_, rfl, _, rfl, _, rfl, iteT ⟨_, rfl, _, _, rfl, rfl, ?_⟩⟩
    exact q H (Same.refl H)
  rw [if_neg h2] at q
  refine sF h2 ⟨_, rfl, small (by show 2 ≤ _; decide), fun t4 h4 => ⟨t4, _, rfl, .inr (SqT.of upd_same), rfl, flat_strs NM, _, rfl, ?_⟩⟩
  rw [show inV (V.str k) [V.str "name", .str "meta"] = decide (k ∈ NM) from inV_str k NM]
  have sm := same_new (H := H) (o := .tup [V.str "name", .str "meta"]) h4
  by_cases h3 : k ∈ NM
  · rw [decide_eq_true h3, Bool.true_and] at q
    obtain ⟨z, rfl, hz⟩ := ok2 h3
    obtain rfl := d2.s
    rw [decide_eq_true h3]
    refine iteT ⟨_, rfl, z, rfl, hz, fun H2 s2 => ?_⟩
    exact q H2 (sm.trans s2)
  · rw [decide_eq_false h3, Bool.false_and] at q
    rw [decide_eq_false h3]
    exact iteF (q _ sm)
theorem ok_oper {f : Addr} {fd : FuncData} (F : Fun K "_is_operand" "_is_operand" s_is_operand f fd) (T : TxtC K w mg aS dH dG) (C_is_whole : C8.Cal P w K mg base 1 "is_whole" spWhole []) (C_is_word : C8.Cal P w K mg base 1 "is_word" spWord []) (C_is_leaf : C8.Cal P w K mg base 2 "is_leaf" (spLeaf K) []) : FnOk P w K mg base CX0 3 f fd ["operand"] (spOper K) := by
  refine F.ok sc_is_operand (fun vs H Q E h => ?_) (fun cdv A outer s H vs Q E hr h => ?_)
  · obtain ⟨_, _, rfl, _⟩ := h
    rfl
  obtain ⟨v, o, rfl, dv, ok, q⟩ := h
  refine ⟨_, (pss_cons (ps_if (PW.pt (pw_and (pt_val (pe_callB call_isi (by rfl) T.z_isinstance (by decide +kernel) (pa_cons (pv 0) (pa_cons (pe_bltn (v := .ty "tuple") (by rfl) T.z_tuple (by decide +kernel) rfl) pa_nil)))) (pw_and1 (pt_cmpR op_eq (pe_callB call_len_seq (by rfl) T.z_len (by decide +kernel) (pa_cons (pv 0) pa_nil)) pe_int (nomark _))))) (pss_cons (ps_asg (pv 0) (pg_tup (by rfl) (pgs_cons (pg_name (i := 1) sc_is_operand.nd rfl (Or.inl rfl)) (pgs_cons (pg_name (i := 2) sc_is_operand.nd rfl (Or.inl rfl)) (pgs_cons (pg_name (i := 3) sc_is_operand.nd rfl (Or.inl rfl)) pgs_nil)))))
    (pss_one (ps_ret (pe_and (pe_cmpR op_eq (pv 1) pe_str (nomark _)) (pe_and (C8.pe_c C_is_word hr (by decide) rfl (pa_cons (pv 2) pa_nil)) (pe_and (C8.pe_c C_is_whole hr (by decide) rfl (pa_cons (pv 3) pa_nil)) (pe_one (pe_cmpR op_ne (pv 3) pe_int (nomark _))))))))) pss_nil)
    (pss_one (ps_ret (C8.pe_c C_is_leaf hr (by decide) rfl (pa_cons (pv 0) pa_nil))))), ?_⟩
  cases o with
  | two k x =>
    have dv' : Dt K H v (.tuple [.str k, x]) := dv
    obtain ⟨a, x1, x2, rfl, hs, d1, d2⟩ := Dt.t2 dv'
    have ty := ty_tup hs
    refine vIsi rfl ty (b := true) (by decide +kernel) ⟨_, rfl, iteT ⟨_, rfl, a, _, rfl, .inr hs, rfl, _, rfl, iteF ?_⟩⟩
    exact ⟨_, rfl, _, k, x, rfl, dv', ok, q⟩
  | three h x y =>
    have dv' : Dt K H v (.tuple [.str h, x, y]) := dv
    obtain ⟨a, x1, x2, x3, rfl, hs, d1, d2, d3⟩ := Dt.t3 dv'
    obtain rfl := d1.s
    have ty := ty_tup hs
    refine vIsi rfl ty (b := true) (by decide +kernel) ⟨_, rfl, iteT ⟨_, rfl, a, _, rfl, .inr hs, rfl, _, rfl, iteT ?_⟩⟩
    refine ⟨_, rfl, a, _, rfl, hs, rfl, _, _, rfl, _, _, rfl, _, _, rfl, rfl, ?_⟩
    refine ⟨_, rfl, rfl, _, rfl, ?_⟩
    by_cases hh : h = "sum"
    · obtain ⟨z, n, rfl, rfl, hz⟩ := ok hh
      obtain rfl := d2.s
      obtain rfl := d3.i
      have q1 : ∀ H', Same H H' → Q (.bl (isWd z && (true && !decide (n = 0)))) H' := fun H' s' => by
        have := q H' s'
        rw [OD.b3] at this
        rw [decide_eq_true hh, Bool.true_and] at this
        exact this
      refine sT hh ⟨_, rfl, z, rfl, hz, fun H2 s2 => ⟨_, rfl, ?_⟩⟩
      cases hw : isWd z with
      | false => rw [hw] at q1; exact iteF (q1 H2 s2)
      | true =>
        rw [hw] at q1
        refine iteT ⟨_, rfl, n, rfl, _, rfl, iteT ⟨_, rfl, rfl, ?_⟩⟩
        have e : decide (V.int n = V.int 0) = decide (n = 0) := by
          by_cases z0 : n = 0
          · rw [decide_eq_true z0, decide_eq_true (by rw [z0])]
          · rw [decide_eq_false z0, decide_eq_false (fun z => z0 (V.int.inj z))]
        rw [e]
        exact q1 H2 s2
    · have q1 := q H (Same.refl H)
      rw [OD.b3] at q1
      rw [decide_eq_false hh, Bool.false_and] at q1
      exact sF hh q1
end
/-- plain conditions, as data -/
inductive PD where
  | non
  | two (h w : Str)
  | el (h : Str) (a b : OD)
  | hs (w k : Str) (x : PyData)
  | bad (h : Str) (x y : PyData)
def PD.d : PD → PyData
  | .non => .none
  | .two h w => .tuple [.str h, .str w]
  | .el h a b => .tuple [.str h, a.d, b.d]
  | .hs w k x => .tuple [.str "has", .str w, .tuple [.str k, x]]
  | .bad h x y => .tuple [.str h, x, y]
def PD.b : PD → Bool
  | .non => false
  | .two h w => decide (h ∈ HEADS) && isWd w
  | .el _ a b => a.b && b.b
  | .hs w k x => isWd w && (leafB k x && decide (k ∈ NM))
  | .bad _ _ _ => false
def PD.Ok : PD → Prop
  | .non => True
  | .two _ w => w.length ≤ 10000
  | .el h a b => h ∈ EL ∧ a.Ok ∧ b.Ok
  | .hs w k x => w.length ≤ 10000 ∧ LOk k x
  | .bad h _ _ => h ∉ EL ∧ h ≠ "has"
inductive CD where
  | pl (p : PD)
  | no (p : PD)
def CD.d : CD → PyData
  | .pl p => p.d
  | .no p => .tuple [.str "not", p.d]
def CD.b : CD → Bool
  | .pl p => p.b
  | .no p => p.b
def CD.Ok : CD → Prop
  | .pl p => p.Ok ∧ ∀ w, p ≠ .two "not" w
  | .no p => p.Ok
def spPlain (K : PySem.W.Frag) : Sp := fun vs H Q _ => ∃ (v : V) (p : PD), vs = [v] ∧ Dt K H v p.d ∧ p.Ok ∧ ∀ H', Same H H' → Q (.bl p.b) H'
def spIsC (K : PySem.W.Frag) : Sp := fun vs H Q _ => ∃ (v : V) (p : CD), vs = [v] ∧ Dt K H v p.d ∧ p.Ok ∧ ∀ H', Same H H' → Q (.bl p.b) H'
section
variable {P : Program} {w : World} {K : PySem.W.Frag} {mg : Str → Option Value} {base : Heap} {aS dH dG CB CD_ : Addr}
abbrev s_is_plain : Stmt := topS 32
theorem sc_is_plain : FnScope ["condition", "head", "one", "other"] ["condition"] (defScope s_is_plain) := ⟨rfl, rfl, rfl, by decide +kernel, rfl, by decide +kernel, by decide +kernel⟩
-- slots: 0:condition 1:head 2:one 3:other
abbrev s_is_condition : Stmt := topS 31
theorem sc_is_condition : FnScope ["condition"] ["condition"] (defScope s_is_condition) := ⟨rfl, rfl, rfl, by decide +kernel, rfl, by decide +kernel, by decide +kernel⟩
-- slots: 0:condition
abbrev s_read_condition : Stmt := topS 34
theorem sc_read_condition : FnScope ["text", "condition"] ["text"] (defScope s_read_condition) := ⟨rfl, rfl, rfl, by decide +kernel, rfl, by decide +kernel, by decide +kernel⟩
-- slots: 0:text 1:condition
theorem ok_plain {f : Addr} {fd : FuncData} (F : Fun K "_is_plain" "_is_plain" s_is_plain f fd) (T : TxtC K w mg aS dH dG) (C_is_word : C8.Cal P w K mg base 1 "is_word" spWord []) (C_is_leaf : C8.Cal P w K mg base 2 "is_leaf" (spLeaf K) [])
    (C_is_operand : C8.Cal P w K mg base 3 "_is_operand" (spOper K) []) : FnOk P w K mg base CX0 4 f fd ["condition"] (spPlain K) := by
  refine F.ok sc_is_plain (fun vs H Q E h => ?_) (fun cdv A outer s H vs Q E hr h => ?_)
  · obtain ⟨_, _, rfl, _⟩ := h
    rfl
  obtain ⟨v, p, rfl, dv, ok, q⟩ := h
  refine ⟨_, (pss_cons (ps_if (pt_not (pt_val (pe_callB call_isi (by rfl) T.z_isinstance (by decide +kernel) (pa_cons (pv 0) (pa_cons (pe_bltn (v := .ty "tuple") (by rfl) T.z_tuple (by decide +kernel) rfl) pa_nil))))) (pss_one (ps_ret pe_bl)) pss_nil)
    (pss_cons (ps_if (pt_cmpR op_eq (pe_callB call_len_seq (by rfl) T.z_len (by decide +kernel) (pa_cons (pv 0) pa_nil)) pe_int (nomark _)) (pss_one (ps_ret (pe_and (pe_cmpR op_in_seq (pe_ix ix_tup (pv 0) pe_int (fun _ _ => rfl)) (pe_callTy (PKR.call_listK (by rfl)) (by rfl) T.z_list (by decide +kernel) (pa_cons (pe_glob (v := .ref dH) rfl T.g_HEADS rfl) pa_nil)) rfl) (pe_one (C8.pe_c C_is_word hr (by decide) rfl (pa_cons (pe_ix ix_tup (pv 0) pe_int (fun _ _ => rfl)) pa_nil)))))) pss_nil)
    (pss_cons (ps_if (pt_cmpR op_ne (pe_callB call_len_seq (by rfl) T.z_len (by decide +kernel) (pa_cons (pv 0) pa_nil)) pe_int (nomark _)) (pss_one (ps_ret pe_bl)) pss_nil)
    (pss_cons (ps_asg (pv 0) (pg_tup (by rfl) (pgs_cons (pg_name (i := 1) sc_is_plain.nd rfl (Or.inl rfl)) (pgs_cons (pg_name (i := 2) sc_is_plain.nd rfl (Or.inl rfl)) (pgs_cons (pg_name (i := 3) sc_is_plain.nd rfl (Or.inl rfl)) pgs_nil)))))
    (pss_cons (ps_if (pt_cmpR op_in_seq (pv 1) (pe_tup (pa_cons pe_str (pa_cons pe_str pa_nil))) rfl) (pss_one (ps_ret (pe_and (C8.pe_c C_is_operand hr (by decide) rfl (pa_cons (pv 2) pa_nil)) (pe_one (C8.pe_c C_is_operand hr (by decide) rfl (pa_cons (pv 3) pa_nil)))))) pss_nil)
    (pss_one (ps_ret (pe_and (pe_cmpR op_eq (pv 1) pe_str (nomark _)) (pe_and (C8.pe_c C_is_word hr (by decide) rfl (pa_cons (pv 2) pa_nil)) (pe_and (C8.pe_c C_is_leaf hr (by decide) rfl (pa_cons (pv 3) pa_nil)) (pe_one (pe_cmpR op_in_seq (pe_ix ix_tup (pv 3) pe_int (fun _ _ => rfl)) (pe_tup (pa_cons pe_str (pa_cons pe_str pa_nil))) rfl)))))))))))), ?_⟩
  have three : ∀ {h : Str} {x y : PyData}, Dt K H v (.tuple [.str h, x, y]) → ∃ a x2 x3, v = .ref a ∧ SqT K H a [.str h, x2, x3] ∧ Dt K H x2 x ∧ Dt K H x3 y := fun dv => by
    obtain ⟨a, x1, x2, x3, rfl, hs, d1, d2, d3⟩ := Dt.t3 dv
    obtain rfl := d1.s
    exact ⟨a, x2, x3, rfl, hs, d2, d3⟩
  cases p with
  | non =>
    cases dv
    exact vIsi rfl (.base .non) (b := false) (by decide +kernel) ⟨_, rfl, iteT (q H (Same.refl H))⟩
  | two h z =>
    have dv' : Dt K H v (.tuple [.str h, .str z]) := dv
    obtain ⟨a, x1, x2, rfl, hs, d1, d2⟩ := Dt.t2 dv'
    obtain rfl := d1.s
    obtain rfl := d2.s
    refine vIsi rfl (ty_tup hs) (b := true) (by decide +kernel) ⟨_, rfl, iteF ⟨_, rfl, a, _, rfl, .inr hs, rfl, _, rfl, iteT ?_⟩⟩
    refine vTx rfl hs rfl ⟨dH, HKV, rfl, T.kH, fun t4 h4 => ⟨t4, _, rfl, .inl (SqL.of upd_same), rfl, flat_strs HEADS, _, rfl, ?_⟩⟩
    have sm := same_new (H := H) (o := .lst (HKV.map fun kv => kV kv.1)) h4
    rw [show inV (V.str h) (HKV.map fun kv => kV kv.1) = decide (h ∈ HEADS) from inV_str h HEADS]
    have q1 : ∀ H', Same H H' → Q (.bl (decide (h ∈ HEADS) && isWd z)) H' := q
    by_cases hh : h ∈ HEADS
    · rw [decide_eq_true hh, Bool.true_and] at q1
      rw [decide_eq_true hh]
      exact iteT (vTx rfl (Same.seqT sm hs) rfl ⟨z, rfl, ok, fun H2 s2 => q1 H2 (sm.trans s2)⟩)
    · rw [decide_eq_false hh, Bool.false_and] at q1
      rw [decide_eq_false hh]
      exact iteF (q1 _ sm)
  | el h x y =>
    obtain ⟨a, x2, x3, rfl, hs, d2, d3⟩ := three dv
    obtain ⟨hh, ok1, ok2⟩ := ok
    refine vIsi rfl (ty_tup hs) (b := true) (by decide +kernel) ⟨_, rfl, iteF ⟨_, rfl, a, _, rfl, .inr hs, rfl, _, rfl, iteF ⟨_, rfl, a, _, rfl, .inr hs, rfl, _, rfl, iteF ?_⟩⟩⟩
    refine ⟨_, rfl, a, _, rfl, hs, rfl, _, _, rfl, _, _, rfl, _, _, rfl, rfl, ?_⟩
    refine ⟨_, rfl, small (by show 2 ≤ _; decide), fun t4 h4 => ⟨t4, _, rfl, .inr (SqT.of upd_same), rfl, flat_strs EL, _, rfl, ?_⟩⟩
    have sm := same_new (H := H) (o := .tup [V.str "equal", .str "less"]) h4
    rw [show inV (V.str h) [V.str "equal", .str "less"] = decide (h ∈ EL) from inV_str h EL, decide_eq_true hh]
    have q1 : ∀ H', Same H H' → Q (.bl (x.b && y.b)) H' := q
    refine iteT ⟨_, rfl, _, x, rfl, d2.same sm, ok1, fun H2 s2 => ⟨_, rfl, ?_⟩⟩
    cases hb : x.b with
    | false => rw [hb] at q1; exact iteF (q1 H2 (sm.trans s2))
    | true =>
      rw [hb] at q1
      exact iteT ⟨_, rfl, _, y, rfl, (d3.same sm).same s2, ok2, fun H3 s3 => q1 H3 ((sm.trans s2).trans s3)⟩
  | hs z k x =>
    obtain ⟨a, x2, x3, rfl, hs, d2, d3⟩ := three dv
    obtain ⟨hz, lok⟩ := ok
    obtain rfl := d2.s
    refine vIsi rfl (ty_tup hs) (b := true) (by decide +kernel) ⟨_, rfl, iteF ⟨_, rfl, a, _, rfl, .inr hs, rfl, _, rfl, iteF ⟨_, rfl, a, _, rfl, .inr hs, rfl, _, rfl, iteF ?_⟩⟩⟩
    refine ⟨_, rfl, a, _, rfl, hs, rfl, _, _, rfl, _, _, rfl, _, _, rfl, rfl, ?_⟩
    refine ⟨_, rfl, small (by show 2 ≤ _; decide), fun t4 h4 => ⟨t4, _, rfl, .inr (SqT.of upd_same), rfl, flat_strs EL, _, rfl, ?_⟩⟩
    have sm := same_new (H := H) (o := .tup [V.str "equal", .str "less"]) h4
    rw [show inV (V.str "has") [V.str "equal", .str "less"] = false by decide +kernel]
    have q1 : ∀ H', Same H H' → Q (.bl (isWd z && (leafB k x && decide (k ∈ NM)))) H' := q
    refine iteF ⟨_, rfl, rfl, _, rfl, sT rfl ⟨_, rfl, z, rfl, hz, fun H2 s2 => ⟨_, rfl, ?_⟩⟩⟩
    cases hb : isWd z with
    | false => rw [hb] at q1; exact iteF (q1 H2 (sm.trans s2))
    | true =>
      rw [hb] at q1
      refine iteT ⟨_, rfl, _, k, x, rfl, (d3.same sm).same s2, lok, fun H3 s3 => ⟨_, rfl, ?_⟩⟩
      cases hl : leafB k x with
      | false => rw [hl] at q1; exact iteF (q1 H3 ((sm.trans s2).trans s3))
      | true =>
        rw [hl] at q1
        have d3' := ((d3.same sm).same s2).same s3
        obtain ⟨b, y1, y2, rfl, hs2, e1, e2⟩ := Dt.t2 d3'
        obtain rfl := e1.s
        refine iteT (vTx rfl hs2 rfl ⟨small (by show 2 ≤ _; decide), fun t5 h5 => ⟨t5, _, rfl, .inr (SqT.of upd_same), rfl, flat_strs NM, ?_⟩⟩)
        rw [show inV (V.str k) [V.str "name", .str "meta"] = decide (k ∈ NM) from inV_str k NM]
        exact q1 _ (((sm.trans s2).trans s3).trans (same_new h5))
  | bad h x y =>
    obtain ⟨a, x2, x3, rfl, hs, d2, d3⟩ := three dv
    obtain ⟨hh, h2⟩ := ok
    refine vIsi rfl (ty_tup hs) (b := true) (by decide +kernel) ⟨_, rfl, iteF ⟨_, rfl, a, _, rfl, .inr hs, rfl, _, rfl, iteF ⟨_, rfl, a, _, rfl, .inr hs, rfl, _, rfl, iteF ?_⟩⟩⟩
    refine ⟨_, rfl, a, _, rfl, hs, rfl, _, _, rfl, _, _, rfl, _, _, rfl, rfl, ?_⟩
    refine ⟨_, rfl, small (by show 2 ≤ _; decide), fun t4 h4 => ⟨t4, _, rfl, .inr (SqT.of upd_same), rfl, flat_strs EL, _, rfl, ?_⟩⟩
    have sm := same_new (H := H) (o := .tup [V.str "equal", .str "less"]) h4
    rw [show inV (V.str h) [V.str "equal", .str "less"] = decide (h ∈ EL) from inV_str h EL, decide_eq_false hh]
    exact iteF ⟨_, rfl, rfl, _, rfl, sF h2 (q _ sm)⟩
theorem ok_isc {f : Addr} {fd : FuncData} (F : Fun K "is_condition" "is_condition" s_is_condition f fd) (T : TxtC K w mg aS dH dG) (C_is_plain : C8.Cal P w K mg base 4 "_is_plain" (spPlain K) []) : FnOk P w K mg base CX0 5 f fd ["condition"] (spIsC K) := by
  refine F.ok sc_is_condition (fun vs H Q E h => ?_) (fun cdv A outer s H vs Q E hr h => ?_)
  · obtain ⟨_, _, rfl, _⟩ := h
    rfl
  obtain ⟨v, c, rfl, dv, ok, q⟩ := h
  refine ⟨_, (pss_cons (ps_if (PW.pt (pw_and (pt_val (pe_callB call_isi (by rfl) T.z_isinstance (by decide +kernel) (pa_cons (pv 0) (pa_cons (pe_bltn (v := .ty "tuple") (by rfl) T.z_tuple (by decide +kernel) rfl) pa_nil)))) (pw_and (pt_cmpR op_eq (pe_callB call_len_seq (by rfl) T.z_len (by decide +kernel) (pa_cons (pv 0) pa_nil)) pe_int (nomark _)) (pw_and1 (pt_cmpR op_eq (pe_ix ix_tup (pv 0) pe_int (fun _ _ => rfl)) pe_str (nomark _)))))) (pss_one (ps_ret (C8.pe_c C_is_plain hr (by decide) rfl (pa_cons (pe_ix ix_tup (pv 0) pe_int (fun _ _ => rfl)) pa_nil)))) pss_nil)
    (pss_one (ps_ret (C8.pe_c C_is_plain hr (by decide) rfl (pa_cons (pv 0) pa_nil))))), ?_⟩
  cases c with
  | no p =>
    have dv' : Dt K H v (.tuple [.str "not", p.d]) := dv
    obtain ⟨a, x1, x2, rfl, hs, d1, d2⟩ := Dt.t2 dv'
    obtain rfl := d1.s
    refine vIsi rfl (ty_tup hs) (b := true) (by decide +kernel) ⟨_, rfl, iteT ⟨_, rfl, a, _, rfl, .inr hs, rfl, _, rfl, iteT (vTx rfl hs rfl ⟨rfl, _, rfl, sT rfl ?_⟩)⟩⟩
    exact vTx rfl hs rfl ⟨_, p, rfl, d2, ok, q⟩
  | pl p =>
    obtain ⟨ok, nn⟩ := ok
    have dv0 : Dt K H v p.d := dv
    have fin : ∃ (v' : V) (p' : PD), [v] = [v'] ∧ Dt K H v' p'.d ∧ p'.Ok ∧ ∀ H', Same H H' → Q (.bl p'.b) H' := ⟨v, p, rfl, dv0, ok, q⟩
    have three : ∀ {h : Str} {x y : PyData}, Dt K H v (.tuple [.str h, x, y]) → ∃ a x2 x3, v = .ref a ∧ SqT K H a [.str h, x2, x3] := fun dv => by
      obtain ⟨a, x1, x2, x3, rfl, hs, d1, d2, d3⟩ := Dt.t3 dv
      obtain rfl := d1.s
      exact ⟨a, x2, x3, rfl, hs⟩
    cases p with
    | non =>
      cases dv0
      exact vIsi rfl (.base .non) (b := false) (by decide +kernel) ⟨_, rfl, iteF ⟨_, rfl, fin⟩⟩
    | two h z =>
      obtain ⟨a, x1, x2, rfl, hs, d1, d2⟩ := Dt.t2 dv0
      obtain rfl := d1.s
      exact vIsi rfl (ty_tup hs) (b := true) (by decide +kernel) ⟨_, rfl, iteT ⟨_, rfl, a, _, rfl, .inr hs, rfl, _, rfl, iteT (vTx rfl hs rfl ⟨rfl, _, rfl, sF (fun e => nn z (by rw [e])) ⟨_, rfl, fin⟩⟩)⟩⟩
    | el h x y =>
      obtain ⟨a, x2, x3, rfl, hs⟩ := three dv0
      exact vIsi rfl (ty_tup hs) (b := true) (by decide +kernel) ⟨_, rfl, iteT ⟨_, rfl, a, _, rfl, .inr hs, rfl, _, rfl, iteF ⟨_, rfl, fin⟩⟩⟩
    | hs z k x =>
      obtain ⟨a, x2, x3, rfl, hs⟩ := three dv0
      exact vIsi rfl (ty_tup hs) (b := true) (by decide +kernel) ⟨_, rfl, iteT ⟨_, rfl, a, _, rfl, .inr hs, rfl, _, rfl, iteF ⟨_, rfl, fin⟩⟩⟩
    | bad h x y =>
      obtain ⟨a, x2, x3, rfl, hs⟩ := three dv0
      exact vIsi rfl (ty_tup hs) (b := true) (by decide +kernel) ⟨_, rfl, iteT ⟨_, rfl, a, _, rfl, .inr hs, rfl, _, rfl, iteF ⟨_, rfl, fin⟩⟩⟩
/-- what comes of a condition's text -/
def outC (K : PySem.W.Frag) (CB CD_ : Addr) (H : Hp) (Q : VK) (E : XK) : Except PErr Tm → Prop
  | .ok t => OkC t ∧ ∃ c : CD, wCn t = c.d ∧ c.Ok ∧ ∀ v H', Same H H' → (if c.b = true then Dt K H' v c.d else v = .non) → Q v H'
  | .error (b, q) => ∀ d H', Same H H' → H' d = some (.xd [("position", .int (q : Nat))]) → E (.ref (if b then CD_ else CB)) (some d) H'
def spRC (K : PySem.W.Frag) (CB CD_ : Addr) : Sp := fun vs H Q E => ∃ (x : Str), vs = [.str x] ∧ x.length ≤ 4000 ∧ (∃ N : List Str, N.length < 64 ∧ ∀ w p, (Tk.name w, p) ∈ toks x.cps.toList → w ∈ N) ∧ outC K CB CD_ H Q E (pRead CSIG x.cps.toList)
theorem ok_rc {f : Addr} {fd : FuncData} (F : Fun K "read_condition" "read_condition" s_read_condition f fd) (T : TxtC K w mg aS dH dG) (C_read_term : CalR P w K mg base 128 "read_term" (spRead K CB CD_)) (C_written : C8.Cal P w K mg base 3 "_written" (spWC K) [])
    (C_is_condition : C8.Cal P w K mg base 5 "is_condition" (spIsC K) []) : FnOk P w K mg base (L2.CX P w) 129 f fd ["text"] (spRC K CB CD_) := by
  refine F.okX sc_read_condition (fun vs H Q E h => ?_) (fun cdv A outer s H vs Q E hr h => ?_)
  · obtain ⟨_, rfl, _⟩ := h
    rfl
  obtain ⟨x, rfl, hx, few, q⟩ := h
  refine ⟨_, (pss_cons (ps_set (i := 1) sc_read_condition.nd rfl (Or.inl rfl) (C8.pe_c C_written hr (by decide) rfl (pa_cons (pe_crE C_read_term (takes_of rfl rfl rfl rfl) hr (by decide) rfl (pa_cons (pe_callTy PKR.call_dictK (by rfl) T.z_dict (by decide +kernel) (pa_cons (pe_glob (v := .ref dG) rfl T.g_SIG rfl) pa_nil)) (pa_cons (pv 0) pa_nil))) pa_nil)))
    (pss_one (ps_ret (pe_ifExp (pt_val (C8.pe_c C_is_condition hr (by decide) rfl (pa_cons (pv 1) pa_nil))) (pv 1) pe_non)))), ?_⟩
  refine ⟨dG, sigK CSIG, rfl, T.kG, fun dS hS => ⟨_, rfl, dS, x, CSIG, rfl, upd_same, hx, toks_ok (by rw [← len_list]; exact hx) few (by decide +kernel), ?_⟩⟩
  have s1 := same_new (H := H) (o := .dK (sigK CSIG)) hS
  cases hp : pRead CSIG x.cps.toList with
  | error z =>
    rw [hp] at q
    exact fun d H' s' hd => q d H' (s1.trans s') hd
  | ok t =>
    rw [hp] at q
    obtain ⟨okc, c, ec, cok, q1⟩ := q
    intro v H' s' dv
    refine ⟨_, t, rfl, dv, okc, fun H2 v2 s2 dv2 => ?_⟩
    rw [ec] at dv2
    refine ⟨_, rfl, _, c, rfl, dv2, cok, fun H3 s3 => ⟨_, rfl, ?_⟩⟩
    have sm := ((s1.trans s').trans s2).trans s3
    cases hb : c.b with
    | true =>
      rw [hb] at q1
      exact iteT ⟨_, rfl, q1 _ _ sm (dv2.same s3)⟩
    | false =>
      rw [hb] at q1
      exact iteF (q1 _ _ sm rfl)
end
end PK
namespace PK
open PySem L2
/-- a list of words at p, not the pool -/
structure Nm (H : Hp) (l p : Addr) (ws : List Str) : Prop where
  at_ : H p = some (.lst (ws.map V.str))
  ne : p ≠ l
  ne0 : 1 ≤ ws.length
  le : ws.length ≤ 25
  wd : ∀ x ∈ ws, Wd x
theorem Nm.ext {H H' : Hp} {l c p : Addr} {ws : List Str} (N : Nm H l p ws) (x : Ext l c H H') : Nm H' l p ws := ⟨x.keep _ _ N.ne N.at_, N.ne, N.ne0, N.le, N.wd⟩
def Box (H : Hp) (l bx : Addr) (names sure : List Str) : Prop := ∃ pn ps : Addr, H bx = some (.dK [(Sum.inr "names", .ref pn), (Sum.inr "sure", .ref ps)]) ∧ bx ≠ l ∧ Nm H l pn names ∧ Nm H l ps sure
theorem Box.ext {H H' : Hp} {l c bx : Addr} {names sure : List Str} (B : Box H l bx names sure) (x : Ext l c H H') : Box H' l bx names sure := by
  obtain ⟨pn, ps, h, ne, N, S⟩ := B
  exact ⟨pn, ps, x.keep _ _ ne h, ne, N.ext x, S.ext x⟩
theorem Box.get {H : Hp} {l bx : Addr} {names sure : List Str} (B : Box H l bx names sure) : (∃ pn, DGet H bx (.str "names") (some (.ref pn)) ∧ Nm H l pn names) ∧ ∃ ps, DGet H bx (.str "sure") (some (.ref ps)) ∧ Nm H l ps sure := by
  obtain ⟨pn, ps, h, ne, N, S⟩ := B
  have ne' : (Sum.inr ("names" : Str) : Key) ≠ Sum.inr ("sure" : Str) := by decide +kernel
  have e1 : valV [((Sum.inr "names" : Key), V.ref pn), (Sum.inr "sure", V.ref ps)] (Sum.inr "names") = some (.ref pn) := valV_hd
  have e2 : valV [((Sum.inr "names" : Key), V.ref pn), (Sum.inr "sure", V.ref ps)] (Sum.inr "sure") = some (.ref ps) := (valV_tl ne').trans valV_hd
  exact ⟨⟨pn, by rw [← e1]; exact DGet.k (k := Sum.inr "names") h, N⟩, ps, by rw [← e2]; exact DGet.k (k := Sum.inr "sure") h, S⟩
/-! operands and conditions as they are drawn -/
inductive Op where
  | int (n : Int)
  | name (w : Str)
  | addr (n : Int)
  | var (w : Str)
  | sum (w : Str) (n : Int)
def Op.d : Op → PyData
  | .int n => .tuple [.str "int", .int n]
  | .name w => .tuple [.str "name", .str w]
  | .addr n => .tuple [.str "addr", .int n]
  | .var w => .tuple [.str "meta", .str w]
  | .sum w n => .tuple [.str "sum", .str w, .int n]
def Op.Ok (names : List Str) : Op → Prop
  | .int n => -(10 ^ 15) < n ∧ n < 10 ^ 15
  | .name w => Wd w ∧ w ∈ names
  | .addr n => 0 ≤ n ∧ n < 10 ^ 9
  | .var w => Wd w
  | .sum w n => Wd w ∧ n ≠ 0 ∧ -10 < n ∧ n < 10
inductive Cd where
  | one (h x : Str)
  | two (h : Str) (a b : Op)
  | has (x : Str) (k : Op)
def Cd.d : Cd → PyData
  | .one h x => .tuple [.str h, .str x]
  | .two h a b => .tuple [.str h, a.d, b.d]
  | .has x k => .tuple [.str "has", .str x, k.d]
def Cd.Ok (names : List Str) : Cd → Prop
  | .one h x => h ∈ HEADS ∧ Wd x
  | .two h a b => h ∈ EL ∧ a.Ok names ∧ b.Ok names
  | .has x k => Wd x ∧ k.Ok names ∧ ((∃ w, k = .name w) ∨ ∃ w, k = .var w)
def spNum : Sp := fun vs H Q _ => ∃ (l c : Addr), vs = [.ref l] ∧ Pool H l c ∧ ∀ (i : Int) (H' : Hp), Ext l c H H' → -(10 ^ 15) < i → i < 10 ^ 15 → Q (.int i) H'
def spAtom (K : PySem.W.Frag) : Sp := fun vs H Q _ => ∃ (l c pn : Addr) (names : List Str), vs = [.ref l, .ref pn] ∧ Pool H l c ∧ Nm H l pn names ∧
  ∀ (v : V) (o : Op) (H' : Hp), Ext l c H H' → Dt K H' v o.d → o.Ok names → Q v H'
def spPick : Sp := fun vs H Q _ => ∃ (l c p : Addr) (ws : List Str), vs = [.ref l, .ref p] ∧ Pool H l c ∧ Nm H l p ws ∧
  ∀ (x : Str) (H' : Hp), Ext l c H H' → x ∈ ws → Q (.str x) H'
def spOperand (K : PySem.W.Frag) : Sp := fun vs H Q _ => ∃ (l c bx : Addr) (names sure : List Str), vs = [.ref l, .ref bx] ∧ Pool H l c ∧ Box H l bx names sure ∧
  ∀ (v : V) (o : Op) (H' : Hp), Ext l c H H' → Dt K H' v o.d → o.Ok names → Q v H'
def spCond (K : PySem.W.Frag) : Sp := fun vs H Q _ => ∃ (l c bx : Addr) (names sure : List Str), vs = [.ref l, .ref bx] ∧ Pool H l c ∧ Box H l bx names sure ∧
  ∀ (v : V) (d : Cd) (H' : Hp), Ext l c H H' → Dt K H' v d.d → d.Ok names → Q v H'
section
variable {P : Program} {w : World} {K : PySem.W.Frag} {mg : Str → Option Value} {base : Heap}
abbrev s_law_number : Stmt := topS 42
theorem sc_law_number : FnScope ["pool"] ["pool"] (defScope s_law_number) := ⟨rfl, rfl, rfl, by decide +kernel, rfl, by decide +kernel, by decide +kernel⟩
-- slots: 0:pool
theorem ok_number {f : Addr} {fd : FuncData} (F : Fun K "_law_number" "_law_number" s_law_number f fd) (C_law_take : C8.Cal P w K mg base 2 "_law_take" (spTake 2) []) :
    FnOk P w K mg base CX0 3 f fd ["pool"] spNum := by
  refine F.ok sc_law_number (fun vs H Q E h => ?_) (fun cdv A outer s H vs Q E hr h => ?_)
  · obtain ⟨l, c, rfl, _⟩ := h
    rfl
  obtain ⟨l, c, rfl, P0, q⟩ := h
  refine ⟨_, (pss_cons (ps_if (pt_cmpR op_eq (C8.pe_c C_law_take hr (by decide) rfl (pa_cons (pv 0) (pa_cons pe_int pa_nil))) pe_int (nomark _)) (pss_one (ps_ret (pe_op op_mul (pe_op op_add (pe_op op_mul (C8.pe_c C_law_take hr (by decide) rfl (pa_cons (pv 0) (pa_cons (pe_op op_pow pe_int pe_int) pa_nil))) (pe_op op_pow pe_int pe_int)) (C8.pe_c C_law_take hr (by decide) rfl (pa_cons (pv 0) (pa_cons (pe_op op_pow pe_int pe_int) pa_nil)))) (pe_ix ix_tup (pe_tup (pa_cons pe_int (pa_cons (pe_un un_neg pe_int) pa_nil))) (C8.pe_c C_law_take hr (by decide) rfl (pa_cons (pv 0) (pa_cons pe_int pa_nil))) (fun _ _ => rfl))))) pss_nil)
    (pss_one (ps_ret (pe_op op_sub (C8.pe_c C_law_take hr (by decide) rfl (pa_cons (pv 0) (pa_cons pe_int pa_nil))) pe_int)))), ?_⟩
  have p9 : CPow 10 9 := ⟨by decide, by decide, by decide⟩
  have p6 : CPow 10 6 := ⟨by decide, by decide, by decide⟩
  refine vTake rfl P0 (by decide) (by decide) fun d H1 d0 d1 x1 => ⟨rfl, _, rfl, ?_⟩
  refine ite2 (fun _ => ?_) (fun _ => ?_)
  · refine ⟨_, rfl, _, _, rfl, rfl, p9, l, c, 10 ^ 9, False, rfl, x1.pool, by decide, by decide, .inl (Nat.le_refl 2), fun a H2 a0 a1 x2 => ?_⟩
    refine ⟨_, _, rfl, rfl, p6, _, _, rfl, rfl, .inr ⟨by decide, by decide⟩, ?_⟩
    refine ⟨_, rfl, _, _, rfl, rfl, p6, l, c, 10 ^ 6, False, rfl, x2.pool, by decide, by decide, .inl (Nat.le_refl 2), fun b H3 b0 b1 x3 => ?_⟩
    refine ⟨_, _, rfl, rfl, _, rfl, small (by show 2 ≤ _; decide), fun p hp => ?_⟩
    have x4 := (x1.trans (x2.trans x3)).new (o := .tup [.int 1, .int (-1)]) P0 hp
    refine vTake rfl x4.pool (by decide) (by decide) fun e H4 e0 e1 x5 => ?_
    have hs : SqT K H4 p [.int 1, .int (-1)] := x5.seqT x4.pool (SqT.of upd_same)
    rcases (by omega : e = 0 ∨ e = 1) with rfl | rfl
    · exact ⟨p, _, _, _, rfl, rfl, hs, rfl, _, _, rfl, rfl, .inr ⟨by decide, by decide⟩, q _ _ (x4.trans x5) (by rw [show (10 : Int) ^ Int.toNat 6 = 1000000 by decide]; omega) (by rw [show (10 : Int) ^ Int.toNat 6 = 1000000 by decide]; omega)⟩
    · exact ⟨p, _, _, _, rfl, rfl, hs, rfl, _, _, rfl, rfl, .inr ⟨by decide, by decide⟩, q _ _ (x4.trans x5) (by rw [show (10 : Int) ^ Int.toNat 6 = 1000000 by decide]; omega) (by rw [show (10 : Int) ^ Int.toNat 6 = 1000000 by decide]; omega)⟩
  · refine vTake rfl x1.pool (by decide) (by decide) fun e H2 e0 e1 x2 => ⟨_, _, rfl, rfl, q _ _ (x1.trans x2) (by omega) (by omega)⟩
theorem Nm.pick {K : PySem.W.Frag} {H H' : Hp} {l c p : Addr} {ws : List Str} (N : Nm H l p ws) (x : Ext l c H H') {d : Int} (h0 : 0 ≤ d) (h1 : d < ((ws.map V.str).length : Int)) {Q : VK} (q : ∀ y, y ∈ ws → Q (.str y) H') : rIxL K (.ref p) (.int d) H' Q := by
  rw [List.length_map] at h1
  obtain ⟨j, rfl⟩ : ∃ j : Nat, d = j := ⟨d.toNat, by omega⟩
  have hj : j < ws.length := by omega
  exact ⟨p, _, _, _, rfl, rfl, SqL.of (x.keep _ _ N.ne N.at_), atI_nat (by rw [List.getElem?_map, List.getElem?_eq_getElem hj]; rfl), q _ (List.getElem_mem hj)⟩
theorem Nm.bd {H : Hp} {l p : Addr} {ws : List Str} (N : Nm H l p ws) : (0 : Int) < ((ws.map V.str).length : Int) ∧ ((ws.map V.str).length : Int) < 18446744073709551616 := by
  rw [List.length_map]
  have := N.ne0
  have := N.le
  omega
abbrev s_law_pick : Stmt := topS 44
theorem sc_law_pick : FnScope ["pool", "rows"] ["pool", "rows"] (defScope s_law_pick) := ⟨rfl, rfl, rfl, by decide +kernel, rfl, by decide +kernel, by decide +kernel⟩
-- slots: 0:pool 1:rows
theorem ok_pick {f : Addr} {fd : FuncData} (F : Fun K "_law_pick" "_law_pick" s_law_pick f fd) (T : Txt K mg) (C_law_take : C8.Cal P w K mg base 2 "_law_take" (spTake 2) []) :
    FnOk P w K mg base CX0 3 f fd ["pool", "rows"] spPick := by
  refine F.ok sc_law_pick (fun vs H Q E h => ?_) (fun cdv A outer s H vs Q E hr h => ?_)
  · obtain ⟨l, c, p, ws, rfl, _⟩ := h
    rfl
  obtain ⟨l, c, p, ws, rfl, P0, N, q⟩ := h
  refine ⟨_, (pss_one (ps_ret (pe_ix ix_list (pv 1) (C8.pe_c C_law_take hr (by decide) rfl (pa_cons (pv 0) (pa_cons (pe_callB call_len_seq (by rfl) T.z_len (by decide +kernel) (pa_cons (pv 1) pa_nil)) pa_nil))) (fun _ _ => rfl)))), ?_⟩
  refine ⟨_, rfl, _, rfl, _, rfl, p, _, rfl, .inl (SqL.of N.at_), l, c, _, False, rfl, P0, N.bd.1, N.bd.2, .inl (Nat.le_refl 2), fun d H1 d0 d1 x1 => ?_⟩
  exact N.pick x1 d0 d1 fun y hy => q y _ x1 hy
abbrev s_law_atom : Stmt := topS 43
theorem sc_law_atom : FnScope ["pool", "names", "kind"] ["pool", "names"] (defScope s_law_atom) := ⟨rfl, rfl, rfl, by decide +kernel, rfl, by decide +kernel, by decide +kernel⟩
-- slots: 0:pool 1:names 2:kind
theorem ok_atom {f : Addr} {fd : FuncData} (F : Fun K "_law_atom" "_law_atom" s_law_atom f fd) (T : Txt K mg) (C_law_take : C8.Cal P w K mg base 2 "_law_take" (spTake 2) [])
    (C_law_number : C8.Cal P w K mg base 3 "_law_number" spNum []) : FnOk P w K mg base CX0 4 f fd ["pool", "names"] (spAtom K) := by
  refine F.ok sc_law_atom (fun vs H Q E h => ?_) (fun cdv A outer s H vs Q E hr h => ?_)
  · obtain ⟨l, c, p, ws, rfl, _⟩ := h
    rfl
  obtain ⟨l, c, p, ws, rfl, P0, N, q⟩ := h
  refine ⟨_, (pss_cons (ps_set (i := 2) sc_law_atom.nd rfl (Or.inl rfl) (C8.pe_c C_law_take hr (by decide) rfl (pa_cons (pv 0) (pa_cons pe_int pa_nil))))
    (pss_cons (ps_if (pt_cmpR op_lt (pv 2) pe_int (nomark _)) (pss_one (ps_ret (pe_tup (pa_cons pe_str (pa_cons (C8.pe_c C_law_number hr (by decide) rfl (pa_cons (pv 0) pa_nil)) pa_nil))))) pss_nil)
    (pss_cons (ps_if (pt_cmpR op_eq (pv 2) pe_int (nomark _)) (pss_one (ps_ret (pe_tup (pa_cons pe_str (pa_cons (pe_ix ix_list (pv 1) (C8.pe_c C_law_take hr (by decide) rfl (pa_cons (pv 0) (pa_cons (pe_callB call_len_seq (by rfl) T.z_len (by decide +kernel) (pa_cons (pv 1) pa_nil)) pa_nil))) (fun _ _ => rfl)) pa_nil))))) pss_nil)
    (pss_one (ps_ret (pe_tup (pa_cons pe_str (pa_cons (C8.pe_c C_law_take hr (by decide) rfl (pa_cons (pv 0) (pa_cons pe_int pa_nil))) pa_nil)))))))), ?_⟩
  have two : ∀ x y : V, [x, y].length ≤ sizeLine := fun x y => small (by show 2 ≤ _; decide)
  refine vTake rfl P0 (by decide) (by decide) fun d H1 d0 d1 x1 => ⟨_, rfl, _, _, rfl, rfl, _, rfl, ?_⟩
  refine ite2 (fun _ => ?_) (fun _ => ?_)
  · refine ⟨_, rfl, l, c, rfl, x1.pool, fun i H2 x2 i0 i1 => ⟨two _ _, fun t ht => ?_⟩⟩
    exact q _ (.int i) _ ((x1.trans x2).new P0 ht) (Dt.mk2 ht (.str _) (.int _)) ⟨i0, i1⟩
  · refine ⟨_, rfl, rfl, _, rfl, ite2 (fun _ => ?_) (fun _ => ?_)⟩
    · refine ⟨_, rfl, _, rfl, _, rfl, p, _, rfl, .inl (SqL.of (N.ext x1).at_), l, c, _, False, rfl, x1.pool, N.bd.1, N.bd.2, .inl (Nat.le_refl 2), fun d H2 d0 d1 x2 => ?_⟩
      refine N.pick (x1.trans x2) d0 d1 fun y hy => ⟨two _ _, fun t ht => ?_⟩
      exact q _ (.name y) _ ((x1.trans x2).new P0 ht) (Dt.mk2 ht (.str _) (.str _)) ⟨N.wd y hy, hy⟩
    · refine vTake rfl x1.pool (by decide) (by decide) fun e H2 e0 e1 x2 => ⟨two _ _, fun t ht => ?_⟩
      exact q _ (.addr e) _ ((x1.trans x2).new P0 ht) (Dt.mk2 ht (.str _) (.int _)) ⟨e0, by omega⟩
abbrev s_law_operand : Stmt := topS 45
theorem sc_law_operand : FnScope ["pool", "box", "kind", "word"] ["pool", "box"] (defScope s_law_operand) := ⟨rfl, rfl, rfl, by decide +kernel, rfl, by decide +kernel, by decide +kernel⟩
-- slots: 0:pool 1:box 2:kind 3:word
theorem ok_operand {f : Addr} {fd : FuncData} (F : Fun K "_law_operand" "_law_operand" s_law_operand f fd) (T : Txt K mg) (C_law_take : C8.Cal P w K mg base 2 "_law_take" (spTake 2) [])
    (C_law_atom : C8.Cal P w K mg base 4 "_law_atom" (spAtom K) []) (C_law_pick : C8.Cal P w K mg base 3 "_law_pick" spPick []) : FnOk P w K mg base CX0 5 f fd ["pool", "box"] (spOperand K) := by
  refine F.ok sc_law_operand (fun vs H Q E h => ?_) (fun cdv A outer s H vs Q E hr h => ?_)
  · obtain ⟨l, c, p, n, ws, rfl, _⟩ := h
    rfl
  obtain ⟨l, c, bx, names, sure, rfl, P0, B, q⟩ := h
  refine ⟨_, (pss_cons (ps_set (i := 2) sc_law_operand.nd rfl (Or.inl rfl) (C8.pe_c C_law_take hr (by decide) rfl (pa_cons (pv 0) (pa_cons pe_int pa_nil))))
    (pss_cons (ps_if (pt_cmpR op_eq (pv 2) pe_int (nomark _)) (pss_one (ps_ret (C8.pe_c C_law_atom hr (by decide) rfl (pa_cons (pv 0) (pa_cons (pe_dget (hu_of hr) (pv 1) pe_str (fun _ _ => rfl)) pa_nil))))) pss_nil)
    (pss_cons (ps_set (i := 3) sc_law_operand.nd rfl (Or.inl rfl) (C8.pe_c C_law_pick hr (by decide) rfl (pa_cons (pv 0) (pa_cons (pe_dget (hu_of hr) (pv 1) pe_str (fun _ _ => rfl)) pa_nil))))
    (pss_cons (ps_if (pt_cmpR op_eq (pv 2) pe_int (nomark _)) (pss_one (ps_ret (pe_tup (pa_cons pe_str (pa_cons (pv 3) (pa_cons (pe_op op_add (C8.pe_c C_law_take hr (by decide) rfl (pa_cons (pv 0) (pa_cons pe_int pa_nil))) pe_int) pa_nil)))))) pss_nil)
    (pss_cons (ps_if (PW.pt (pw_and (pt_cmpR op_eq (pv 2) pe_int (nomark _)) (pw_and1 (pt_cmpR op_eq (C8.pe_c C_law_take hr (by decide) rfl (pa_cons (pv 0) (pa_cons pe_int pa_nil))) pe_int (nomark _))))) (pss_one (ps_ret (pe_tup (pa_cons pe_str (pa_cons (pv 3) (pa_cons (pe_op op_sub (pe_un un_neg pe_int) (C8.pe_c C_law_take hr (by decide) rfl (pa_cons (pv 0) (pa_cons pe_int pa_nil)))) pa_nil)))))) pss_nil)
    (pss_one (ps_ret (pe_tup (pa_cons pe_str (pa_cons (pv 3) pa_nil)))))))))), ?_⟩
  have two : ∀ x y : V, [x, y].length ≤ sizeLine := fun x y => small (by show 2 ≤ _; decide)
  have three : ∀ x y z : V, [x, y, z].length ≤ sizeLine := fun x y z => small (by show 3 ≤ _; decide)
  refine vTake rfl P0 (by decide) (by decide) fun d H1 d0 d1 x1 => ⟨_, rfl, rfl, _, rfl, ?_⟩
  obtain ⟨⟨pn, gn, N⟩, ps, gs, S⟩ := (B.ext x1).get
  refine ite2 (fun _ => ?_) (fun _ => ?_)
  · refine ⟨_, rfl, _, rfl, bx, _, rfl, gn, l, c, pn, names, rfl, x1.pool, N, fun v a H2 x2 da wa => ?_⟩
    exact q v a H2 (x1.trans x2) da wa
  · refine ⟨_, rfl, _, rfl, bx, _, rfl, gs, l, c, ps, sure, rfl, x1.pool, S, fun x H2 x2 hx => ?_⟩
    have x3 := x1.trans x2
    have hx' : Wd x := S.wd x hx
    refine ⟨_, rfl, rfl, _, rfl, ite2 (fun _ => ?_) (fun _ => ?_)⟩
    · refine ⟨_, rfl, vTake rfl x3.pool (by decide) (by decide) fun e H3 e0 e1 x4 => ⟨_, _, rfl, rfl, three _ _ _, fun t ht => ?_⟩⟩
      exact q _ (.sum x (e + 1)) _ ((x3.trans x4).new P0 ht) (Dt.mk3 ht (.str _) (.str _) (.int _)) ⟨hx', by omega, by omega, by omega⟩
    · refine ⟨_, rfl, rfl, _, rfl, ite2 (fun _ => ?_) (fun _ => ?_)⟩
      · refine vTake rfl x3.pool (by decide) (by decide) fun e H3 e0 e1 x4 => ⟨rfl, _, rfl, ite2 (fun _ => ?_) (fun _ => ?_)⟩
        · refine ⟨_, rfl, _, rfl, vTake rfl x4.pool (by decide) (by decide) fun e2 H4 e20 e21 x5 => ⟨_, _, rfl, rfl, three _ _ _, fun t ht => ?_⟩⟩
          exact q _ (.sum x (-1 - e2)) _ ((x3.trans (x4.trans x5)).new P0 ht) (Dt.mk3 ht (.str _) (.str _) (.int _)) ⟨hx', by omega, by omega, by omega⟩
        · refine ⟨_, rfl, two _ _, fun t ht => ?_⟩
          exact q _ (.var x) _ ((x3.trans x4).new P0 ht) (Dt.mk2 ht (.str _) (.str _)) hx'
      · refine ⟨_, rfl, two _ _, fun t ht => ?_⟩
        exact q _ (.var x) _ (x3.new P0 ht) (Dt.mk2 ht (.str _) (.str _)) hx'
abbrev s_law_condition : Stmt := topS 46
theorem sc_law_condition : FnScope ["pool", "box", "kind", "first", "key"] ["pool", "box"] (defScope s_law_condition) := ⟨rfl, rfl, rfl, by decide +kernel, rfl, by decide +kernel, by decide +kernel⟩
-- slots: 0:pool 1:box 2:kind 3:first 4:key
theorem ok_cond {f : Addr} {fd : FuncData} (F : Fun K "_law_condition" "_law_condition" s_law_condition f fd) (C_law_take : C8.Cal P w K mg base 2 "_law_take" (spTake 2) [])
    (C_law_operand : C8.Cal P w K mg base 5 "_law_operand" (spOperand K) []) (C_law_pick : C8.Cal P w K mg base 3 "_law_pick" spPick []) : FnOk P w K mg base CX0 6 f fd ["pool", "box"] (spCond K) := by
  refine F.ok sc_law_condition (fun vs H Q E h => ?_) (fun cdv A outer s H vs Q E hr h => ?_)
  · obtain ⟨l, c, p, n, ws, rfl, _⟩ := h
    rfl
  obtain ⟨l, c, bx, names, sure, rfl, P0, B, q⟩ := h
  refine ⟨_, (pss_cons (ps_set (i := 2) sc_law_condition.nd rfl (Or.inl rfl) (C8.pe_c C_law_take hr (by decide) rfl (pa_cons (pv 0) (pa_cons pe_int pa_nil))))
    (pss_cons (ps_if (pt_cmpR op_lt (pv 2) pe_int (nomark _)) (pss_one (ps_ret (pe_tup (pa_cons pe_str (pa_cons (C8.pe_c C_law_pick hr (by decide) rfl (pa_cons (pv 0) (pa_cons (pe_dget (hu_of hr) (pv 1) pe_str (fun _ _ => rfl)) pa_nil))) pa_nil))))) pss_nil)
    (pss_cons (ps_if (pt_cmpR op_lt (pv 2) pe_int (nomark _)) (pss_one (ps_ret (pe_tup (pa_cons (pe_ix ix_tup (pe_tup (pa_cons pe_str (pa_cons pe_str (pa_cons pe_str pa_nil)))) (pe_op op_sub (pv 2) pe_int) (fun _ _ => rfl)) (pa_cons (C8.pe_c C_law_pick hr (by decide) rfl (pa_cons (pv 0) (pa_cons (pe_dget (hu_of hr) (pv 1) pe_str (fun _ _ => rfl)) pa_nil))) pa_nil))))) pss_nil)
    (pss_cons (ps_if (pt_cmpR op_lt (pv 2) pe_int (nomark _)) (pss_cons (ps_set (i := 3) sc_law_condition.nd rfl (Or.inl rfl) (C8.pe_c C_law_operand hr (by decide) rfl (pa_cons (pv 0) (pa_cons (pv 1) pa_nil))))
    (pss_one (ps_ret (pe_tup (pa_cons (pe_ix ix_tup (pe_tup (pa_cons pe_str (pa_cons pe_str pa_nil))) (pe_op op_sub (pv 2) pe_int) (fun _ _ => rfl)) (pa_cons (pv 3) (pa_cons (C8.pe_c C_law_operand hr (by decide) rfl (pa_cons (pv 0) (pa_cons (pv 1) pa_nil))) pa_nil))))))) pss_nil)
    (pss_cons (ps_set (i := 4) sc_law_condition.nd rfl (Or.inl rfl) (pe_tup (pa_cons pe_str (pa_cons (C8.pe_c C_law_pick hr (by decide) rfl (pa_cons (pv 0) (pa_cons (pe_dget (hu_of hr) (pv 1) pe_str (fun _ _ => rfl)) pa_nil))) pa_nil))))
    (C8.pss_cut (ps_if (pt_cmpR op_eq (C8.pe_c C_law_take hr (by decide) rfl (pa_cons (pv 0) (pa_cons pe_int pa_nil))) pe_int (nomark _)) (pss_one (ps_set (i := 4) sc_law_condition.nd rfl (Or.inl rfl) (pe_tup (pa_cons pe_str (pa_cons (C8.pe_c C_law_pick hr (by decide) rfl (pa_cons (pv 0) (pa_cons (pe_dget (hu_of hr) (pv 1) pe_str (fun _ _ => rfl)) pa_nil))) pa_nil))))) pss_nil)
    (pss_one (ps_ret (pe_tup (pa_cons pe_str (pa_cons (C8.pe_c C_law_pick hr (by decide) rfl (pa_cons (pv 0) (pa_cons (pe_dget (hu_of hr) (pv 1) pe_str (fun _ _ => rfl)) pa_nil))) (pa_cons (pv 4) pa_nil)))))))))))), ?_⟩
  have two : ∀ x y : V, [x, y].length ≤ sizeLine := fun x y => small (by show 2 ≤ _; decide)
  have three : ∀ x y z : V, [x, y, z].length ≤ sizeLine := fun x y z => small (by show 3 ≤ _; decide)
  have BW : ∀ x ∈ sure, Wd x := by
    obtain ⟨_, ps, _, S⟩ := B.get
    exact S.wd
  refine vTake rfl P0 (by decide) (by decide) fun d H1 d0 d1 x1 => ?_
  obtain ⟨⟨pn, gn, N⟩, ps, gs, S⟩ := (B.ext x1).get
  refine ⟨_, rfl, _, _, rfl, rfl, _, rfl, ite2 (fun _ => ?_) (fun c1 => ?_)⟩
  · refine ⟨_, rfl, _, rfl, bx, _, rfl, gs, l, c, ps, sure, rfl, x1.pool, S, fun x H2 x2 hx => ⟨two _ _, fun t ht => ?_⟩⟩
    exact q _ (.one "integer" x) _ ((x1.trans x2).new P0 ht) (Dt.mk2 ht (.str _) (.str _)) ⟨by decide +kernel, (BW x hx)⟩
  have c1' : ¬ d < 3 := fun z => c1 (decide_eq_true z)
  refine ⟨_, rfl, _, _, rfl, rfl, _, rfl, ite2 (fun c2 => ?_) (fun c2 => ?_)⟩
  · have c2' : d < 6 := of_decide_eq_true c2
    refine ⟨three _ _ _, fun t0 ht0 => ⟨_, rfl, _, _, rfl, rfl, ?_⟩⟩
    have x2 := x1.new (o := .tup [.str "name", .str "address", .str "map"]) P0 ht0
    have hs : SqT K (upd H1 t0 (.tup [.str "name", .str "address", .str "map"])) t0 [.str "name", .str "address", .str "map"] := SqT.of upd_same
    obtain ⟨_, ps2, gs2, S2⟩ := (B.ext x2).get
    rcases (by omega : d = 3 ∨ d = 4 ∨ d = 5) with rfl | rfl | rfl
    · refine ⟨t0, _, _, _, rfl, rfl, hs, rfl, _, rfl, _, rfl, bx, _, rfl, gs2, l, c, ps2, sure, rfl, x2.pool, S2, fun x H2 x3 hx => ⟨two _ _, fun t ht => ?_⟩⟩
      exact q _ (.one "name" x) _ ((x2.trans x3).new P0 ht) (Dt.mk2 ht (.str _) (.str _)) ⟨by decide +kernel, (BW x hx)⟩
    · refine ⟨t0, _, _, _, rfl, rfl, hs, rfl, _, rfl, _, rfl, bx, _, rfl, gs2, l, c, ps2, sure, rfl, x2.pool, S2, fun x H2 x3 hx => ⟨two _ _, fun t ht => ?_⟩⟩
      exact q _ (.one "address" x) _ ((x2.trans x3).new P0 ht) (Dt.mk2 ht (.str _) (.str _)) ⟨by decide +kernel, (BW x hx)⟩
    · refine ⟨t0, _, _, _, rfl, rfl, hs, rfl, _, rfl, _, rfl, bx, _, rfl, gs2, l, c, ps2, sure, rfl, x2.pool, S2, fun x H2 x3 hx => ⟨two _ _, fun t ht => ?_⟩⟩
      exact q _ (.one "map" x) _ ((x2.trans x3).new P0 ht) (Dt.mk2 ht (.str _) (.str _)) ⟨by decide +kernel, (BW x hx)⟩
  have c2' : ¬ d < 6 := fun z => c2 (decide_eq_true z)
  refine ⟨_, rfl, _, _, rfl, rfl, _, rfl, ite2 (fun c3 => ?_) (fun c3 => ?_)⟩
  · have c3' : d < 8 := of_decide_eq_true c3
    refine ⟨_, rfl, _, rfl, l, c, bx, names, sure, rfl, x1.pool, B.ext x1, fun v1 o1 H2 x2 d1' w1 => ?_⟩
    refine ⟨two _ _, fun t0 ht0 => ⟨_, rfl, _, _, rfl, rfl, ?_⟩⟩
    have x12 := x1.trans x2
    have x3 := x12.new (o := .tup [.str "equal", .str "less"]) P0 ht0
    have hs : SqT K (upd H2 t0 (.tup [.str "equal", .str "less"])) t0 [.str "equal", .str "less"] := SqT.of upd_same
    have d1n := d1'.new (o := .tup [.str "equal", .str "less"]) ht0
    rcases (by omega : d = 6 ∨ d = 7) with rfl | rfl
    · refine ⟨t0, _, _, _, rfl, rfl, hs, rfl, _, rfl, _, rfl, _, rfl, l, c, bx, names, sure, rfl, x3.pool, B.ext x3, fun v2 o2 H3 x4 d2' w2 => ⟨three _ _ _, fun t ht => ?_⟩⟩
      exact q _ (.two "equal" o1 o2) _ ((x3.trans x4).new P0 ht) (Dt.mk3 ht (.str _) (d1n.ext x3.pool x4) d2') ⟨by decide +kernel, w1, w2⟩
    · refine ⟨t0, _, _, _, rfl, rfl, hs, rfl, _, rfl, _, rfl, _, rfl, l, c, bx, names, sure, rfl, x3.pool, B.ext x3, fun v2 o2 H3 x4 d2' w2 => ⟨three _ _ _, fun t ht => ?_⟩⟩
      exact q _ (.two "less" o1 o2) _ ((x3.trans x4).new P0 ht) (Dt.mk3 ht (.str _) (d1n.ext x3.pool x4) d2') ⟨by decide +kernel, w1, w2⟩
  · refine ⟨_, rfl, _, rfl, bx, _, rfl, gn, l, c, pn, names, rfl, x1.pool, N, fun x H2 x2 hx => ⟨two _ _, fun t ht => ?_⟩⟩
    have x3 := (x1.trans x2).new (o := .tup [.str "name", .str x]) P0 ht
    have dk0 : Dt K (upd H2 t (.tup [.str "name", .str x])) (.ref t) (Op.d (.name x)) := Dt.mk2 ht (.str _) (.str _)
    refine ⟨fun σ' H' => ∃ (v : V) (k : Op), σ' = [some (.ref l), some (.ref bx), some (.int d), none, some v] ∧ Ext l c H H' ∧ Dt K H' v k.d ∧ k.Ok names ∧ ((∃ w, k = .name w) ∨ ∃ w, k = .var w), ?_, ?_⟩
    · refine vTake rfl x3.pool (by decide) (by decide) fun e H3 e0 e1 x4 => ⟨rfl, _, rfl, ite2 (fun _ => ?_) (fun _ => ?_)⟩
      · have x5 := x3.trans x4
        obtain ⟨_, ps2, gs2, S2⟩ := (B.ext x5).get
        refine ⟨_, rfl, _, rfl, bx, _, rfl, gs2, l, c, ps2, sure, rfl, x5.pool, S2, fun y H4 x6 hy => ⟨two _ _, fun t2 ht2 => ?_⟩⟩
        exact ⟨_, .var y, rfl, (x5.trans x6).new P0 ht2, Dt.mk2 ht2 (.str _) (.str _), BW y hy, .inr ⟨y, rfl⟩⟩
      · exact ⟨_, .name x, rfl, x3.trans x4, dk0.ext x3.pool x4, ⟨N.wd x hx, hx⟩, .inl ⟨x, rfl⟩⟩
    · rintro σ' H' ⟨v, k, rfl, x5, dk, mk, nk⟩
      obtain ⟨_, ps2, gs2, S2⟩ := (B.ext x5).get
      refine ⟨_, rfl, _, rfl, bx, _, rfl, gs2, l, c, ps2, sure, rfl, x5.pool, S2, fun y H4 x6 hy => ⟨_, rfl, three _ _ _, fun t2 ht2 => ?_⟩⟩
      exact q _ (.has y k) _ ((x5.trans x6).new P0 ht2) (Dt.mk3 ht2 (.str _) (.str _) (dk.ext x5.pool x6)) ⟨BW y hy, mk, nk⟩
end
end PK
/-! a text times a number -/
namespace PKR
open PySem PySem.Spec PyProof.Rows L2
def repS (x : Str) (n : Nat) : Str := ⟨(List.replicate n x.cps).foldl (· ++ ·) #[]⟩
theorem fold_len : ∀ (n : Nat) (x a : Array Nat), ((List.replicate n x).foldl (· ++ ·) a).toList = a.toList ++ (List.replicate n x.toList).flatten
  | 0, x, a => by simp
  | n + 1, x, a => by
    rw [List.replicate_succ, List.foldl_cons, fold_len n x (a ++ x), List.replicate_succ, List.flatten_cons, Array.toList_append, List.append_assoc]
theorem repS_list (x : Str) (n : Nat) : (repS x n).cps.toList = (List.replicate n x.cps.toList).flatten := by
  unfold repS
  rw [fold_len]
  simp
theorem repS_one (x : Str) : repS x 1 = x := by
  refine Str.ext' (Array.toList_inj.mp ?_)
  rw [repS_list]
  simp
theorem repS_zero (x : Str) : repS x 0 = Str.empty := rfl
section
variable {X : Cx}
theorem op_repS : OpR X (binaryOp .Mult) (fun x y H Q => ∃ i n, x = .str i ∧ y = .int n ∧ 0 ≤ n ∧ n ≤ 10000 ∧ i.length ≤ 100 ∧ Q (.str (repS i n.toNat)) H) := by
  intro pins s σ H x y v u Q I rx ry h
  obtain ⟨i, n, rfl, rfl, h0, h1, hl, q⟩ := h
  obtain ⟨t, rfl⟩ := rx
  obtain ⟨t', rfl⟩ := ry
  have hm : i.length * n.toNat ≤ 100 * 10000 := Nat.mul_le_mul hl (by omega)
  refine PySem.P.mul_str ?_ (fun h2 _ => ?_) (fun h2 _ => ?_) ?_
  · rw [decide_eq_false (by omega), decide_eq_false (by omega)]; rfl
  · have : (9223372036854775807 : Int) / 10000 ≤ (2 ^ 63 - 1) / n := by
      have e : (2 : Int) ^ 63 - 1 = 9223372036854775807 := by decide
      rw [e]
      exact (Int.le_ediv_iff_mul_le (by omega)).mpr (Int.le_trans (Int.mul_le_mul_of_nonneg_left h1 (by decide)) (by decide))
    have : (9223372036854775807 : Int) / 10000 = 922337203685477 := by decide
    omega
  · exact decide_eq_false (by rw [sizeLine_eq]; omega)
  · by_cases c1 : n < 1
    · rw [if_pos c1]
      have e0 : n.toNat = 0 := by omega
      rw [e0] at q
      exact ⟨by decide, ⟨.str _, H, I.tok _, ⟨_, rfl⟩, q⟩⟩
    rw [if_neg c1]
    by_cases c2 : (n == 1 || i.length == 0) = true
    · rw [if_pos c2]
      have e : repS i n.toNat = i := by
        rcases Bool.or_eq_true_iff.mp c2 with h | h
        · rw [show n.toNat = 1 by have := beq_iff_eq.mp h; omega]; exact repS_one i
        · have hz : i.cps.toList = [] := List.length_eq_zero_iff.mp (by have := beq_iff_eq.mp h; show i.cps.toList.length = 0; rw [Array.length_toList]; exact this)
          refine Str.ext' (Array.toList_inj.mp ?_)
          rw [repS_list, hz]
          simp
      rw [e] at q
      exact ⟨.str i, H, I, ⟨_, rfl⟩, q⟩
    · rw [if_neg c2]
      have lr : (repS i n.toNat).length ≤ sizeLine := by
        have e : (repS i n.toNat).length = (repS i n.toNat).cps.toList.length := by rw [Array.length_toList]; rfl
        rw [e, repS_list, List.length_flatten, List.map_replicate, List.sum_replicate_nat, Array.length_toList, sizeLine_eq]
        have : i.cps.size = i.length := rfl
        rw [this, Nat.mul_comm]; omega
      exact ⟨lr, ⟨.str _, H, I.tok _, ⟨_, rfl⟩, q⟩⟩
end
end PKR
namespace PK
open PySem L2 TL
/-! texts in which tokens lie -/
def Opn (u : List Nat) : Prop := ∀ c ∈ u.head?, c ∉ OTH.cps.toList
/-- a text that lays tokens ahead of what does not go on with them -/
def LT (x : Str) (ts : List Tk) : Prop := ∀ u us, Opn u → Lays u us → Lays (x.cps.toList ++ u) (ts ++ us)
theorem app_list (a b : Str) : (a ++ b).cps.toList = a.cps.toList ++ b.cps.toList := by
  show (a.cps ++ b.cps).toList = _
  rw [Array.toList_append]
theorem sep_oth : ∀ c ∈ SEP.cps.toList, c ∉ OTH.cps.toList := by decide +kernel
theorem sgn_oth : ∀ c ∈ ([40, 41, 123, 125] : List Nat), c ∉ OTH.cps.toList := by decide +kernel
def Blk (b : Str) : Prop := ∀ c ∈ b.cps.toList, c ∈ SEP.cps.toList
theorem opn_blk {b : Str} {u : List Nat} (h : Blk b) (hu : Opn u) : Opn (b.cps.toList ++ u) := by
  intro c hc
  cases e : b.cps.toList with
  | nil => rw [e] at hc; exact hu c hc
  | cons x r =>
    rw [e] at hc
    have : x = c := by simpa using hc
    exact sep_oth c (h c (by rw [e, this]; exact .head _))
theorem opn_blk1 {b : Str} {u : List Nat} (h : Blk b) (h1 : 1 ≤ b.length) : Opn (b.cps.toList ++ u) := by
  intro c hc
  cases e : b.cps.toList with
  | nil => rw [len_list, e] at h1; exact absurd h1 (by decide)
  | cons x r =>
    rw [e] at hc
    have : x = c := by simpa using hc
    exact sep_oth c (h c (by rw [e, this]; exact .head _))
theorem opn_sgn {s : Nat} (h : s ∈ ([40, 41, 123, 125] : List Nat)) (u : List Nat) : Opn (s :: u) := fun c hc => by
  have : s = c := by simpa using hc
  rw [← this]; exact sgn_oth s h
theorem opn_nil : Opn [] := fun c hc => by cases hc
theorem LT.whole {x : Str} {ts : List Tk} (h : LT x ts) : Lays x.cps.toList ts := by
  have := h [] [] opn_nil lays_nil
  rwa [List.append_nil, List.append_nil] at this
theorem LT.pre {b x : Str} {ts : List Tk} (hb : Blk b) (h : LT x ts) : LT (b ++ x) ts := fun u us hu l => by
  rw [app_list, List.append_assoc]
  exact lays_seps hb (h u us hu l)
theorem LT.post {b x : Str} {ts : List Tk} (hb : Blk b) (h : LT x ts) : LT (x ++ b) ts := fun u us hu l => by
  rw [app_list, List.append_assoc]
  exact h _ us (opn_blk hb hu) (lays_seps hb l)
theorem LT.cat {a b c : Str} {s t : List Tk} (ha : LT a s) (hb : Blk b) (h1 : 1 ≤ b.length) (hc : LT c t) : LT (a ++ (b ++ c)) (s ++ t) := fun u us hu l => by
  rw [app_list, app_list, List.append_assoc, List.append_assoc, List.append_assoc]
  exact ha _ _ (opn_blk1 hb h1) (lays_seps hb (hc u us hu l))
theorem lt_sign {s : Nat} (h : s ∈ ([40, 41, 123, 125] : List Nat)) {x : Str} (hx : x.cps.toList = [s]) {y : Str} {ts : List Tk} (hy : LT y ts) : LT (x ++ y) (.sg x :: ts) := fun u us hu l => by
  rw [app_list, List.append_assoc, hx]
  have := lays_tok (piece_sign h) (u := y.cps.toList ++ u) (fun _ _ => trivial) (hy u us hu l)
  rwa [tok_sign s h, show mkS [s] = x by rw [← hx, mk'_of]] at this
theorem lt_end {s : Nat} (h : s ∈ ([40, 41, 123, 125] : List Nat)) {x : Str} (hx : x.cps.toList = [s]) {y : Str} {ts : List Tk} (hy : LT y ts) : LT (y ++ x) (ts ++ [.sg x]) := fun u us hu l => by
  rw [app_list, List.append_assoc, List.append_assoc]
  refine hy _ _ (by rw [hx]; exact opn_sgn h u) ?_
  rw [hx]
  have := lays_tok (piece_sign h) (u := u) (fun _ _ => trivial) l
  rwa [tok_sign s h, show mkS [s] = x by rw [← hx, mk'_of]] at this
theorem lt_word {w : Str} (h : Wd w) : LT w [.word w] := fun u us hu l => by
  obtain ⟨s, r, e, hs⟩ := h.hd
  have ho := h.al
  rw [e] at ho
  have := lays_tok (piece_word (.inr hs) (fun x hx => ho x (.tail _ hx))) hu l
  rw [← e, tok_word h] at this
  exact this
theorem pre_list {p : Str} {c : Nat} (hp : p.cps.toList = [c]) (w : Str) : (p ++ w).cps.toList = c :: w.cps.toList := by rw [app_list, hp]; rfl
theorem lt_name {w : Str} (h : Wd w) : LT ("'" ++ w) [.name w] := fun u us hu l => by
  rw [pre_list (by decide +kernel : ("'" : Str).cps.toList = [39])]
  have := lays_tok (piece_word (.inl (by decide +kernel : 39 ∈ ("'$" : Str).cps.toList)) h.al) hu l
  rwa [tok_name h] at this
theorem lt_var {w : Str} (h : Wd w) : LT ("$" ++ w) [.var w] := fun u us hu l => by
  rw [pre_list (by decide +kernel : ("$" : Str).cps.toList = [36])]
  have := lays_tok (piece_word (.inl (by decide +kernel : 36 ∈ ("'$" : Str).cps.toList)) h.al) hu l
  rwa [tok_var h] at this
theorem opn_dig {u : List Nat} (h : Opn u) : ∀ c ∈ u.head?, c ∉ DIGS.cps.toList := fun c hc z => h c hc (dig_oth c z)
abbrev txt (n : Int) : Str := Str.ofString (toString n)
theorem txt_nat (n : Nat) : (txt (n : Nat)).cps.toList = numL n := tl_num n
theorem txt_neg {n : Nat} (h : 0 < n) : (txt (-(n : Int))).cps.toList = 45 :: numL n := by
  show (Str.ofString (toString (-(n : Int)))).cps.toList = _
  rw [PyProof.Rows.toString_neg (by omega), PyProof.Rows.signs_ofString, show (0 : Int) - -(n : Int) = (n : Nat) by omega, String.toList_append, List.map_append]
  rw [show List.map Char.toNat (toString ((n : Nat) : Int)).toList = numL n from (PyProof.Rows.signs_ofString _).symm.trans (tl_num n)]
  rfl
theorem lt_int {n : Int} (h : -(10 ^ 15) < n ∧ n < 10 ^ 15) : LT (txt n) [.int n] := fun u us hu l => by
  by_cases h0 : 0 ≤ n
  · obtain ⟨m, rfl⟩ : ∃ m : Nat, n = m := ⟨n.toNat, by omega⟩
    rw [txt_nat]
    have hd := all_dig (numL_digits m)
    cases e : numL m with
    | nil => exact absurd e (numL_ne m)
    | cons a r =>
      rw [e] at hd
      have := lays_tok (piece_num (.inr (hd a (.head _))) (fun x hx => hd x (.tail _ hx))) (opn_dig hu) l
      rw [← e, tok_nat (by omega)] at this
      rw [← e]
      exact this
  · obtain ⟨m, rfl⟩ : ∃ m : Nat, n = -(m : Int) := ⟨(-n).toNat, by omega⟩
    rw [txt_neg (by omega)]
    have := lays_tok (piece_num (.inl (by decide +kernel : 45 ∈ ("-@" : Str).cps.toList)) (all_dig (numL_digits m))) (opn_dig hu) l
    rwa [tok_neg (by omega) (by omega)] at this
theorem lt_addr {n : Int} (h : 0 ≤ n ∧ n < 10 ^ 9) : LT ("@" ++ txt n) [.addr n] := fun u us hu l => by
  obtain ⟨m, rfl⟩ : ∃ m : Nat, n = m := ⟨n.toNat, by omega⟩
  rw [pre_list (by decide +kernel : ("@" : Str).cps.toList = [64]), txt_nat]
  have := lays_tok (piece_num (.inl (by decide +kernel : 64 ∈ ("-@" : Str).cps.toList)) (all_dig (numL_digits m))) (opn_dig hu) l
  rwa [tok_addr (by omega)] at this
theorem txt_len {n : Int} (h : -(10 ^ 15) < n ∧ n < 10 ^ 15) : (txt n).length ≤ 16 := by
  by_cases h0 : 0 ≤ n
  · obtain ⟨m, rfl⟩ : ∃ m : Nat, n = m := ⟨n.toNat, by omega⟩
    rw [len_list, txt_nat]
    have := numL_len (n := m) (k := 15) (by decide) (by omega)
    omega
  · obtain ⟨m, rfl⟩ : ∃ m : Nat, n = -(m : Int) := ⟨(-n).toNat, by omega⟩
    rw [len_list, txt_neg (by omega), List.length_cons]
    have := numL_len (n := m) (k := 15) (by decide) (by omega)
    omega
theorem log_small {n : Int} (h : -(10 ^ 15) < n ∧ n < 10 ^ 15) : n.natAbs.log2 < 1920 := by
  by_cases z : n.natAbs = 0
  · rw [z]; decide
  · refine (Nat.log2_lt z).mpr (Nat.lt_of_lt_of_le (m := 2 ^ 64) (by omega) (Nat.pow_le_pow_right (by decide) (by decide)))
/-! tokens of operands and conditions -/
def Op.tk : Op → List Tk
  | .int n => [.int n]
  | .name w => [.name w]
  | .addr n => [.addr n]
  | .var w => [.var w]
  | .sum w n => [.sg "(", .word "plus", .var w, .int n, .sg ")"]
def Cd.tk : Cd → List Tk
  | .one h x => [.sg "(", .word h, .var x, .sg ")"]
  | .two h a b => .sg "(" :: .word h :: (a.tk ++ b.tk ++ [.sg ")"])
  | .has x k => .sg "(" :: .word "has" :: .var x :: (k.tk ++ [.sg ")"])
inductive Cn where
  | pl (c : Cd)
  | no (c : Cd)
def Cn.d : Cn → PyData
  | .pl c => c.d
  | .no c => .tuple [.str "not", c.d]
def Cn.tk : Cn → List Tk
  | .pl c => c.tk
  | .no c => .sg "(" :: .word "not" :: (c.tk ++ [.sg ")"])
def Cn.Ok (names : List Str) : Cn → Prop
  | .pl c => c.Ok names
  | .no c => c.Ok names
def spBlank : Sp := fun vs H Q _ => ∃ (l c : Addr) (k : Nat), vs = [.ref l, .int (k : Nat)] ∧ Pool H l c ∧ k ≤ 1 ∧ ∀ (x : Str) (H' : Hp), Ext l c H H' → Blk x → k ≤ x.length → x.length ≤ 3 → Q (.str x) H'
def spOpText (K : PySem.W.Frag) : Sp := fun vs H Q _ => ∃ (l c : Addr) (v : V) (o : Op) (names : List Str), vs = [.ref l, v] ∧ Pool H l c ∧ Dt K H v o.d ∧ o.Ok names ∧ ∀ (x : Str) (H' : Hp), Ext l c H H' → LT x o.tk → x.length ≤ 100 → Q (.str x) H'
section
variable {P : Program} {w : World} {K : PySem.W.Frag} {mg : Str → Option Value} {base : Heap}
abbrev s_law_blank : Stmt := topS 48
theorem sc_law_blank : FnScope ["pool", "least", "found", "k"] ["pool", "least"] (defScope s_law_blank) := ⟨rfl, rfl, rfl, by decide +kernel, rfl, by decide +kernel, by decide +kernel⟩
-- slots: 0:pool 1:least 2:found 3:k
abbrev s_law_operand_text : Stmt := topS 49
theorem sc_law_operand_text : FnScope ["pool", "operand", "head", "first"] ["pool", "operand"] (defScope s_law_operand_text) := ⟨rfl, rfl, rfl, by decide +kernel, rfl, by decide +kernel, by decide +kernel⟩
-- slots: 0:pool 1:operand 2:head 3:first
theorem ok_blank {f : Addr} {fd : FuncData} (F : Fun K "_law_blank" "_law_blank" s_law_blank f fd) (T : Txt K mg) (C_law_take : C8.Cal P w K mg base 2 "_law_take" (spTake 2) []) : FnOk P w K mg base CX0 3 f fd ["pool", "least"] spBlank := by
  refine F.ok sc_law_blank (fun vs H Q E h => ?_) (fun cdv A outer s H vs Q E hr h => ?_)
  · obtain ⟨_, _, _, rfl, _⟩ := h
    rfl
  obtain ⟨l, c, k, rfl, P0, hk, q⟩ := h
  refine ⟨_, (pss_cons (ps_set (i := 2) sc_law_blank.nd rfl (Or.inl rfl) (pe_op PKR.op_repS pe_str (pv 1)))
    (pss_cons (ps_for PassesOwn.never rfl (pi_range1 (by rfl) T.z_range (pa_cons (C8.pe_c C_law_take hr (by decide) rfl (pa_cons (pv 0) (pa_cons pe_int pa_nil))) pa_nil)) (pg_name (i := 3) sc_law_blank.nd rfl (Or.inl rfl)) (pss_one (ps_set (i := 2) sc_law_blank.nd rfl (Or.inl rfl) (pe_op op_add_str (pv 2) (pe_ix ix_tup (pe_tup (pa_cons pe_str (pa_cons pe_str pa_nil))) (C8.pe_c C_law_take hr (by decide) rfl (pa_cons (pv 0) (pa_cons pe_int pa_nil))) (fun _ _ => rfl))))))
    (pss_one (ps_ret (pv 2))))), ?_⟩
  refine ⟨_, rfl, _, _, rfl, rfl, by omega, by omega, by decide, ?_⟩
  have h1 : Blk (PKR.repS " " ((k : Int).toNat)) ∧ (PKR.repS " " ((k : Int).toNat)).length = k := by
    rcases (by omega : k = 0 ∨ k = 1) with rfl | rfl
    · refine ⟨?_, rfl⟩; show ∀ c ∈ (PKR.repS " " 0).cps.toList, c ∈ SEP.cps.toList; decide +kernel
    · refine ⟨?_, rfl⟩; show ∀ c ∈ (PKR.repS " " 1).cps.toList, c ∈ SEP.cps.toList; decide +kernel
  generalize PKR.repS " " ((k : Int).toNat) = b0 at h1
  refine vTake rfl P0 (by decide) (by decide) fun d H1 d0 d3 x1 => ⟨d, rfl, by omega, by omega, for_range (n := d.toNat) (fun i σ H' => ∃ (b : Str) (z : Option V), σ = [some (.ref l), some (.int (k : Nat)), some (.str b), z] ∧ Ext l c H H' ∧ Blk b ∧ b.length = k + i) ?_ ?_ ?_⟩
  · exact ⟨b0, none, rfl, x1, h1.1, h1.2⟩
  · rintro i σ H' hi ⟨b, z, rfl, x, hb, hl⟩
    refine ⟨_, rfl, small (by show 2 ≤ _; decide), fun p hp => ?_⟩
    have x2 := x.new (o := .tup [.str " ", .str "\n"]) P0 hp
    refine vTake rfl x2.pool (by decide) (by decide) fun e H4 e0 e2 x3 => ?_
    have hs : SqT K H4 p [.str " ", .str "\n"] := x3.seqT x2.pool (SqT.of upd_same)
    obtain ⟨s, hs1, hs2⟩ : ∃ s : Str, atI [V.str " ", .str "\n"] e = some (.str s) ∧ Blk s ∧ s.length = 1 := by
      rcases (by omega : e = 0 ∨ e = 1) with rfl | rfl
      · exact ⟨" ", rfl, by show ∀ c ∈ (" " : Str).cps.toList, c ∈ SEP.cps.toList; decide +kernel, by decide +kernel⟩
      · exact ⟨"\n", rfl, by show ∀ c ∈ ("\n" : Str).cps.toList, c ∈ SEP.cps.toList; decide +kernel, by decide +kernel⟩
    refine ⟨p, _, _, _, rfl, rfl, hs, hs1, _, _, rfl, rfl, small (by omega), b ++ s, _, rfl, x2.trans x3, ?_, by rw [Str.length_append]; omega⟩
    intro c hc
    rw [app_list] at hc
    rcases List.mem_append.mp hc with h | h
    · exact hb c h
    · exact hs2.1 c h
  · rintro σ H' ⟨b, z, rfl, x, hb, hl⟩
    exact ⟨_, rfl, q b H' x hb (by omega) (by omega)⟩
theorem wd_plus : Wd "plus" := Wd.of (s := 112) (r := [108, 117, 115]) (by decide +kernel) (by decide +kernel) (by show ∀ c ∈ _, c ∈ OTH.cps.toList; decide +kernel) (by decide)
theorem lt_sum {w : Str} {n : Int} (hw : Wd w) (hn : -(10 ^ 15) < n ∧ n < 10 ^ 15) {b1 b2 b3 b4 : Str} (h1 : Blk b1) (h2 : Blk b2) (h3 : Blk b3) (l3 : 1 ≤ b3.length) (h4 : Blk b4) :
    LT (((((((("(" ++ b1) ++ "plus") ++ b2) ++ "$") ++ w) ++ b3) ++ txt n) ++ b4 ++ ")") (Op.tk (.sum w n)) := fun u us hu l => by
  have p := lt_end (s := 41) (by decide) (by decide +kernel : (")" : Str).cps.toList = [41]) ((LT.post h4 (lt_int hn)))
  have q1 := LT.cat (lt_var hw) h3 l3 p
  have e1 : (36 :: w.cps.toList) = ("$" : Str).cps.toList ++ w.cps.toList := rfl
  have q2 : LT ("plus" ++ (b2 ++ ("$" ++ w ++ (b3 ++ (txt n ++ b4 ++ ")"))))) (.word "plus" :: ([.var w] ++ ([.int n] ++ [.sg ")"]))) := fun u us hu l => by
    rw [app_list, List.append_assoc]
    refine lt_word wd_plus _ _ ?_ ((LT.pre h2 q1) u us hu l)
    rw [app_list, List.append_assoc]
    refine opn_blk h2 ?_
    intro c hc
    rw [app_list, app_list] at hc
    have : (36 : Nat) = c := by simpa [show ("$" : Str).cps.toList = [36] by decide +kernel] using hc
    rw [← this]; decide +kernel
  have q3 := lt_sign (s := 40) (by decide) (by decide +kernel : ("(" : Str).cps.toList = [40]) (LT.pre h1 q2)
  have := q3 u us hu l
  rw [show Op.tk (.sum w n) = .sg "(" :: .word "plus" :: ([.var w] ++ ([.int n] ++ [.sg ")"])) from rfl]
  simpa only [app_list, List.append_assoc] using this
theorem ok_optext {f : Addr} {fd : FuncData} (F : Fun K "_law_operand_text" "_law_operand_text" s_law_operand_text f fd) (T : Txt K mg) (C_law_blank : C8.Cal P w K mg base 3 "_law_blank" spBlank []) : FnOk P w K mg base CX0 4 f fd ["pool", "operand"] (spOpText K) := by
  refine F.ok sc_law_operand_text (fun vs H Q E h => ?_) (fun cdv A outer s H vs Q E hr h => ?_)
  · obtain ⟨_, _, _, _, _, rfl, _⟩ := h
    rfl
  obtain ⟨l, c, v, o, names, rfl, P0, dv, ok, q⟩ := h
  refine ⟨_, (pss_cons (ps_set (i := 2) sc_law_operand_text.nd rfl (Or.inl rfl) (pe_ix ix_tup (pv 1) pe_int (fun _ _ => rfl)))
    (pss_cons (ps_if (pt_cmpR op_eq (pv 2) pe_str (nomark _)) (pss_one (ps_ret (pe_callTy call_str_int (by rfl) T.z_str (by decide +kernel) (pa_cons (pe_ix ix_tup (pv 1) pe_int (fun _ _ => rfl)) pa_nil)))) pss_nil)
    (pss_cons (ps_if (pt_cmpR op_eq (pv 2) pe_str (nomark _)) (pss_one (ps_ret (pe_op op_add_str pe_str (pe_ix ix_tup (pv 1) pe_int (fun _ _ => rfl))))) pss_nil)
    (pss_cons (ps_if (pt_cmpR op_eq (pv 2) pe_str (nomark _)) (pss_one (ps_ret (pe_op op_add_str pe_str (pe_callTy call_str_int (by rfl) T.z_str (by decide +kernel) (pa_cons (pe_ix ix_tup (pv 1) pe_int (fun _ _ => rfl)) pa_nil))))) pss_nil)
    (pss_cons (ps_if (pt_cmpR op_eq (pv 2) pe_str (nomark _)) (pss_one (ps_ret (pe_op op_add_str pe_str (pe_ix ix_tup (pv 1) pe_int (fun _ _ => rfl))))) pss_nil)
    (pss_cons (ps_set (i := 3) sc_law_operand_text.nd rfl (Or.inl rfl) (pe_op op_add_str (pe_op op_add_str (pe_op op_add_str (pe_op op_add_str (pe_op op_add_str pe_str (C8.pe_c C_law_blank hr (by decide) rfl (pa_cons (pv 0) (pa_cons pe_int pa_nil)))) pe_str) (C8.pe_c C_law_blank hr (by decide) rfl (pa_cons (pv 0) (pa_cons pe_int pa_nil)))) pe_str) (pe_ix ix_tup (pv 1) pe_int (fun _ _ => rfl))))
    (pss_one (ps_ret (pe_op op_add_str (pe_op op_add_str (pe_op op_add_str (pe_op op_add_str (pv 3) (C8.pe_c C_law_blank hr (by decide) rfl (pa_cons (pv 0) (pa_cons pe_int pa_nil)))) (pe_callTy call_str_int (by rfl) T.z_str (by decide +kernel) (pa_cons (pe_ix ix_tup (pv 1) pe_int (fun _ _ => rfl)) pa_nil))) (C8.pe_c C_law_blank hr (by decide) rfl (pa_cons (pv 0) (pa_cons pe_int pa_nil)))) pe_str))))))))), ?_⟩
  have x0 := Ext.refl P0
  have len1 : ∀ (a b : Str) (m n : Nat), a.length ≤ m → b.length ≤ n → (a ++ b).length ≤ m + n := fun a b m n ha hb => by rw [Str.length_append]; omega
  cases o with
  | int n =>
    have dv' : Dt K H v (.tuple [.str "int", .int n]) := dv
    obtain ⟨a, x1, x2, rfl, hs, d1, d2⟩ := Dt.t2 dv'
    obtain rfl := d1.s
    obtain rfl := d2.i
    have := txt_len ok
    exact vTx rfl hs rfl ⟨_, rfl, rfl, _, rfl, sT rfl (vTx rfl hs rfl ⟨_, rfl, log_small ok, q _ H x0 (lt_int ok) (by show (txt n).length ≤ _; omega)⟩)⟩
  | name w =>
    have dv' : Dt K H v (.tuple [.str "name", .str w]) := dv
    obtain ⟨a, x1, x2, rfl, hs, d1, d2⟩ := Dt.t2 dv'
    obtain rfl := d1.s
    obtain rfl := d2.s
    have lw := ok.1.hi
    have l1 : ("'" : Str).length = 1 := by decide +kernel
    refine vTx rfl hs rfl ⟨_, rfl, rfl, _, rfl, sF (by decide +kernel) ⟨_, rfl, rfl, _, rfl, sT rfl (vTx rfl hs rfl ⟨_, _, rfl, rfl, small (by omega), ?_⟩)⟩⟩
    exact q _ H x0 (lt_name ok.1) (by rw [Str.length_append]; omega)
  | addr n =>
    have dv' : Dt K H v (.tuple [.str "addr", .int n]) := dv
    obtain ⟨a, x1, x2, rfl, hs, d1, d2⟩ := Dt.t2 dv'
    obtain rfl := d1.s
    obtain rfl := d2.i
    have b15 : -(10 ^ 15) < n ∧ n < 10 ^ 15 := ⟨by have := ok.1; omega, by have := ok.2; omega⟩
    have lw := txt_len b15
    have l1 : ("@" : Str).length = 1 := by decide +kernel
    refine vTx rfl hs rfl ⟨_, rfl, rfl, _, rfl, sF (by decide +kernel) ⟨_, rfl, rfl, _, rfl, sF (by decide +kernel) ⟨_, rfl, rfl, _, rfl, sT rfl (vTx rfl hs rfl ⟨_, rfl, log_small b15, _, _, rfl, rfl, small (by show _ + (txt n).length ≤ _; omega), ?_⟩)⟩⟩⟩
    exact q _ H x0 (lt_addr ok) (by rw [Str.length_append]; show _ + (txt n).length ≤ _; omega)
  | var w =>
    have dv' : Dt K H v (.tuple [.str "meta", .str w]) := dv
    obtain ⟨a, x1, x2, rfl, hs, d1, d2⟩ := Dt.t2 dv'
    obtain rfl := d1.s
    obtain rfl := d2.s
    have lw := Wd.hi ok
    have l1 : ("$" : Str).length = 1 := by decide +kernel
    refine vTx rfl hs rfl ⟨_, rfl, rfl, _, rfl, sF (by decide +kernel) ⟨_, rfl, rfl, _, rfl, sF (by decide +kernel) ⟨_, rfl, rfl, _, rfl, sF (by decide +kernel) ⟨_, rfl, rfl, _, rfl, sT rfl (vTx rfl hs rfl ⟨_, _, rfl, rfl, small (by omega), ?_⟩)⟩⟩⟩⟩
    exact q _ H x0 (lt_var ok) (by rw [Str.length_append]; omega)
  | sum w n =>
    have dv' : Dt K H v (.tuple [.str "sum", .str w, .int n]) := dv
    obtain ⟨a, x1, x2, x3, rfl, hs, d1, d2, d3⟩ := Dt.t3 dv'
    obtain rfl := d1.s
    obtain rfl := d2.s
    obtain rfl := d3.i
    obtain ⟨hw, n0, n1, n2⟩ := ok
    have lw := hw.hi
    have b15 : -(10 ^ 15) < n ∧ n < 10 ^ 15 := ⟨by omega, by omega⟩
    have ln := txt_len b15
    refine vTx rfl hs rfl ⟨_, rfl, rfl, _, rfl, sF (by decide +kernel) ⟨_, rfl, rfl, _, rfl, sF (by decide +kernel) ⟨_, rfl, rfl, _, rfl, sF (by decide +kernel) ⟨_, rfl, rfl, _, rfl, sF (by decide +kernel) ?_⟩⟩⟩⟩
    refine ⟨_, rfl, l, c, 0, rfl, P0, by omega, fun b1 H1 y1 hb1 _ lb1 => ?_⟩
    have l1 : ("(" : Str).length = 1 := by decide +kernel
    have l2 : ("plus" : Str).length = 4 := by decide +kernel
    have l3 : ("$" : Str).length = 1 := by decide +kernel
    have l4 : (")" : Str).length = 1 := by decide +kernel
    refine ⟨_, _, rfl, rfl, small (by omega), _, _, rfl, rfl, small (by rw [Str.length_append]; omega), ?_⟩
    refine ⟨_, rfl, l, c, 0, rfl, y1.pool, by omega, fun b2 H2 y2 hb2 _ lb2 => ?_⟩
    refine ⟨_, _, rfl, rfl, small (by rw [Str.length_append, Str.length_append]; omega), _, _, rfl, rfl, small (by rw [Str.length_append, Str.length_append, Str.length_append]; omega), ?_⟩
    have k2 := y1.trans y2
    refine vTx rfl (k2.seqT P0 hs) rfl ⟨_, _, rfl, rfl, small (by rw [Str.length_append, Str.length_append, Str.length_append, Str.length_append]; omega), ?_⟩
    refine ⟨_, rfl, _, rfl, l, c, 1, rfl, k2.pool, by omega, fun b3 H3 y3 hb3 m3 lb3 => ?_⟩
    have k3 := k2.trans y3
    have sz : ∀ {x : Str} {k : Nat}, x.length = k → k ≤ 16777216 → x.length ≤ sizeLine := fun e h => small (by omega)
    refine ⟨_, _, rfl, rfl, small (by simp only [Str.length_append]; omega), vTx rfl (k3.seqT P0 hs) rfl ⟨_, rfl, log_small b15, ?_⟩⟩
    refine ⟨_, _, rfl, rfl, small (by simp only [Str.length_append]; show _ + (txt n).length ≤ _; omega), ?_⟩
    refine ⟨_, rfl, l, c, 0, rfl, k3.pool, by omega, fun b4 H4 y4 hb4 _ lb4 => ?_⟩
    refine ⟨_, _, rfl, rfl, small (by simp only [Str.length_append]; have : (Str.ofString (toString n)).length ≤ 16 := ln; omega), _, _, rfl, rfl, small (by simp only [Str.length_append]; have : (Str.ofString (toString n)).length ≤ 16 := ln; omega), ?_⟩
    refine q _ H4 (k3.trans y4) ?_ (by simp only [Str.length_append]; have : (Str.ofString (toString n)).length ≤ 16 := ln; omega)
    have := lt_sum hw b15 hb1 hb2 hb3 m3 hb4
    exact this
end
end PK
namespace PK
open PySem L2 TL
theorem wd_of_is {x : Str} (h : isWd x = true) : Wd x := by
  unfold isWd at h
  simp only [Bool.and_eq_true, decide_eq_true_eq, List.all_eq_true] at h
  obtain ⟨⟨h1, h2⟩, h3, h4⟩ := h
  have en := len_list x
  cases e : x.cps.toList with
  | nil => rw [e] at en; simp at en; omega
  | cons s r =>
    refine ⟨h1, h2, ⟨s, r, e, ?_⟩, fun z hz => h4 z hz⟩
    rw [e] at h3
    exact h3
theorem wd_heads : ∀ h ∈ HEADS ++ EL ++ (["has", "not"] : List Str), Wd h := by
  have : ∀ h ∈ HEADS ++ EL ++ (["has", "not"] : List Str), isWd h = true := by decide +kernel
  exact fun h hh => wd_of_is (this h hh)
inductive Pt where
  | ss (w : Str)
  | oo (p : Op)
  | cc (p : Cd)
def Pt.d : Pt → PyData
  | .ss w => .str w
  | .oo p => p.d
  | .cc p => p.d
def Pt.tk : Pt → List Tk
  | .ss w => [.var w]
  | .oo p => p.tk
  | .cc p => p.tk
def Cn.head : Cn → Str
  | .pl (.one h _) => h
  | .pl (.two h _ _) => h
  | .pl (.has _ _) => "has"
  | .no _ => "not"
def Cn.parts : Cn → List Pt
  | .pl (.one _ x) => [.ss x]
  | .pl (.two _ a b) => [.oo a, .oo b]
  | .pl (.has x k) => [.ss x, .oo k]
  | .no c => [.cc c]
def Cn.m : Cn → Nat
  | .pl _ => 100
  | .no _ => 250
def Cn.M : Cn → Nat
  | .pl _ => 250
  | .no _ => 300
def Pt.Ok (names : List Str) : Pt → Prop
  | .ss w => Wd w
  | .oo p => p.Ok names
  | .cc p => p.Ok names
theorem Cn.d_eq (c : Cn) : c.d = .tuple (.str c.head :: c.parts.map Pt.d) := by
  cases c with
  | no c => rfl
  | pl c => cases c <;> rfl
theorem Cn.tk_eq (c : Cn) : c.tk = .sg "(" :: .word c.head :: ((c.parts.map Pt.tk).flatten ++ [.sg ")"]) := by
  cases c with
  | no c => simp [Cn.tk, Cn.head, Cn.parts, Pt.tk]
  | pl c => cases c <;> simp [Cn.tk, Cd.tk, Cn.head, Cn.parts, Pt.tk]
theorem Cn.head_wd {names : List Str} {c : Cn} (ok : c.Ok names) : Wd c.head := by
  cases c with
  | no c => exact wd_heads "not" (by decide +kernel)
  | pl c =>
    cases c with
    | one h x => exact wd_heads h (List.mem_append_left _ (List.mem_append_left _ ok.1))
    | two h a b => exact wd_heads h (List.mem_append_left _ (List.mem_append_right _ ok.1))
    | has x k => exact wd_heads "has" (by decide +kernel)
theorem Cn.parts_ok {names : List Str} {c : Cn} (ok : c.Ok names) : ∀ p ∈ c.parts, p.Ok names := by
  cases c with
  | no c => intro p hp; rw [List.mem_singleton.mp hp]; exact ok
  | pl c =>
    cases c with
    | one h x => intro p hp; rw [List.mem_singleton.mp hp]; exact ok.2
    | two h a b =>
      intro p hp
      rcases List.mem_cons.mp hp with e | e
      · rw [e]; exact ok.2.1
      · rw [List.mem_singleton.mp e]; exact ok.2.2
    | has x k =>
      intro p hp
      rcases List.mem_cons.mp hp with e | e
      · rw [e]; exact ok.1
      · rw [List.mem_singleton.mp e]; exact ok.2.1
theorem Cn.parts_len (c : Cn) : 20 + c.parts.length * (3 + c.m) ≤ c.M ∧ c.parts.length ≤ 2 ∧ c.M ≤ 300 ∧ c.m ≤ 250 := by
  cases c with
  | no c => show 20 + 1 * 253 ≤ 300 ∧ 1 ≤ 2 ∧ 300 ≤ 300 ∧ 250 ≤ 250; decide
  | pl c =>
    cases c with
    | one h x => show 20 + 1 * 103 ≤ 250 ∧ 1 ≤ 2 ∧ 250 ≤ 300 ∧ 100 ≤ 250; decide
    | two h a b => show 20 + 2 * 103 ≤ 250 ∧ 2 ≤ 2 ∧ 250 ≤ 300 ∧ 100 ≤ 250; decide
    | has x k => show 20 + 2 * 103 ≤ 250 ∧ 2 ≤ 2 ∧ 250 ≤ 300 ∧ 100 ≤ 250; decide
theorem Cn.not_pl (c : Cd) {names : List Str} (ok : c.Ok names) : (Cn.pl c).head ≠ "not" := by
  have key : ∀ h ∈ HEADS ++ EL ++ (["has"] : List Str), h ≠ "not" := by decide +kernel
  cases c with
  | one h x => exact key h (List.mem_append_left _ (List.mem_append_left _ ok.1))
  | two h a b => exact key h (List.mem_append_left _ (List.mem_append_right _ ok.1))
  | has x k => exact key "has" (by decide +kernel)
theorem Cn.part_cc {cn : Cn} {i : Nat} {c : Cd} (h : cn.parts[i]? = some (.cc c)) : cn = .no c := by
  cases cn with
  | no c' =>
    have := List.mem_of_getElem? h
    have := List.mem_singleton.mp this
    cases this; rfl
  | pl c' =>
    have hm := List.mem_of_getElem? h
    cases c' with
    | one h x => have := List.mem_singleton.mp hm; cases this
    | two h a b =>
      rcases List.mem_cons.mp hm with e | e
      · cases e
      · have := List.mem_singleton.mp e; cases this
    | has x k =>
      rcases List.mem_cons.mp hm with e | e
      · cases e
      · have := List.mem_singleton.mp e; cases this
theorem Cn.part_pl {cn : Cn} {i : Nat} {p : Pt} (h : cn.parts[i]? = some p) (hp : ∀ c, p ≠ .cc c) : ∃ c, cn = .pl c := by
  cases cn with
  | no c' =>
    have := List.mem_of_getElem? h
    exact absurd (List.mem_singleton.mp this) (hp c')
  | pl c' => exact ⟨c', rfl⟩
def Laid (m : Nat) : List Str → List Pt → Prop
  | [], [] => True
  | x :: xs, p :: ps => (LT x p.tk ∧ x.length ≤ m) ∧ Laid m xs ps
  | _, _ => False
theorem Laid.snoc {m : Nat} {x : Str} {p : Pt} (h : LT x p.tk) (hl : x.length ≤ m) : ∀ {xs : List Str} {ps : List Pt}, Laid m xs ps → Laid m (xs ++ [x]) (ps ++ [p])
  | [], [], _ => ⟨⟨h, hl⟩, trivial⟩
  | [], _ :: _, z => z.elim
  | _ :: _, [], z => z.elim
  | _ :: _, _ :: _, ⟨a, r⟩ => ⟨a, Laid.snoc h hl r⟩
theorem Laid.len {m : Nat} : ∀ {xs : List Str} {ps : List Pt}, Laid m xs ps → xs.length = ps.length
  | [], [], _ => rfl
  | [], _ :: _, z => z.elim
  | _ :: _, [], z => z.elim
  | _ :: _, _ :: _, ⟨a, r⟩ => by rw [List.length_cons, List.length_cons, r.len]
theorem Laid.get {m : Nat} : ∀ {xs : List Str} {ps : List Pt} {i : Nat} {x : Str}, Laid m xs ps → xs[i]? = some x → ∃ p, ps[i]? = some p ∧ LT x p.tk ∧ x.length ≤ m
  | [], [], _, _, _, e => by simp at e
  | [], _ :: _, _, _, z, _ => z.elim
  | _ :: _, [], _, _, z, _ => z.elim
  | _ :: _, p :: _, 0, _, ⟨a, r⟩, e => by simp at e; subst e; exact ⟨p, rfl, a⟩
  | _ :: _, _ :: _, i + 1, _, ⟨a, r⟩, e => by
    obtain ⟨p, h1, h2⟩ := Laid.get (i := i) r (by simpa using e)
    exact ⟨p, by simpa using h1, h2⟩
def spText (K : PySem.W.Frag) (n : Nat) : Sp := fun vs H Q _ => ∃ (l c : Addr) (v : V) (cn : Cn) (names : List Str), vs = [.ref l, v] ∧ Pool H l c ∧ Dt K H v cn.d ∧ cn.Ok names ∧ (2 ≤ n ∨ (1 ≤ n ∧ ∃ c, cn = .pl c)) ∧
  ∀ (x : Str) (H' : Hp), Ext l c H H' → LT x cn.tk → x.length ≤ cn.M → Q (.str x) H'
section
variable {P : Program} {w : World} {K : PySem.W.Frag} {mg : Str → Option Value} {base : Heap}
abbrev s_law_text : Stmt := topS 50
theorem sc_law_text : FnScope ["pool", "condition", "row", "part", "text"] ["pool", "condition"] (defScope s_law_text) := ⟨rfl, rfl, rfl, by decide +kernel, rfl, by decide +kernel, by decide +kernel⟩
-- slots: 0:pool 1:condition 2:row 3:part 4:text
theorem ok_text {n : Nat} {f : Addr} {fd : FuncData} (F : Fun K "_law_text" "_law_text" s_law_text f fd) (T : Txt K mg) (C_law_blank : C8.Cal P w K mg base 3 "_law_blank" spBlank []) (C_law_operand_text : C8.Cal P w K mg base 4 "_law_operand_text" (spOpText K) [])
    (C_law_text : C8.Cal P w K mg base (n + 4) "_law_text" (spText K n) []) : FnOk P w K mg base CX0 (n + 5) f fd ["pool", "condition"] (spText K (n + 1)) := by
  refine F.ok sc_law_text (fun vs H Q E h => ?_) (fun cdv A outer s H vs Q E hr h => ?_)
  · obtain ⟨_, _, _, _, _, rfl, _⟩ := h
    rfl
  obtain ⟨l, c, v, cn, names, rfl, P0, dv, ok, hlev, q⟩ := h
  have hk : n + 4 ≤ n + 4 := Nat.le_refl _
  refine ⟨_, (pss_cons (ps_set (i := 2) sc_law_text.nd rfl (Or.inl rfl) (pe_lst (pa_cons (pe_ix ix_tup (pv 1) pe_int (fun _ _ => rfl)) pa_nil)))
    (C8.pss_cut (ps_for PassesOwn.never rfl (pi_tup (pe_slice sl_tup (pv 1) (po_some pe_int) po_none)) (pg_name (i := 3) sc_law_text.nd rfl (Or.inl rfl)) (pss_one (ps_if (pt_val (pe_callB call_isi (by rfl) T.z_isinstance (by decide +kernel) (pa_cons (pv 3) (pa_cons (pe_bltn (v := .ty "str") (by rfl) T.z_str (by decide +kernel) rfl) pa_nil)))) (pss_one (ps_expr (pe_bm PySem.F.plainAttrs_list PySem.F.slot_list_append PySem.F.type_list_append mt_append (pv 2) (pa_cons (pe_op op_add_str pe_str (pv 3)) pa_nil)))) (pss_one (ps_if (pt_cmpR op_eq (pe_ix ix_tup (pv 1) pe_int (fun _ _ => rfl)) pe_str (nomark _)) (pss_one (ps_expr (pe_bm PySem.F.plainAttrs_list PySem.F.slot_list_append PySem.F.type_list_append mt_append (pv 2) (pa_cons (C8.pe_c C_law_text hr (by omega) rfl (pa_cons (pv 0) (pa_cons (pv 3) pa_nil))) pa_nil)))) (pss_one (ps_expr (pe_bm PySem.F.plainAttrs_list PySem.F.slot_list_append PySem.F.type_list_append mt_append (pv 2) (pa_cons (C8.pe_c C_law_operand_text hr (by omega) rfl (pa_cons (pv 0) (pa_cons (pv 3) pa_nil))) pa_nil)))))))))
    (pss_cons (ps_set (i := 4) sc_law_text.nd rfl (Or.inl rfl) (pe_op op_add_str (pe_op op_add_str pe_str (C8.pe_c C_law_blank hr (by omega) rfl (pa_cons (pv 0) (pa_cons pe_int pa_nil)))) (pe_ix ix_list (pv 2) pe_int (fun _ _ => rfl))))
    (pss_cons (ps_for PassesOwn.never rfl (pi_list (pe_slice sl_list (pv 2) (po_some pe_int) po_none)) (pg_name (i := 3) sc_law_text.nd rfl (Or.inl rfl)) (pss_one (ps_set (i := 4) sc_law_text.nd rfl (Or.inl rfl) (pe_op op_add_str (pe_op op_add_str (pv 4) (C8.pe_c C_law_blank hr (by omega) rfl (pa_cons (pv 0) (pa_cons pe_int pa_nil)))) (pv 3)))))
    (pss_one (ps_ret (pe_op op_add_str (pe_op op_add_str (pv 4) (C8.pe_c C_law_blank hr (by omega) rfl (pa_cons (pv 0) (pa_cons pe_int pa_nil)))) pe_str))))))), ?_⟩
  have dv' : Dt K H v (.tuple (.str cn.head :: cn.parts.map Pt.d)) := by rw [← Cn.d_eq]; exact dv
  obtain ⟨p, xs, rfl, hs, da⟩ := Dt.tn dv'
  cases da with
  | cons h1 dr =>
  rename_i x0 xr
  obtain rfl := h1.s
  have pok := Cn.parts_ok ok
  have hwd := Cn.head_wd ok
  obtain ⟨bd, pl2, bM, bm⟩ := cn.parts_len
  have lr : xr.length = cn.parts.length := by rw [dr.length, List.length_map]
  refine vTx rfl hs (atI_nat (j := 0) rfl) ⟨small (by show 1 ≤ _; decide), fun R hR => ?_⟩
  have x1 := (Ext.refl P0).new (o := .lst [V.str cn.head]) P0 hR
  have nR : R ≠ l := (P0.ne hR).1
  refine ⟨fun σ H' => ∃ (ws : List Str) (pv : Option V), σ = [some (.ref l), some (.ref p), some (.ref R), pv, none] ∧ Ext l c H H' ∧ H' R = some (.lst ((cn.head :: ws).map V.str)) ∧ Laid cn.m ws cn.parts, ?_, ?_⟩
  · refine ⟨_, rfl, 1, rfl, p, _, rfl, x1.seqT P0 hs, ?_, fun tp htp => ?_⟩
    · rintro ⟨h0, _⟩
      rw [show HT.sIx (V.str cn.head :: xr).length 0 (some 1) = min 1 (V.str cn.head :: xr).length from HT.sIx_nat (V.str cn.head :: xr).length 0 1, List.length_cons] at h0
      omega
    rw [cut_one]
    have x2 := x1.new (o := .tup xr) P0 htp
    have ntR : R ≠ tp := fun e => by rw [← e, upd_same] at htp; cases htp
    have ntl : tp ≠ l := (x1.pool.ne htp).1
    refine ⟨tp, rfl, ⟨_, SqT.of upd_same⟩, for_tup (K := K) (a := tp) (xs := xr) (fun i σ H' => ∃ (ws : List Str) (pv : Option V), i ≤ xr.length ∧ σ = [some (.ref l), some (.ref p), some (.ref R), pv, none] ∧ Ext l c H H' ∧ H' tp = some (.tup xr) ∧
      H' R = some (.lst ((cn.head :: ws).map V.str)) ∧ Laid cn.m ws (cn.parts.take i)) ?_ ?_ ?_ ?_⟩
    · exact ⟨[], none, Nat.zero_le _, rfl, x2, upd_same, by rw [upd_ne ntR, upd_same]; rfl, by rw [List.take_zero]; trivial⟩
    · rintro i σ H' _ ⟨ws, pv, _, rfl, x, ht, hd, la⟩
      exact SqT.of ht
    · rintro i x σ H' hi ⟨ws, pv, _, rfl, x3, ht, hd, la⟩
      have hi2 : i < xr.length := (List.getElem?_eq_some_iff.mp hi).1
      have hi3 : i < cn.parts.length := by omega
      have gp : cn.parts[i]? = some cn.parts[i] := List.getElem?_eq_getElem hi3
      obtain ⟨x', gx, dx⟩ := DtAll.get dr (show (cn.parts.map Pt.d)[i]? = some (cn.parts[i]).d by rw [List.getElem?_map, gp]; rfl)
      rw [hi] at gx
      cases gx
      have dx3 := dx.ext P0 x3
      have lws : ws.length = i := by have := la.len; rw [List.length_take] at this; omega
      have szR : ((cn.head :: ws).map V.str).length < sizeLine := by rw [List.length_map, List.length_cons]; exact smallL (by omega)
      have po := pok cn.parts[i] (List.getElem_mem hi3)
      have tk1 : cn.parts.take (i + 1) = cn.parts.take i ++ [cn.parts[i]] := by rw [List.take_add_one, gp]; rfl
      -- the piece's text is put on the row
      have put : ∀ (H4 : Hp) (z : Str) (y : Ext l c H' H4), LT z (cn.parts[i]).tk → z.length ≤ cn.m → H4 R = some (.lst ((cn.head :: ws).map V.str)) ∧ ∃ (ws' : List Str) (pv : Option V), i + 1 ≤ xr.length ∧ [some (.ref l), some (.ref p), some (.ref R), some x, none] = [some (.ref l), some (.ref p), some (.ref R), pv, none] ∧ Ext l c H (upd H4 R (.lst ((cn.head :: ws).map V.str ++ [.str z]))) ∧
          (upd H4 R (.lst ((cn.head :: ws).map V.str ++ [.str z]))) tp = some (.tup xr) ∧ (upd H4 R (.lst ((cn.head :: ws).map V.str ++ [.str z]))) R = some (.lst ((cn.head :: ws').map V.str)) ∧ Laid cn.m ws' (cn.parts.take (i + 1)) := fun H4 z y hz hl => by
        refine ⟨y.keep _ _ nR hd, ws ++ [z], _, hi2, rfl, (x3.trans y).upd P0 hR, ?_, ?_, ?_⟩
        · rw [upd_ne ntR.symm]; exact y.keep _ _ ntl ht
        · rw [upd_same]; simp
        · rw [tk1]; exact la.snoc hz hl
      cases ep : cn.parts[i] with
      | ss z =>
        rw [ep] at dx3 po put gp
        obtain rfl := dx3.s
        have hz : Wd z := po
        have lz := hz.hi
        have l1 : ("$" : Str).length = 1 := by decide +kernel
        obtain ⟨c', rfl⟩ := Cn.part_pl gp (fun c h => by cases h)
        obtain ⟨hR4, inv⟩ := put H' ("$" ++ z) (Ext.refl x3.pool) (lt_var hz) (by rw [Str.length_append]; show _ ≤ 100; omega)
        refine vIsi rfl (.base (.str z)) (b := true) (by decide +kernel) ⟨_, rfl, iteT ?_⟩
        exact ⟨_, rfl, .inl ⟨rfl, _, SqL.of hd⟩, _, rfl, _, _, rfl, rfl, small (by omega), R, _, _, rfl, rfl, hR4, szR, inv⟩
      | oo op =>
        rw [ep] at dx3 po put gp
        obtain ⟨c', rfl⟩ := Cn.part_pl gp (fun c h => by cases h)
        have tup : ∃ a ys, x = .ref a ∧ SqT K H' a ys := by
          cases op with
          | sum a b => obtain ⟨a, _, _, _, e, hh, _⟩ := Dt.t3 (show Dt K H' x (.tuple [_, _, _]) from dx3); exact ⟨a, _, e, hh⟩
          | int a => obtain ⟨a, _, _, e, hh, _⟩ := Dt.t2 (show Dt K H' x (.tuple [_, _]) from dx3); exact ⟨a, _, e, hh⟩
          | name a => obtain ⟨a, _, _, e, hh, _⟩ := Dt.t2 (show Dt K H' x (.tuple [_, _]) from dx3); exact ⟨a, _, e, hh⟩
          | addr a => obtain ⟨a, _, _, e, hh, _⟩ := Dt.t2 (show Dt K H' x (.tuple [_, _]) from dx3); exact ⟨a, _, e, hh⟩
          | var a => obtain ⟨a, _, _, e, hh, _⟩ := Dt.t2 (show Dt K H' x (.tuple [_, _]) from dx3); exact ⟨a, _, e, hh⟩
        obtain ⟨a, ys, rfl, ha⟩ := tup
        refine vIsi rfl (ty_tup ha) (b := false) (by decide +kernel) ⟨_, rfl, iteF (vTx rfl (x3.seqT P0 hs) (atI_nat (j := 0) rfl) ⟨rfl, _, rfl, sF (Cn.not_pl c' ok) ?_⟩)⟩
        refine ⟨_, rfl, .inl ⟨rfl, _, SqL.of hd⟩, _, rfl, _, rfl, l, c, _, op, names, rfl, x3.pool, dx3, po, fun z H4 y hz hl => ?_⟩
        obtain ⟨hR4, inv⟩ := put H4 z y hz hl
        exact ⟨R, _, _, rfl, rfl, hR4, szR, inv⟩
      | cc c' =>
        rw [ep] at dx3 po put gp
        have ec := Cn.part_cc gp
        subst ec
        have tup : ∃ a ys, x = .ref a ∧ SqT K H' a ys := by
          cases c' with
          | two a b => obtain ⟨a, _, _, _, e, hh, _⟩ := Dt.t3 (show Dt K H' x (.tuple [_, _, _]) from dx3); exact ⟨a, _, e, hh⟩
          | has a b => obtain ⟨a, _, _, _, e, hh, _⟩ := Dt.t3 (show Dt K H' x (.tuple [_, _, _]) from dx3); exact ⟨a, _, e, hh⟩
          | one a b => obtain ⟨a, _, _, e, hh, _⟩ := Dt.t2 (show Dt K H' x (.tuple [_, _]) from dx3); exact ⟨a, _, e, hh⟩
        obtain ⟨a, ys, rfl, ha⟩ := tup
        refine vIsi rfl (ty_tup ha) (b := false) (by decide +kernel) ⟨_, rfl, iteF (vTx rfl (x3.seqT P0 hs) (atI_nat (j := 0) rfl) ⟨rfl, _, rfl, sT rfl ?_⟩)⟩
        have h1n : 1 ≤ n := by
          rcases hlev with h | ⟨_, c'', h⟩
          · omega
          · cases h
        refine ⟨_, rfl, .inl ⟨rfl, _, SqL.of hd⟩, _, rfl, _, rfl, l, c, _, .pl c', names, rfl, x3.pool, dx3, po, .inr ⟨h1n, c', rfl⟩, fun z H4 y hz hl => ?_⟩
        obtain ⟨hR4, inv⟩ := put H4 z y hz hl
        exact ⟨R, _, _, rfl, rfl, hR4, szR, inv⟩
    · rintro σ H' ⟨ws, pv, _, rfl, x3, ht, hd, la⟩
      rw [List.take_of_length_le (by omega)] at la
      exact ⟨ws, pv, rfl, x3, hd, la⟩
  · rintro σ H' ⟨ws, pv, rfl, x3, hd, la⟩
    have lws := la.len
    have l1 : ("(" : Str).length = 1 := by decide +kernel
    have l4 : (")" : Str).length = 1 := by decide +kernel
    have lh := hwd.hi
    refine ⟨_, rfl, l, c, 0, rfl, x3.pool, by omega, fun b1 H1 y1 hb1 _ lb1 => ?_⟩
    have hd1 := y1.keep _ _ nR hd
    have x4 := x3.trans y1
    refine ⟨_, _, rfl, rfl, small (by omega), ⟨_, rfl, R, _, _, _, rfl, rfl, SqL.of hd1, atI_nat (j := 0) rfl, _, _, rfl, rfl, small (by rw [Str.length_append]; omega), ?_⟩⟩
    have t0 : LT ("(" ++ b1 ++ cn.head) (.sg "(" :: .word cn.head :: (((cn.parts.take 0).map Pt.tk).flatten)) := fun u us hu lu => by
      have := lt_sign (s := 40) (by decide) (by decide +kernel : ("(" : Str).cps.toList = [40]) (LT.pre hb1 (lt_word hwd)) u us hu lu
      rw [List.take_zero, List.map_nil, List.flatten_nil]
      simpa only [app_list, List.append_assoc] using this
    have lt0 : ("(" ++ b1 ++ cn.head).length ≤ 16 := by rw [Str.length_append, Str.length_append]; omega
    generalize "(" ++ b1 ++ cn.head = txt0 at t0 lt0
    refine ⟨_, rfl, 1, rfl, R, _, rfl, SqL.of hd1, fun tp htp => ?_⟩
    rw [show cutV ((cn.head :: ws).map V.str) (some 1) none = ws.map V.str from cut_one _ _]
    have x5 := x4.new (o := .lst (ws.map V.str)) P0 htp
    have ntl : tp ≠ l := (x4.pool.ne htp).1
    refine ⟨tp, rfl, ⟨_, SqL.of upd_same⟩, for_list (K := K) (a := tp) (xs := ws.map V.str) (fun i σ H' => ∃ (t : Str) (pv : Option V), i ≤ ws.length ∧ σ = [some (.ref l), some (.ref p), some (.ref R), pv, some (.str t)] ∧ Ext l c H H' ∧ H' tp = some (.lst (ws.map V.str)) ∧
      LT t (.sg "(" :: .word cn.head :: (((cn.parts.take i).map Pt.tk).flatten)) ∧ t.length ≤ 16 + i * (3 + cn.m)) ?_ ?_ ?_ ?_⟩
    · exact ⟨txt0, pv, Nat.zero_le _, rfl, x5, upd_same, t0, by omega⟩
    · rintro i σ H' _ ⟨t, pv, _, rfl, x, ht, _⟩
      exact SqL.of ht
    · rintro i x σ H' hi ⟨t, pv, _, rfl, x6, ht, tl, len⟩
      have hi2 : i < ws.length := by
        have := (List.getElem?_eq_some_iff.mp hi).1
        rwa [List.length_map] at this
      have gw : ws[i]? = some ws[i] := List.getElem?_eq_getElem hi2
      rw [List.getElem?_map, gw] at hi
      cases hi
      obtain ⟨pt, gp, hz, hl⟩ := la.get gw
      have hm : i * (3 + cn.m) + (3 + cn.m) = (i + 1) * (3 + cn.m) := by rw [Nat.add_mul, Nat.one_mul]
      have hm2 : (i + 1) * (3 + cn.m) ≤ cn.parts.length * (3 + cn.m) := Nat.mul_le_mul_right _ (by omega)
      refine ⟨_, rfl, _, rfl, l, c, 1, rfl, x6.pool, by omega, fun b2 H2 y2 hb2 m2 lb2 => ?_⟩
      refine ⟨_, _, rfl, rfl, small (by omega), ⟨_, rfl, _, _, rfl, rfl, small (by rw [Str.length_append]; omega), ?_⟩⟩
      refine ⟨_, _, hi2, rfl, x6.trans y2, y2.keep _ _ ntl ht, ?_, by rw [Str.length_append, Str.length_append]; omega⟩
      have tk1 : ((cn.parts.take (i + 1)).map Pt.tk).flatten = ((cn.parts.take i).map Pt.tk).flatten ++ pt.tk := by
        rw [List.take_add_one, gp, List.map_append, List.flatten_append]; simp
      rw [tk1]
      intro u us hu lu
      have := LT.cat tl hb2 m2 hz u us hu lu
      simpa only [app_list, List.append_assoc, List.cons_append] using this
    · rintro σ H' ⟨t, pv, _, rfl, x6, ht, tl, len⟩
      rw [List.length_map, lws, List.take_length] at tl
      rw [List.length_map, lws] at len
      refine ⟨_, rfl, _, rfl, l, c, 0, rfl, x6.pool, by omega, fun b3 H3 y3 hb3 _ lb3 => ?_⟩
      refine ⟨_, _, rfl, rfl, small (by omega), _, _, rfl, rfl, small (by rw [Str.length_append]; omega), ?_⟩
      refine q _ H3 (x6.trans y3) ?_ (by rw [Str.length_append, Str.length_append]; omega)
      rw [Cn.tk_eq]
      intro u us hu lu
      have := lt_end (s := 41) (by decide) (by decide +kernel : (")" : Str).cps.toList = [41]) (LT.post hb3 tl) u us hu lu
      simpa only [app_list, List.append_assoc, List.cons_append] using this
end
end PK
namespace PK
open PySem L2 TL
/-! conditions as terms -/
def Op.tm : Op → Tm
  | .int n => .int n
  | .name w => .name w
  | .addr n => .addr n
  | .var w => .var w
  | .sum w n => .node "plus" [.var w, .int n]
def Cd.tm : Cd → Tm
  | .one h x => .node h [.var x]
  | .two h a b => .node h [a.tm, b.tm]
  | .has x k => .node "has" [.var x, k.tm]
def Cn.tm : Cn → Tm
  | .pl c => c.tm
  | .no c => .node "not" [c.tm]
theorem fl_leaf {sig : List (Str × Nat)} {t : Tm} {ts : List Tk} (h : Leaf sig t ts) : ∀ n, Fl sig n t ts
  | 0 => h
  | _ + 1 => .inl h
theorem fl_var {sig : List (Str × Nat)} (w : Str) (n : Nat) : Fl sig n (.var w) [.var w] := fl_leaf (t := .var w) (ts := [.var w]) rfl n
theorem fl_int {sig : List (Str × Nat)} (w : Int) (n : Nat) : Fl sig n (.int w) [.int w] := fl_leaf (t := .int w) (ts := [.int w]) rfl n
theorem fl_addr {sig : List (Str × Nat)} (w : Int) (n : Nat) : Fl sig n (.addr w) [.addr w] := fl_leaf (t := .addr w) (ts := [.addr w]) rfl n
theorem fl_name {sig : List (Str × Nat)} (w : Str) (n : Nat) : Fl sig n (.name w) [.name w] := fl_leaf (t := .name w) (ts := [.name w]) rfl n
theorem fl_node {sig : List (Str × Nat)} {n : Nat} {c : Str} {us : List Tm} {body : List Tk} (h : sig.lookup c = some us.length) (hb : FlL (Fl sig n) us body) : Fl sig (n + 1) (.node c us) (.sg "(" :: .word c :: (body ++ [.sg ")"])) :=
  .inr (.inl ⟨c, us, body, rfl, h, hb, rfl⟩)
theorem fl1 {R : Tm → List Tk → Prop} {t : Tm} {a : List Tk} (h : R t a) : FlL R [t] a := ⟨a, [], (List.append_nil a).symm, h, rfl⟩
theorem fl2 {R : Tm → List Tk → Prop} {t u : Tm} {a b : List Tk} (h : R t a) (g : R u b) : FlL R [t, u] (a ++ b) := ⟨a, b, rfl, h, fl1 g⟩
theorem sig_heads : ∀ h ∈ HEADS, CSIG.lookup h = some 1 := by decide +kernel
theorem sig_el : ∀ h ∈ EL, CSIG.lookup h = some 2 := by decide +kernel
theorem sig_plus : CSIG.lookup ("plus" : Str) = some 2 := by decide +kernel
theorem sig_has : CSIG.lookup ("has" : Str) = some 2 := by decide +kernel
theorem sig_not : CSIG.lookup ("not" : Str) = some 1 := by decide +kernel
theorem Op.fl (o : Op) (n : Nat) : Fl CSIG (n + 1) o.tm o.tk := by
  cases o with
  | sum w k => exact fl_node (us := [.var w, .int k]) (body := [.var w] ++ [.int k]) sig_plus (fl2 (fl_var w n) (fl_int k n))
  | int w => exact fl_int w _
  | name w => exact fl_name w _
  | addr w => exact fl_addr w _
  | var w => exact fl_var w _
theorem Cd.fl {names : List Str} {c : Cd} (ok : c.Ok names) (n : Nat) : Fl CSIG (n + 2) c.tm c.tk := by
  cases c with
  | one h x => exact fl_node (us := [.var x]) (body := [.var x]) (sig_heads h ok.1) (fl1 (fl_var x _))
  | two h a b => exact fl_node (us := [a.tm, b.tm]) (body := a.tk ++ b.tk) (sig_el h ok.1) (fl2 (a.fl n) (b.fl n))
  | has x k => exact fl_node (us := [.var x, k.tm]) (body := [.var x] ++ k.tk) sig_has (fl2 (fl_var x _) (k.fl n))
theorem Cn.fl {names : List Str} {c : Cn} (ok : c.Ok names) : Fl CSIG 3 c.tm c.tk := by
  cases c with
  | pl c => exact Cd.fl ok 1
  | no c => exact fl_node (us := [c.tm]) (body := c.tk) sig_not (fl1 (Cd.fl ok 0))
def Op.od : Op → OD
  | .int n => .two "int" (.int n)
  | .name w => .two "name" (.str w)
  | .addr n => .two "addr" (.int n)
  | .var w => .two "meta" (.str w)
  | .sum w n => .three "sum" (.str w) (.int n)
theorem Op.od_d (o : Op) : o.od.d = o.d := by cases o <;> rfl
theorem Op.w_d (o : Op) : wOp o.tm = o.d := by
  cases o with
  | sum w n => exact wOp_sum w n
  | int n => show (Tm.int n).d = _; unfold Tm.d; rfl
  | name n => show (Tm.name n).d = _; unfold Tm.d; rfl
  | addr n => show (Tm.addr n).d = _; unfold Tm.d; rfl
  | var n => show (Tm.var n).d = _; unfold Tm.d; rfl
theorem wd_le {w : Str} (h : Wd w) : w.length ≤ 10000 := by have := h.hi; omega
theorem Op.od_ok {names : List Str} {o : Op} (ok : o.Ok names) : o.od.Ok := by
  cases o with
  | int n => exact ⟨fun _ => ⟨n, rfl⟩, fun h => absurd h (by decide +kernel)⟩
  | name w => exact ⟨fun h => absurd h (by show ¬ (("name" : Str) = "int" ∨ ("name" : Str) = "addr"); decide +kernel), fun _ => ⟨w, rfl, wd_le ok.1⟩⟩
  | addr n => exact ⟨fun _ => ⟨n, rfl⟩, fun h => absurd h (by decide +kernel)⟩
  | var w => exact ⟨fun h => absurd h (by show ¬ (("meta" : Str) = "int" ∨ ("meta" : Str) = "addr"); decide +kernel), fun _ => ⟨w, rfl, wd_le ok⟩⟩
  | sum w n => exact fun _ => ⟨w, n, rfl, rfl, wd_le ok.1⟩
theorem leafB_int (n : Int) : leafB "int" (.int n) = true := if_pos rfl
theorem leafB_addr {n : Int} (h : 0 ≤ n) : leafB "addr" (.int n) = true := by
  unfold leafB
  rw [if_neg (by decide +kernel), if_pos rfl]
  show (true && decide (0 ≤ n)) = true
  rw [decide_eq_true h]; rfl
theorem leafB_nm {k w : Str} (hk : k ∈ NM) (h : Wd w) : leafB k (.str w) = true := by
  have key : ∀ k ∈ NM, k ≠ "int" ∧ k ≠ "addr" := by decide +kernel
  unfold leafB
  rw [if_neg (key k hk).1, if_neg (key k hk).2, decide_eq_true hk]
  exact wd_is h
theorem Op.od_b {names : List Str} {o : Op} (ok : o.Ok names) : o.od.b = true := by
  cases o with
  | int n => exact leafB_int n
  | name w => exact leafB_nm (by decide +kernel) ok.1
  | addr n => exact leafB_addr ok.1
  | var w => exact leafB_nm (by decide +kernel) ok
  | sum w n =>
    show (OD.three "sum" (.str w) (.int n)).b = true
    rw [OD.b3, decide_eq_true rfl]
    show (true && (isWd w && (true && !decide (n = 0)))) = true
    rw [wd_is ok.1, decide_eq_false ok.2.1]; rfl
def Op.key : Op → Str
  | .name _ => "name"
  | _ => "meta"
def Op.val : Op → PyData
  | .name w => .str w
  | .var w => .str w
  | _ => .none
def Cd.pd : Cd → PD
  | .one h x => .two h x
  | .two h a b => .el h a.od b.od
  | .has x k => .hs x k.key k.val
theorem Cd.pd_d {names : List Str} {c : Cd} (ok : c.Ok names) : c.pd.d = c.d := by
  cases c with
  | one h x => rfl
  | two h a b => show PyData.tuple [_, a.od.d, b.od.d] = PyData.tuple [_, a.d, b.d]; rw [Op.od_d, Op.od_d]
  | has x k =>
    rcases ok.2.2 with ⟨w, rfl⟩ | ⟨w, rfl⟩ <;> rfl
theorem Cd.pd_ok {names : List Str} {c : Cd} (ok : c.Ok names) : c.pd.Ok := by
  cases c with
  | one h x => exact wd_le ok.2
  | two h a b => exact ⟨ok.1, Op.od_ok ok.2.1, Op.od_ok ok.2.2⟩
  | has x k =>
    obtain ⟨o1, o2, o3⟩ := ok
    refine ⟨wd_le o1, ?_⟩
    rcases o3 with ⟨w, rfl⟩ | ⟨w, rfl⟩
    · exact ⟨fun h => absurd h (by show ¬ (("name" : Str) = "int" ∨ ("name" : Str) = "addr"); decide +kernel), fun _ => ⟨w, rfl, wd_le o2.1⟩⟩
    · exact ⟨fun h => absurd h (by show ¬ (("meta" : Str) = "int" ∨ ("meta" : Str) = "addr"); decide +kernel), fun _ => ⟨w, rfl, wd_le o2⟩⟩
theorem Cd.pd_b {names : List Str} {c : Cd} (ok : c.Ok names) : c.pd.b = true := by
  cases c with
  | one h x =>
    show (decide (h ∈ HEADS) && isWd x) = true
    rw [decide_eq_true ok.1, wd_is ok.2]; rfl
  | two h a b =>
    show (a.od.b && b.od.b) = true
    rw [Op.od_b ok.2.1, Op.od_b ok.2.2]; rfl
  | has x k =>
    obtain ⟨o1, o2, o3⟩ := ok
    show (isWd x && (leafB k.key k.val && decide (k.key ∈ NM))) = true
    rw [wd_is o1]
    rcases o3 with ⟨w, rfl⟩ | ⟨w, rfl⟩
    · rw [show leafB (Op.key (.name w)) (Op.val (.name w)) = true from leafB_nm (k := "name") (by decide +kernel) o2.1]
      show (true && (true && decide (("name" : Str) ∈ NM))) = true
      rw [decide_eq_true (by decide +kernel)]; rfl
    · rw [show leafB (Op.key (.var w)) (Op.val (.var w)) = true from leafB_nm (k := "meta") (by decide +kernel) o2]
      show (true && (true && decide (("meta" : Str) ∈ NM))) = true
      rw [decide_eq_true (by decide +kernel)]; rfl
theorem heads_el : ∀ h ∈ HEADS, h ∉ EL ∧ h ≠ "not" := by decide +kernel
theorem Cd.w_d {names : List Str} {c : Cd} (ok : c.Ok names) : wPl c.tm = c.d := by
  cases c with
  | one h x => exact wPl_var (heads_el h ok.1).1
  | two h a b => exact (wPl_el ok.1).trans (by rw [Op.w_d, Op.w_d]; rfl)
  | has x k =>
    refine (wPl_var (r := [k.tm]) (by decide +kernel)).trans ?_
    have : Tm.ds [k.tm] = [k.d] := by
      rcases ok.2.2 with ⟨w, rfl⟩ | ⟨w, rfl⟩
      · unfold Tm.ds; unfold Tm.ds; show [(Tm.name w).d] = _; unfold Tm.d; rfl
      · unfold Tm.ds; unfold Tm.ds; show [(Tm.var w).d] = _; unfold Tm.d; rfl
    rw [this]; rfl
theorem okO_of (o : Op) : OkO o.tm := by
  cases o with
  | sum w n => intro ps h; cases h; exact ⟨_, _, rfl⟩
  | _ => intro ps h; cases h
theorem Cd.okP {names : List Str} {c : Cd} (ok : c.Ok names) : OkP c.tm := by
  cases c with
  | one h x => intro c ps e; cases e; exact ⟨by simp, fun z => absurd z (heads_el h ok.1).1, by show 1 ≤ 100; decide⟩
  | two h a b => intro c ps e; cases e; exact ⟨by simp, fun _ => ⟨_, _, rfl, okO_of a, okO_of b⟩, by show 2 ≤ 100; decide⟩
  | has x k => intro c ps e; cases e; exact ⟨by simp, fun z => absurd z (by decide +kernel), by show 2 ≤ 100; decide⟩
theorem Cd.tm_not {names : List Str} {c : Cd} (ok : c.Ok names) : ∀ ps, c.tm ≠ .node "not" ps := by
  cases c with
  | one h x => intro ps e; cases e; exact (heads_el _ ok.1).2 rfl
  | two h a b => intro ps e; cases e; exact absurd ok.1 (by decide +kernel)
  | has x k => intro ps e; exact absurd (Tm.node.inj e).1 (by decide +kernel)
theorem Cn.okC {names : List Str} {c : Cn} (ok : c.Ok names) : OkC c.tm := by
  cases c with
  | pl c => exact ⟨fun ps h => absurd h (Cd.tm_not ok ps), Cd.okP ok⟩
  | no c => exact ⟨fun ps h => by cases h; exact ⟨_, rfl, Cd.okP ok⟩, fun c ps e => by cases e; exact ⟨by simp, fun z => absurd z (by decide +kernel), by show 1 ≤ 100; decide⟩⟩
def Cn.cd : Cn → CD
  | .pl c => .pl c.pd
  | .no c => .no c.pd
theorem Cn.w_d {names : List Str} {c : Cn} (ok : c.Ok names) : wCn c.tm = c.cd.d ∧ c.cd.d = c.d ∧ c.cd.Ok ∧ c.cd.b = true := by
  cases c with
  | pl c =>
    refine ⟨?_, Cd.pd_d ok, ⟨Cd.pd_ok ok, ?_⟩, Cd.pd_b ok⟩
    · exact (wCn_not fun a => Cd.tm_not ok [a]).trans ((Cd.w_d ok).trans (Cd.pd_d ok).symm)
    · cases c with
      | one h x => intro w e; cases e; exact (heads_el _ ok.1).2 rfl
      | two h a b => intro w e; cases e
      | has x k => intro w e; cases e
  | no c =>
    refine ⟨?_, ?_, Cd.pd_ok ok, Cd.pd_b ok⟩
    · refine (wCn_no rfl c.tm).trans ?_
      rw [Cd.w_d ok, ← Cd.pd_d ok]; rfl
    · show PyData.tuple [_, c.pd.d] = PyData.tuple [_, c.d]
      rw [Cd.pd_d ok]
/-! which names stand in the tokens -/
theorem Op.names {names : List Str} {o : Op} (ok : o.Ok names) : ∀ w, Tk.name w ∈ o.tk → w ∈ names := by
  intro w h
  cases o with
  | name x =>
    have := List.mem_singleton.mp h
    cases this; exact ok.2
  | int x => have := List.mem_singleton.mp h; cases this
  | addr x => have := List.mem_singleton.mp h; cases this
  | var x => have := List.mem_singleton.mp h; cases this
  | sum x n => simp [Op.tk] at h
theorem Cd.names {names : List Str} {c : Cd} (ok : c.Ok names) : ∀ w, Tk.name w ∈ c.tk → w ∈ names := by
  intro w h
  cases c with
  | one x y => simp [Cd.tk] at h
  | two x a b =>
    simp [Cd.tk] at h
    rcases h with h | h
    · exact Op.names ok.2.1 w h
    · exact Op.names ok.2.2 w h
  | has x k =>
    simp [Cd.tk] at h
    exact Op.names ok.2.1 w h
theorem Cn.names {names : List Str} {c : Cn} (ok : c.Ok names) : ∀ w, Tk.name w ∈ c.tk → w ∈ names := by
  intro w h
  cases c with
  | pl c => exact Cd.names ok w h
  | no c =>
    simp [Cn.tk] at h
    exact Cd.names ok w h
theorem few_of {cs : List Nat} {ts : List Tk} {names : List Str} (hl : Lays cs ts) (hn : names.length < 64) (h : ∀ w, Tk.name w ∈ ts → w ∈ names) : ∃ N : List Str, N.length < 64 ∧ ∀ w p, (Tk.name w, p) ∈ toks cs → w ∈ N := by
  refine ⟨names, hn, fun w p hm => ?_⟩
  have e : (toks cs).map (·.1) = ts ++ [.fin] := by
    unfold toks
    rw [List.map_append, hl 0]; rfl
  have : Tk.name w ∈ ts ++ [.fin] := by rw [← e]; exact List.mem_map_of_mem hm
  rcases List.mem_append.mp this with z | z
  · exact h w z
  · have := List.mem_singleton.mp z; cases this
end PK
namespace PK
open PySem L2 TL
/-! texts of terms that are no conditions, and texts of no term -/
theorem mk40 : mkS [40] = "(" := by decide +kernel
theorem mk41 : mkS [41] = ")" := by decide +kernel
theorem mk123 : mkS [123] = "{" := by decide +kernel
theorem mk125 : mkS [125] = "}" := by decide +kernel
section
variable {u : List Nat} {ts : List Tk} {w : Str}
theorem l_open (l : Lays u ts) : Lays (40 :: u) (.sg "(" :: ts) := by
  have := lays_tok (piece_sign (s := 40) (by decide)) (u := u) (fun _ _ => trivial) l
  rwa [tok_sign 40 (by decide), mk40] at this
theorem l_close (l : Lays u ts) : Lays (41 :: u) (.sg ")" :: ts) := by
  have := lays_tok (piece_sign (s := 41) (by decide)) (u := u) (fun _ _ => trivial) l
  rwa [tok_sign 41 (by decide), mk41] at this
theorem l_bopen (l : Lays u ts) : Lays (123 :: u) (.sg "{" :: ts) := by
  have := lays_tok (piece_sign (s := 123) (by decide)) (u := u) (fun _ _ => trivial) l
  rwa [tok_sign 123 (by decide), mk123] at this
theorem l_bclose (l : Lays u ts) : Lays (125 :: u) (.sg "}" :: ts) := by
  have := lays_tok (piece_sign (s := 125) (by decide)) (u := u) (fun _ _ => trivial) l
  rwa [tok_sign 125 (by decide), mk125] at this
theorem l_sp (l : Lays u ts) : Lays (32 :: u) ts := lays_sep (by decide +kernel) l
theorem l_word (h : Wd w) (ho : Opn u) (l : Lays u ts) : Lays (w.cps.toList ++ u) (.word w :: ts) := lt_word h u ts ho l
theorem l_var (h : Wd w) (ho : Opn u) (l : Lays u ts) : Lays (36 :: (w.cps.toList ++ u)) (.var w :: ts) := by
  have := lt_var h u ts ho l
  rwa [pre_list (by decide +kernel : ("$" : Str).cps.toList = [36])] at this
theorem l_name (h : Wd w) (ho : Opn u) (l : Lays u ts) : Lays (39 :: (w.cps.toList ++ u)) (.name w :: ts) := by
  have := lt_name h u ts ho l
  rwa [pre_list (by decide +kernel : ("'" : Str).cps.toList = [39])] at this
theorem l_int {n : Int} (h : -(10 ^ 15) < n ∧ n < 10 ^ 15) (ho : Opn u) (l : Lays u ts) : Lays ((txt n).cps.toList ++ u) (.int n :: ts) := lt_int h u ts ho l
theorem l_dig {d : Nat} (h : d < 10) (ho : Opn u) (l : Lays u ts) : Lays ((48 + d) :: u) (.int (d : Nat) :: ts) := by
  have := l_int (n := (d : Nat)) ⟨by omega, by omega⟩ ho l
  rwa [txt_nat, numL_lt h] at this
theorem o_sp : Opn (32 :: u) := fun c hc => by
  have : (32 : Nat) = c := by simpa using hc
  rw [← this]; decide +kernel
theorem o_close : Opn (41 :: u) := opn_sgn (by decide) u
end
theorem wd_a : Wd "a" := wd_of_is (by decide +kernel)
def isWds (ws : List Str) : Bool := ws.all isWd
abbrev KW : List Str := ["integer", "name", "address", "map", "equal", "less", "has", "not", "plus", "integers"]
theorem wd_kw : ∀ x ∈ KW, Wd x := by
  have : ∀ x ∈ KW, isWd x = true := by decide +kernel
  exact fun x hx => wd_of_is (this x hx)
theorem kw (x : Str) (h : x ∈ KW := by decide +kernel) : Wd x := wd_kw x h
/-- the text of a term that is no condition -/
def NoneT (x : Str) : Prop := ∃ (t : Tm) (ts : List Tk), Lays x.cps.toList ts ∧ Fl CSIG 3 t ts ∧ OkC t ∧ (∃ c : CD, wCn t = c.d ∧ c.Ok ∧ c.b = false) ∧ (∀ w, Tk.name w ∈ ts → w ∈ (["a"] : List Str)) ∧ x.length ≤ 200
theorem okC_of {c : Str} {ps : List Tm} (h1 : c ≠ "not") (h2 : ps ≠ []) (h3 : c ∉ EL) (h4 : ps.length ≤ 100) : OkC (.node c ps) :=
  ⟨fun ps e => by cases e; exact absurd rfl h1, fun c' ps' e => by cases e; exact ⟨h2, fun z => absurd z h3, h4⟩⟩
theorem okC_of' (c : Str) (ps : List Tm) (h2 : ps ≠ []) (h3 : c ∉ EL) (h4 : ps.length ≤ 100) : OkP (.node c ps) := fun c' ps' e => by cases e; exact ⟨h2, fun z => absurd z h3, h4⟩
theorem okC_el {c : Str} {a b : Tm} (h1 : c ≠ "not") (ha : OkO a) (hb : OkO b) : OkC (.node c [a, b]) :=
  ⟨fun ps e => by cases e; exact absurd rfl h1, fun c' ps' e => by cases e; exact ⟨by simp, fun _ => ⟨a, b, rfl, ha, hb⟩, by show 2 ≤ 100; decide⟩⟩
theorem okC_leaf {t : Tm} (h : ∀ c ps, t ≠ .node c ps) : OkC t := ⟨fun ps e => absurd e (h _ ps), fun c ps e => absurd e (h c ps)⟩
theorem okO_leaf {t : Tm} (h : ∀ c ps, t ≠ .node c ps) : OkO t := fun ps e => absurd e (h _ ps)
section
variable {w : Str} (hw : Wd w)
include hw
theorem none0 {n : Int} (hn : -(10 ^ 15) < n ∧ n < 10 ^ 15) : NoneT ("(plus $" ++ w ++ " " ++ txt n ++ ")") := by
  have lw := hw.hi
  have ln := txt_len hn
  refine ⟨.node "plus" [.var w, .int n], .sg "(" :: .word "plus" :: (([.var w] ++ [.int n]) ++ [.sg ")"]), ?_, fl_node (us := [.var w, .int n]) sig_plus (fl2 (fl_var w _) (fl_int n _)), okC_of (by decide +kernel) (by simp) (by decide +kernel) (by show 2 ≤ 100; decide),
    ⟨.pl (.bad "plus" (.str w) (Tm.int n).d), ?_, ⟨⟨by decide +kernel, by decide +kernel⟩, fun _ e => by cases e⟩, rfl⟩, by simp, ?_⟩
  · have e1 : ("(plus $" : Str).cps.toList = 40 :: (("plus" : Str).cps.toList ++ [32, 36]) := by decide +kernel
    have e2 : (" " : Str).cps.toList = [32] := by decide +kernel
    have e3 : (")" : Str).cps.toList = [41] := by decide +kernel
    rw [app_list, app_list, app_list, app_list, e1, e2, e3]
    simp only [List.append_assoc, List.cons_append, List.nil_append]
    exact l_open (l_word (kw "plus") o_sp (l_sp (l_var hw o_sp (l_sp (l_int hn o_close (l_close lays_nil))))))
  · rw [wCn_not (fun a e => by cases e), wPl_var (by decide +kernel)]
    unfold Tm.ds; unfold Tm.ds; rfl
  · have e1 : ("(plus $" : Str).length = 7 := by decide +kernel
    have e2 : (" " : Str).length = 1 := by decide +kernel
    have e3 : (")" : Str).length = 1 := by decide +kernel
    simp only [Str.length_append, e1, e2, e3]; omega
theorem none2 : NoneT ("(not (not (name $" ++ w ++ ")))") := by
  have lw := hw.hi
  refine ⟨.node "not" [.node "not" [.node "name" [.var w]]], .sg "(" :: .word "not" :: ((.sg "(" :: .word "not" :: ((.sg "(" :: .word "name" :: ([.var w] ++ [.sg ")"])) ++ [.sg ")"])) ++ [.sg ")"]), ?_,
    fl_node (us := [_]) sig_not (fl1 (fl_node (us := [_]) sig_not (fl1 (fl_node (us := [.var w]) (sig_heads "name" (by decide +kernel)) (fl1 (fl_var w _)))))), ?_,
    ⟨.no .non, ?_, trivial, rfl⟩, by simp, ?_⟩
  · have e1 : ("(not (not (name $" : Str).cps.toList = 40 :: (("not" : Str).cps.toList ++ (32 :: 40 :: (("not" : Str).cps.toList ++ (32 :: 40 :: (("name" : Str).cps.toList ++ [32, 36]))))) := by decide +kernel
    have e3 : (")))" : Str).cps.toList = [41, 41, 41] := by decide +kernel
    rw [app_list, app_list, e1, e3]
    simp only [List.append_assoc, List.cons_append, List.nil_append]
    exact l_open (l_word (kw "not") o_sp (l_sp (l_open (l_word (kw "not") o_sp (l_sp (l_open (l_word (kw "name") o_sp (l_sp (l_var hw o_close (l_close (l_close (l_close lays_nil))))))))))))
  · refine ⟨fun ps e => by cases e; exact ⟨_, rfl, (okC_of' _ _ (by simp) (by decide +kernel) (by show 1 ≤ 100; decide))⟩, okC_of' _ _ (by simp) (by decide +kernel) (by show 1 ≤ 100; decide)⟩
  · rw [wCn_no rfl, wPl_no (by decide +kernel) (by show ("node" : Str) ≠ _; decide +kernel)]; rfl
  · have e1 : ("(not (not (name $" : Str).length = 17 := by decide +kernel
    have e3 : (")))" : Str).length = 3 := by decide +kernel
    simp only [Str.length_append, e1, e3]; omega
theorem none3 : NoneT ("(has $" ++ w ++ " 5)") := by
  have lw := hw.hi
  refine ⟨.node "has" [.var w, .int (5 : Nat)], .sg "(" :: .word "has" :: (([.var w] ++ [.int (5 : Nat)]) ++ [.sg ")"]), ?_, fl_node (us := [.var w, .int (5 : Nat)]) sig_has (fl2 (fl_var w _) (fl_int _ _)), okC_of (by decide +kernel) (by simp) (by decide +kernel) (by show 2 ≤ 100; decide),
    ⟨.pl (.hs w "int" (.int (5 : Nat))), ?_, ⟨⟨wd_le hw, ⟨fun _ => ⟨_, rfl⟩, fun h => absurd h (by decide +kernel)⟩⟩, fun _ e => by cases e⟩, ?_⟩, by simp, ?_⟩
  · have e1 : ("(has $" : Str).cps.toList = 40 :: (("has" : Str).cps.toList ++ [32, 36]) := by decide +kernel
    have e3 : (" 5)" : Str).cps.toList = [32, 48 + 5, 41] := by decide +kernel
    rw [app_list, app_list, e1, e3]
    simp only [List.append_assoc, List.cons_append, List.nil_append]
    exact l_open (l_word (kw "has") o_sp (l_sp (l_var hw o_sp (l_sp (l_dig (by decide) o_close (l_close lays_nil))))))
  · rw [wCn_not (fun a e => by cases e), wPl_var (by decide +kernel)]
    unfold Tm.ds; unfold Tm.ds; unfold Tm.d; rfl
  · show (isWd w && (_ && decide (("int" : Str) ∈ NM))) = false
    rw [decide_eq_false (by decide +kernel), Bool.and_false, Bool.and_false]
  · have e1 : ("(has $" : Str).length = 6 := by decide +kernel
    have e3 : (" 5)" : Str).length = 3 := by decide +kernel
    simp only [Str.length_append, e1, e3]; omega
theorem none4 : NoneT ("(less $" ++ w ++ " (plus $" ++ w ++ " 0))") := by
  have lw := hw.hi
  refine ⟨.node "less" [.var w, .node "plus" [.var w, .int (0 : Nat)]], .sg "(" :: .word "less" :: (([.var w] ++ (.sg "(" :: .word "plus" :: (([.var w] ++ [.int (0 : Nat)]) ++ [.sg ")"]))) ++ [.sg ")"]), ?_,
    fl_node (us := [_, _]) (sig_el "less" (by decide +kernel)) (fl2 (fl_var w _) (fl_node (us := [.var w, .int (0 : Nat)]) sig_plus (fl2 (fl_var w _) (fl_int _ _)))), okC_el (by decide +kernel) (okO_leaf fun _ _ e => by cases e) (fun ps e => by cases e; exact ⟨_, _, rfl⟩),
    ⟨.pl (.el "less" (.two "meta" (.str w)) (.three "sum" (.str w) (.int (0 : Nat)))), ?_, ⟨⟨by decide +kernel, Op.od_ok (names := []) (o := .var w) hw, fun _ => ⟨w, _, rfl, rfl, wd_le hw⟩⟩, fun _ e => by cases e⟩, ?_⟩, by simp, ?_⟩
  · have e1 : ("(less $" : Str).cps.toList = 40 :: (("less" : Str).cps.toList ++ [32, 36]) := by decide +kernel
    have e2 : (" (plus $" : Str).cps.toList = 32 :: 40 :: (("plus" : Str).cps.toList ++ [32, 36]) := by decide +kernel
    have e3 : (" 0))" : Str).cps.toList = [32, 48 + 0, 41, 41] := by decide +kernel
    rw [app_list, app_list, app_list, app_list, e1, e2, e3]
    simp only [List.append_assoc, List.cons_append, List.nil_append]
    exact l_open (l_word (kw "less") o_sp (l_sp (l_var hw o_sp (l_sp (l_open (l_word (kw "plus") o_sp (l_sp (l_var hw o_sp (l_sp (l_dig (by decide) o_close (l_close (l_close lays_nil))))))))))))
  · rw [wCn_not (fun a e => by cases e), wPl_el (by decide +kernel), wOp_sum, show wOp (Tm.var w) = .tuple [.str "meta", .str w] from Op.w_d (.var w)]; rfl
  · show (_ && (OD.three "sum" (.str w) (.int (0 : Nat))).b) = false
    rw [OD.b3]
    show (_ && (_ && (isWd w && (true && !decide (((0 : Nat) : Int) = 0))))) = false
    rw [decide_eq_true rfl]; simp
  · have e1 : ("(less $" : Str).length = 7 := by decide +kernel
    have e2 : (" (plus $" : Str).length = 8 := by decide +kernel
    have e3 : (" 0))" : Str).length = 4 := by decide +kernel
    simp only [Str.length_append, e1, e2, e3]; omega
theorem none5 : NoneT ("(equal (plus 2 $" ++ w ++ ") 1)") := by
  have lw := hw.hi
  refine ⟨.node "equal" [.node "plus" [.int (2 : Nat), .var w], .int (1 : Nat)], .sg "(" :: .word "equal" :: (((.sg "(" :: .word "plus" :: (([.int (2 : Nat)] ++ [.var w]) ++ [.sg ")"])) ++ [.int (1 : Nat)]) ++ [.sg ")"]), ?_,
    fl_node (us := [_, _]) (sig_el "equal" (by decide +kernel)) (fl2 (fl_node (us := [.int (2 : Nat), .var w]) sig_plus (fl2 (fl_int _ _) (fl_var w _))) (fl_int _ _)), okC_el (by decide +kernel) (fun ps e => by cases e; exact ⟨_, _, rfl⟩) (okO_leaf fun _ _ e => by cases e),
    ⟨.pl (.el "equal" (.three "node" (.str "plus") (.tuple (Tm.ds [.int (2 : Nat), .var w]))) (.two "int" (.int (1 : Nat)))), ?_, ⟨⟨by decide +kernel, fun h => absurd h (by decide +kernel), Op.od_ok (names := []) (o := .int (1 : Nat)) ⟨by decide, by decide⟩⟩, fun _ e => by cases e⟩, ?_⟩, by simp, ?_⟩
  · have e1 : ("(equal (plus 2 $" : Str).cps.toList = 40 :: (("equal" : Str).cps.toList ++ (32 :: 40 :: (("plus" : Str).cps.toList ++ [32, 48 + 2, 32, 36]))) := by decide +kernel
    have e3 : (") 1)" : Str).cps.toList = [41, 32, 48 + 1, 41] := by decide +kernel
    rw [app_list, app_list, e1, e3]
    simp only [List.append_assoc, List.cons_append, List.nil_append]
    exact l_open (l_word (kw "equal") o_sp (l_sp (l_open (l_word (kw "plus") o_sp (l_sp (l_dig (by decide) o_sp (l_sp (l_var hw o_close (l_close (l_sp (l_dig (by decide) o_close (l_close lays_nil))))))))))))
  · rw [wCn_not (fun a e => by cases e), wPl_el (by decide +kernel), wOp_not (fun ⟨_, _, e⟩ => by cases e), show wOp (Tm.int (1 : Nat)) = .tuple [.str "int", .int (1 : Nat)] from Op.w_d (.int (1 : Nat))]
    unfold Tm.d; rfl
  · show ((OD.three "node" (.str "plus") (.tuple (Tm.ds [.int (2 : Nat), .var w]))).b && (OD.two "int" (.int (1 : Nat))).b) = false
    rw [OD.b3, decide_eq_false (by decide +kernel)]; rfl
  · have e1 : ("(equal (plus 2 $" : Str).length = 16 := by decide +kernel
    have e3 : (") 1)" : Str).length = 4 := by decide +kernel
    simp only [Str.length_append, e1, e3]; omega
theorem none6 : NoneT ("$" ++ w) := by
  have lw := hw.hi
  refine ⟨.var w, [.var w], (lt_var hw).whole, fl_var w _, okC_leaf (fun _ _ e => by cases e), ⟨.pl .non, rfl, ⟨trivial, fun _ e => by cases e⟩, rfl⟩, by simp, ?_⟩
  have e1 : ("$" : Str).length = 1 := by decide +kernel
  simp only [Str.length_append, e1]; omega
theorem none7 : NoneT ("(has 'a $" ++ w ++ ")") := by
  have lw := hw.hi
  refine ⟨.node "has" [.name "a", .var w], .sg "(" :: .word "has" :: (([.name "a"] ++ [.var w]) ++ [.sg ")"]), ?_, fl_node (us := [.name "a", .var w]) sig_has (fl2 (fl_name _ _) (fl_var w _)), okC_of (by decide +kernel) (by simp) (by decide +kernel) (by show 2 ≤ 100; decide),
    ⟨.pl .non, ?_, ⟨trivial, fun _ e => by cases e⟩, rfl⟩, by simp, ?_⟩
  · have e1 : ("(has 'a $" : Str).cps.toList = 40 :: (("has" : Str).cps.toList ++ (32 :: 39 :: (("a" : Str).cps.toList ++ [32, 36]))) := by decide +kernel
    have e3 : (")" : Str).cps.toList = [41] := by decide +kernel
    rw [app_list, app_list, e1, e3]
    simp only [List.append_assoc, List.cons_append, List.nil_append]
    exact l_open (l_word (kw "has") o_sp (l_sp (l_name wd_a o_sp (l_sp (l_var hw o_close (l_close lays_nil))))))
  · rw [wCn_not (fun a e => by cases e), wPl_no (by decide +kernel) (by show ("name" : Str) ≠ _; decide +kernel)]; rfl
  · have e1 : ("(has 'a $" : Str).length = 9 := by decide +kernel
    have e3 : (")" : Str).length = 1 := by decide +kernel
    simp only [Str.length_append, e1, e3]; omega
theorem none8 : NoneT ("(not $" ++ w ++ ")") := by
  have lw := hw.hi
  refine ⟨.node "not" [.var w], .sg "(" :: .word "not" :: ([.var w] ++ [.sg ")"]), ?_, fl_node (us := [.var w]) sig_not (fl1 (fl_var w _)), ⟨fun ps e => by cases e; exact ⟨_, rfl, fun _ _ e => by cases e⟩, okC_of' _ _ (by simp) (by decide +kernel) (by show 1 ≤ 100; decide)⟩,
    ⟨.no .non, ?_, trivial, rfl⟩, by simp, ?_⟩
  · have e1 : ("(not $" : Str).cps.toList = 40 :: (("not" : Str).cps.toList ++ [32, 36]) := by decide +kernel
    have e3 : (")" : Str).cps.toList = [41] := by decide +kernel
    rw [app_list, app_list, e1, e3]
    simp only [List.append_assoc, List.cons_append, List.nil_append]
    exact l_open (l_word (kw "not") o_sp (l_sp (l_var hw o_close (l_close lays_nil))))
  · rw [wCn_no rfl]; rfl
  · have e1 : ("(not $" : Str).length = 6 := by decide +kernel
    have e3 : (")" : Str).length = 1 := by decide +kernel
    simp only [Str.length_append, e1, e3]; omega
end
theorem none1 {n : Int} (hn : -(10 ^ 15) < n ∧ n < 10 ^ 15) : NoneT ("(integer " ++ txt n ++ ")") := by
  have ln := txt_len hn
  refine ⟨.node "integer" [.int n], .sg "(" :: .word "integer" :: ([.int n] ++ [.sg ")"]), ?_, fl_node (us := [.int n]) (sig_heads "integer" (by decide +kernel)) (fl1 (fl_int n _)), okC_of (by decide +kernel) (by simp) (by decide +kernel) (by show 1 ≤ 100; decide),
    ⟨.pl .non, ?_, ⟨trivial, fun _ e => by cases e⟩, rfl⟩, by simp, ?_⟩
  · have e1 : ("(integer " : Str).cps.toList = 40 :: (("integer" : Str).cps.toList ++ [32]) := by decide +kernel
    have e3 : (")" : Str).cps.toList = [41] := by decide +kernel
    rw [app_list, app_list, e1, e3]
    simp only [List.append_assoc, List.cons_append, List.nil_append]
    exact l_open (l_word (kw "integer") o_sp (l_sp (l_int hn o_close (l_close lays_nil))))
  · rw [wCn_not (fun a e => by have := (Tm.node.inj e).1; revert this; decide +kernel), wPl_no (by decide +kernel) (by show ("int" : Str) ≠ _; decide +kernel)]; rfl
  · have e1 : ("(integer " : Str).length = 9 := by decide +kernel
    have e3 : (")" : Str).length = 1 := by decide +kernel
    simp only [Str.length_append, e1, e3]; omega
theorem fl_map0 (n : Nat) : Fl CSIG (n + 1) (.map (ents [])) (.sg "{" :: ([] ++ [.sg "}"])) := .inr (.inr ⟨[], [], rfl, .nil, rfl, rfl⟩)
theorem none9 : NoneT "(map {})" := by
  refine ⟨.node "map" [.map (ents [])], .sg "(" :: .word "map" :: ((.sg "{" :: ([] ++ [.sg "}"])) ++ [.sg ")"]), ?_, fl_node (us := [_]) (sig_heads "map" (by decide +kernel)) (fl1 (fl_map0 _)), okC_of (by decide +kernel) (by simp) (by decide +kernel) (by show 1 ≤ 100; decide),
    ⟨.pl .non, ?_, ⟨trivial, fun _ e => by cases e⟩, rfl⟩, by simp, by decide +kernel⟩
  · rw [show ("(map {})" : Str).cps.toList = 40 :: (("map" : Str).cps.toList ++ [32, 123, 125, 41]) by decide +kernel]
    exact l_open (l_word (kw "map") o_sp (l_sp (l_bopen (l_bclose (l_close lays_nil)))))
  · rw [wCn_not (fun a e => by have := (Tm.node.inj e).1; revert this; decide +kernel), wPl_no (by decide +kernel) (by show ("map" : Str) ≠ _; decide +kernel)]; rfl
theorem none10 : NoneT "(equal {} 1)" := by
  refine ⟨.node "equal" [.map (ents []), .int (1 : Nat)], .sg "(" :: .word "equal" :: (((.sg "{" :: ([] ++ [.sg "}"])) ++ [.int (1 : Nat)]) ++ [.sg ")"]), ?_, fl_node (us := [_, _]) (sig_el "equal" (by decide +kernel)) (fl2 (fl_map0 _) (fl_int _ _)), okC_el (by decide +kernel) (okO_leaf fun _ _ e => by cases e) (okO_leaf fun _ _ e => by cases e),
    ⟨.pl (.el "equal" (.two "map" (.tuple (Tm.es (ents [])))) (.two "int" (.int (1 : Nat)))), ?_, ⟨⟨by decide +kernel, ⟨fun h => absurd h (by show ¬ (("map" : Str) = "int" ∨ ("map" : Str) = "addr"); decide +kernel), fun h => absurd h (by decide +kernel)⟩, Op.od_ok (names := []) (o := .int (1 : Nat)) ⟨by decide, by decide⟩⟩, fun _ e => by cases e⟩, ?_⟩, by simp, by decide +kernel⟩
  · rw [show ("(equal {} 1)" : Str).cps.toList = 40 :: (("equal" : Str).cps.toList ++ [32, 123, 125, 32, 48 + 1, 41]) by decide +kernel]
    exact l_open (l_word (kw "equal") o_sp (l_sp (l_bopen (l_bclose (l_sp (l_dig (by decide) o_close (l_close lays_nil)))))))
  · rw [wCn_not (fun a e => by cases e), wPl_el (by decide +kernel), wOp_not (fun ⟨_, _, e⟩ => by cases e), show wOp (Tm.int (1 : Nat)) = .tuple [.str "int", .int (1 : Nat)] from Op.w_d (.int (1 : Nat))]
    unfold Tm.d; rfl
  · show (leafB "map" (.tuple (Tm.es (ents []))) && (OD.two "int" (.int (1 : Nat))).b) = false
    unfold leafB
    rw [if_neg (by decide +kernel), if_neg (by decide +kernel), decide_eq_false (by decide +kernel)]; rfl
end PK
namespace PK
open PySem L2 TL
/-- the text of no term -/
def BadT (x : Str) : Prop := ∃ ts : List Tk, Lays x.cps.toList ts ∧ (∀ w, Tk.name w ∈ ts → w ∈ (["a"] : List Str)) ∧ x.length ≤ 200 ∧ ∃ q, pRead CSIG x.cps.toList = .error (false, q)
theorem tk_at {cs : List Nat} {ts : List Tk} (h : Lays cs ts) {i : Nat} {k : Tk} (e : (ts ++ [.fin])[i]? = some k) : ∃ p, (toks cs)[i]? = some (k, p) := by
  have m : (toks cs).map (·.1) = ts ++ [.fin] := by
    unfold toks
    rw [List.map_append, h 0]; rfl
  rw [← m, List.getElem?_map] at e
  cases g : (toks cs)[i]? with
  | none => rw [g] at e; cases e
  | some x =>
    rw [g] at e
    exact ⟨x.2, by rw [← Option.some.inj e]⟩
theorem read_err {cs : List Nat} {q : Nat} (h : pTerm CSIG (toks cs) 61 0 0 = .error (false, q)) : ∃ q, pRead CSIG cs = .error (false, q) := by
  refine ⟨q, ?_⟩
  unfold pRead
  rw [h]
section
variable {sig : List (Str × Nat)} {tk : List (Tk × Nat)} {f d i p q : Nat}
theorem tm_err {k : Tk} (e : tk[i]? = some (k, p)) (h : k = .sg ")" ∨ k = .bad ∨ k = .fin) : pTerm sig tk (f + 1) d i = .error (false, p) := by
  rcases h with rfl | rfl | rfl
  · unfold pTerm
    rw [e]
    dsimp only
    rw [if_neg (by decide +kernel), if_neg (by decide +kernel)]
  · unfold pTerm; rw [e]
  · unfold pTerm; rw [e]
theorem tm_word {c : Str} (e : tk[i]? = some (.word c, p)) (h : sig.lookup c ≠ some 0) : pTerm sig tk (f + 1) d i = .error (false, p) := by
  unfold pTerm
  rw [e]
  exact if_neg h
theorem tm_node (e : tk[i]? = some (.sg "(", p)) (h : sig ≠ []) : pTerm sig tk (f + 1) d i = pNode sig tk (pTerm sig tk f (d + 1)) d i p := by
  unfold pTerm
  rw [e]
  dsimp only
  rw [if_neg (by decide +kernel), if_pos rfl, if_neg h]
theorem nd_none {r : Nat → Except PErr (Tm × Nat)} {c : Str} (e : tk[i + 1]? = some (.word c, q)) (h : sig.lookup c = none) : pNode sig tk r d i p = .error (false, q) := by
  unfold pNode
  rw [e]
  dsimp only
  rw [h]
theorem nd_some {r : Nat → Except PErr (Tm × Nat)} {c : Str} {m : Nat} (e : tk[i + 1]? = some (.word c, q)) (h : sig.lookup c = some m) (hd : ¬ 60 ≤ d) : pNode sig tk r d i p = match pMany r m (i + 2) with
      | .error e => .error e
      | .ok (ts, j) => pClose tk ")" j (.node c ts) := by
  unfold pNode
  rw [e]
  dsimp only
  rw [h]
  dsimp only
  rw [if_neg hd]
  all_goals rfl
theorem mn_err {r : Nat → Except PErr (Tm × Nat)} {m : Nat} {x : PErr} (h : r i = .error x) : pMany r (m + 1) i = .error x := by
  rw [many_succ, h]
theorem mn_ok {r : Nat → Except PErr (Tm × Nat)} {m : Nat} {t : Tm} (h : r i = .ok (t, i + 1)) : pMany r (m + 1) i = match pMany r m (i + 1) with
      | .error e => .error e
      | .ok (ts, k) => .ok (t :: ts, k) := by
  rw [many_succ, h]
  all_goals rfl
theorem tm_var {w : Str} (e : tk[i]? = some (.var w, p)) : pTerm sig tk (f + 1) d i = .ok (.var w, i + 1) := by
  unfold pTerm; rw [e]
end
theorem csig_ne : CSIG ≠ [] := by decide +kernel
theorem sig_int : CSIG.lookup ("integer" : Str) = some 1 := by decide +kernel
theorem bad0 : BadT "(integer)" := by
  have hl : Lays ("(integer)" : Str).cps.toList [.sg "(", .word "integer", .sg ")"] := by
    rw [show ("(integer)" : Str).cps.toList = 40 :: (("integer" : Str).cps.toList ++ [41]) by decide +kernel]
    exact l_open (l_word (kw "integer") o_close (l_close lays_nil))
  refine ⟨_, hl, by simp, by decide +kernel, ?_⟩
  obtain ⟨p0, e0⟩ := tk_at hl (i := 0) rfl
  obtain ⟨p1, e1⟩ := tk_at hl (i := 1) rfl
  obtain ⟨p2, e2⟩ := tk_at hl (i := 2) rfl
  exact read_err ((tm_node e0 csig_ne).trans ((nd_some e1 sig_int (by decide)).trans (by rw [mn_err (tm_err e2 (.inl rfl))])))
section
variable {w : Str} (hw : Wd w)
include hw
theorem bad1 : BadT ("(integer $" ++ w ++ " 1)") := by
  have lw := hw.hi
  have hl : Lays ("(integer $" ++ w ++ " 1)").cps.toList [.sg "(", .word "integer", .var w, .int (1 : Nat), .sg ")"] := by
    have e1 : ("(integer $" : Str).cps.toList = 40 :: (("integer" : Str).cps.toList ++ [32, 36]) := by decide +kernel
    have e3 : (" 1)" : Str).cps.toList = [32, 48 + 1, 41] := by decide +kernel
    rw [app_list, app_list, e1, e3]
    simp only [List.append_assoc, List.cons_append, List.nil_append]
    exact l_open (l_word (kw "integer") o_sp (l_sp (l_var hw o_sp (l_sp (l_dig (by decide) o_close (l_close lays_nil))))))
  refine ⟨_, hl, by simp, ?_, ?_⟩
  · have e1 : ("(integer $" : Str).length = 10 := by decide +kernel
    have e3 : (" 1)" : Str).length = 3 := by decide +kernel
    simp only [Str.length_append, e1, e3]; omega
  obtain ⟨p0, e0⟩ := tk_at hl (i := 0) rfl
  obtain ⟨p1, e1⟩ := tk_at hl (i := 1) rfl
  obtain ⟨p2, e2⟩ := tk_at hl (i := 2) rfl
  obtain ⟨p3, e3⟩ := tk_at hl (i := 3) rfl
  refine read_err (q := p3) ((tm_node e0 csig_ne).trans ((nd_some e1 sig_int (by decide)).trans ?_))
  rw [mn_ok (tm_var e2), many_zero]
  dsimp only
  unfold pClose
  rw [e3]
  exact if_neg (by show ("int" : Str) ≠ _; decide +kernel)
theorem bad3 : BadT ("(integers $" ++ w ++ ")") := by
  have lw := hw.hi
  have hl : Lays ("(integers $" ++ w ++ ")").cps.toList [.sg "(", .word "integers", .var w, .sg ")"] := by
    have e1 : ("(integers $" : Str).cps.toList = 40 :: (("integers" : Str).cps.toList ++ [32, 36]) := by decide +kernel
    have e3 : (")" : Str).cps.toList = [41] := by decide +kernel
    rw [app_list, app_list, e1, e3]
    simp only [List.append_assoc, List.cons_append, List.nil_append]
    exact l_open (l_word (kw "integers") o_sp (l_sp (l_var hw o_close (l_close lays_nil))))
  refine ⟨_, hl, by simp, ?_, ?_⟩
  · have e1 : ("(integers $" : Str).length = 11 := by decide +kernel
    have e3 : (")" : Str).length = 1 := by decide +kernel
    simp only [Str.length_append, e1, e3]; omega
  obtain ⟨p0, e0⟩ := tk_at hl (i := 0) rfl
  obtain ⟨p1, e1⟩ := tk_at hl (i := 1) rfl
  exact read_err ((tm_node e0 csig_ne).trans (nd_none e1 (by decide +kernel)))
theorem bad4 : BadT ("(less $" ++ w ++ ")") := by
  have lw := hw.hi
  have hl : Lays ("(less $" ++ w ++ ")").cps.toList [.sg "(", .word "less", .var w, .sg ")"] := by
    have e1 : ("(less $" : Str).cps.toList = 40 :: (("less" : Str).cps.toList ++ [32, 36]) := by decide +kernel
    have e3 : (")" : Str).cps.toList = [41] := by decide +kernel
    rw [app_list, app_list, e1, e3]
    simp only [List.append_assoc, List.cons_append, List.nil_append]
    exact l_open (l_word (kw "less") o_sp (l_sp (l_var hw o_close (l_close lays_nil))))
  refine ⟨_, hl, by simp, ?_, ?_⟩
  · have e1 : ("(less $" : Str).length = 7 := by decide +kernel
    have e3 : (")" : Str).length = 1 := by decide +kernel
    simp only [Str.length_append, e1, e3]; omega
  obtain ⟨p0, e0⟩ := tk_at hl (i := 0) rfl
  obtain ⟨p1, e1⟩ := tk_at hl (i := 1) rfl
  obtain ⟨p2, e2⟩ := tk_at hl (i := 2) rfl
  obtain ⟨p3, e3⟩ := tk_at hl (i := 3) rfl
  refine read_err (q := p3) ((tm_node e0 csig_ne).trans ((nd_some e1 (sig_el "less" (by decide +kernel)) (by decide)).trans ?_))
  rw [mn_ok (tm_var e2), mn_err (tm_err e3 (.inl rfl))]
theorem bad6 : BadT ("(integer $" ++ w ++ "))") := by
  have lw := hw.hi
  have hl : Lays ("(integer $" ++ w ++ "))").cps.toList [.sg "(", .word "integer", .var w, .sg ")", .sg ")"] := by
    have e1 : ("(integer $" : Str).cps.toList = 40 :: (("integer" : Str).cps.toList ++ [32, 36]) := by decide +kernel
    have e3 : ("))" : Str).cps.toList = [41, 41] := by decide +kernel
    rw [app_list, app_list, e1, e3]
    simp only [List.append_assoc, List.cons_append, List.nil_append]
    exact l_open (l_word (kw "integer") o_sp (l_sp (l_var hw o_close (l_close (l_close lays_nil)))))
  refine ⟨_, hl, by simp, ?_, ?_⟩
  · have e1 : ("(integer $" : Str).length = 10 := by decide +kernel
    have e3 : ("))" : Str).length = 2 := by decide +kernel
    simp only [Str.length_append, e1, e3]; omega
  obtain ⟨p0, e0⟩ := tk_at hl (i := 0) rfl
  obtain ⟨p1, e1⟩ := tk_at hl (i := 1) rfl
  obtain ⟨p2, e2⟩ := tk_at hl (i := 2) rfl
  obtain ⟨p3, e3⟩ := tk_at hl (i := 3) rfl
  obtain ⟨p4, e4⟩ := tk_at hl (i := 4) rfl
  have h : pTerm CSIG (toks ("(integer $" ++ w ++ "))").cps.toList) 61 0 0 = .ok (.node "integer" [.var w], 4) := by
    refine (tm_node e0 csig_ne).trans ((nd_some e1 sig_int (by decide)).trans ?_)
    rw [mn_ok (tm_var e2), many_zero]
    dsimp only
    unfold pClose
    rw [e3]
    exact if_pos rfl
  refine ⟨p4, ?_⟩
  unfold pRead
  rw [h]
  dsimp only
  rw [e4]
  exact if_neg (by intro z; cases z)
end
theorem bad2 : BadT "integer" := by
  have hl : Lays ("integer" : Str).cps.toList [.word "integer"] := (lt_word (kw "integer")).whole
  refine ⟨_, hl, by simp, by decide +kernel, ?_⟩
  obtain ⟨p0, e0⟩ := tk_at hl (i := 0) rfl
  exact read_err (tm_word e0 (by decide +kernel))
theorem bad5 : BadT "" := by
  have hl : Lays ("" : Str).cps.toList [] := by rw [show ("" : Str).cps.toList = [] by decide +kernel]; exact lays_nil
  refine ⟨_, hl, by simp, by decide +kernel, ?_⟩
  obtain ⟨p0, e0⟩ := tk_at hl (i := 0) rfl
  exact read_err (tm_err e0 (.inr (.inr rfl)))
theorem bad7 : BadT "(equal 01 1)" := by
  have hl : Lays ("(equal 01 1)" : Str).cps.toList [.sg "(", .word "equal", .bad, .int (1 : Nat), .sg ")"] := by
    rw [show ("(equal 01 1)" : Str).cps.toList = 40 :: (("equal" : Str).cps.toList ++ (32 :: ([48, 49] ++ [32, 48 + 1, 41]))) by decide +kernel]
    refine l_open (l_word (kw "equal") o_sp (l_sp ?_))
    have := lays_tok (piece_num (c := 48) (r := [49]) (.inr (by decide +kernel)) (by decide +kernel)) (u := [32, 48 + 1, 41]) (fun c hc => by
      have : (32 : Nat) = c := by simpa using hc
      rw [← this]; decide +kernel) (l_sp (l_dig (by decide) o_close (l_close lays_nil)))
    rwa [show tokOf [48, 49] = .bad by decide +kernel] at this
  refine ⟨_, hl, by simp, by decide +kernel, ?_⟩
  obtain ⟨p0, e0⟩ := tk_at hl (i := 0) rfl
  obtain ⟨p1, e1⟩ := tk_at hl (i := 1) rfl
  obtain ⟨p2, e2⟩ := tk_at hl (i := 2) rfl
  exact read_err ((tm_node e0 csig_ne).trans ((nd_some e1 (sig_el "equal" (by decide +kernel)) (by decide)).trans (by rw [mn_err (tm_err e2 (.inr (.inl rfl)))])))
end PK
namespace PK
open PySem L2 TL
def spNone : Sp := fun vs H Q _ => ∃ (l c : Addr) (w : Str) (n : Int), vs = [.ref l, .str w, .int n] ∧ Pool H l c ∧ Wd w ∧ 0 ≤ n ∧ n < 100 ∧ ∀ (x : Str) (H' : Hp), Ext l c H H' → NoneT x → Q (.str x) H'
def spBad : Sp := fun vs H Q _ => ∃ (l c : Addr) (w : Str), vs = [.ref l, .str w] ∧ Pool H l c ∧ Wd w ∧ ∀ (x : Str) (H' : Hp), Ext l c H H' → BadT x → Q (.str x) H'
section
variable {P : Program} {w : World} {K : PySem.W.Frag} {mg : Str → Option Value} {base : Heap}
theorem cat_le {a b : Str} {m n : Nat} (ha : a.length ≤ m) (hb : b.length ≤ n) : (a ++ b).length ≤ m + n := by rw [Str.length_append]; omega
/-- a drawn text of a list of texts -/
theorem pick_text {l c R : Addr} {H H' : Hp} {xs : List Str} (P0 : Pool H l c) (nR : R ≠ l) (hR : H R = some (.lst (xs.map V.str))) (x : Ext l c H H') {d : Int} (h0 : 0 ≤ d) (h1 : d < (xs.length : Int)) {Q : VK} (q : ∀ y, y ∈ xs → Q (.str y) H') : rIxL K (.ref R) (.int d) H' Q := by
  obtain ⟨j, rfl⟩ : ∃ j : Nat, d = j := ⟨d.toNat, by omega⟩
  have hj : j < xs.length := by omega
  exact ⟨R, _, _, _, rfl, rfl, SqL.of (x.keep _ _ nR hR), atI_nat (by rw [List.getElem?_map, List.getElem?_eq_getElem hj]; rfl), q _ (List.getElem_mem hj)⟩
abbrev s_law_none : Stmt := topS 51
theorem sc_law_none : FnScope ["pool", "word", "number", "first", "texts"] ["pool", "word", "number"] (defScope s_law_none) := ⟨rfl, rfl, rfl, by decide +kernel, rfl, by decide +kernel, by decide +kernel⟩
-- slots: 0:pool 1:word 2:number 3:first 4:texts
abbrev s_law_bad : Stmt := topS 52
theorem sc_law_bad : FnScope ["pool", "word", "texts"] ["pool", "word"] (defScope s_law_bad) := ⟨rfl, rfl, rfl, by decide +kernel, rfl, by decide +kernel, by decide +kernel⟩
-- slots: 0:pool 1:word 2:texts
theorem ok_none {f : Addr} {fd : FuncData} (F : Fun K "_law_none" "_law_none" s_law_none f fd) (T : Txt K mg) (C_law_take : C8.Cal P w K mg base 2 "_law_take" (spTake 2) []) : FnOk P w K mg base CX0 3 f fd ["pool", "word", "number"] spNone := by
  refine F.ok sc_law_none (fun vs H Q E h => ?_) (fun cdv A outer s H vs Q E hr h => ?_)
  · obtain ⟨_, _, _, _, rfl, _⟩ := h
    rfl
  obtain ⟨l, c, wd, n, rfl, P0, hw, n0, n1, q⟩ := h
  refine ⟨_, (pss_cons (ps_set (i := 3) sc_law_none.nd rfl (Or.inl rfl) (pe_op op_add_str (pe_op op_add_str (pe_op op_add_str (pe_op op_add_str pe_str (pv 1)) pe_str) (pe_callTy call_str_int (by rfl) T.z_str (by decide +kernel) (pa_cons (pv 2) pa_nil))) pe_str))
    (pss_cons (ps_set (i := 4) sc_law_none.nd rfl (Or.inl rfl) (pe_lst (pa_cons (pv 3) (pa_cons (pe_op op_add_str (pe_op op_add_str pe_str (pe_callTy call_str_int (by rfl) T.z_str (by decide +kernel) (pa_cons (pv 2) pa_nil))) pe_str) (pa_cons (pe_op op_add_str (pe_op op_add_str pe_str (pv 1)) pe_str) (pa_cons (pe_op op_add_str (pe_op op_add_str pe_str (pv 1)) pe_str) pa_nil))))))
    (pss_cons (ps_expr (pe_bm PySem.F.plainAttrs_list PySem.F.slot_list_append PySem.F.type_list_append mt_append (pv 4) (pa_cons (pe_op op_add_str (pe_op op_add_str (pe_op op_add_str (pe_op op_add_str pe_str (pv 1)) pe_str) (pv 1)) pe_str) pa_nil)))
    (pss_cons (ps_expr (pe_bm PySem.F.plainAttrs_list PySem.F.slot_list_append PySem.F.type_list_append mt_append (pv 4) (pa_cons (pe_op op_add_str (pe_op op_add_str pe_str (pv 1)) pe_str) pa_nil)))
    (pss_cons (ps_expr (pe_bm PySem.F.plainAttrs_list PySem.F.slot_list_append PySem.F.type_list_append mt_append (pv 4) (pa_cons (pe_op op_add_str pe_str (pv 1)) pa_nil)))
    (pss_cons (ps_expr (pe_bm PySem.F.plainAttrs_list PySem.F.slot_list_append PySem.F.type_list_append mt_append (pv 4) (pa_cons (pe_op op_add_str (pe_op op_add_str pe_str (pv 1)) pe_str) pa_nil)))
    (pss_cons (ps_expr (pe_bm PySem.F.plainAttrs_list PySem.F.slot_list_append PySem.F.type_list_append mt_append (pv 4) (pa_cons (pe_op op_add_str (pe_op op_add_str pe_str (pv 1)) pe_str) pa_nil)))
    (pss_cons (ps_expr (pe_bm PySem.F.plainAttrs_list PySem.F.slot_list_append PySem.F.type_list_append mt_append (pv 4) (pa_cons pe_str pa_nil)))
    (pss_cons (ps_expr (pe_bm PySem.F.plainAttrs_list PySem.F.slot_list_append PySem.F.type_list_append mt_append (pv 4) (pa_cons pe_str pa_nil)))
    (pss_one (ps_ret (pe_ix ix_list (pv 4) (C8.pe_c C_law_take hr (by decide) rfl (pa_cons (pv 0) (pa_cons pe_int pa_nil))) (fun _ _ => rfl))))))))))))), ?_⟩
  have b15 : -(10 ^ 15) < n ∧ n < 10 ^ 15 := ⟨by omega, by omega⟩
  have lw := hw.hi
  have ln : (Str.ofString (toString n)).length ≤ 16 := txt_len b15
  have k0 : ("(plus $" : Str).length = 7 := by decide +kernel
  have k1 : (" " : Str).length = 1 := by decide +kernel
  have k2 : (")" : Str).length = 1 := by decide +kernel
  have k3 : ("(integer " : Str).length = 9 := by decide +kernel
  have k4 : ("(not (not (name $" : Str).length = 17 := by decide +kernel
  have k5 : (")))" : Str).length = 3 := by decide +kernel
  have k6 : ("(has $" : Str).length = 6 := by decide +kernel
  have k7 : (" 5)" : Str).length = 3 := by decide +kernel
  have k8 : ("(less $" : Str).length = 7 := by decide +kernel
  have k9 : (" (plus $" : Str).length = 8 := by decide +kernel
  have k10 : (" 0))" : Str).length = 4 := by decide +kernel
  have k11 : ("(equal (plus 2 $" : Str).length = 16 := by decide +kernel
  have k12 : (") 1)" : Str).length = 4 := by decide +kernel
  have k13 : ("$" : Str).length = 1 := by decide +kernel
  have k14 : ("(has 'a $" : Str).length = 9 := by decide +kernel
  have k15 : ("(not $" : Str).length = 6 := by decide +kernel
  have k16 : ("(map {})" : Str).length = 8 := by decide +kernel
  have k17 : ("(equal {} 1)" : Str).length = 12 := by decide +kernel
  refine ⟨_, rfl, _, _, rfl, rfl, small (by simp only [Str.length_append, k0, k1, k2, k3, k4, k5, k6, k7, k8, k9, k10, k11, k12, k13, k14, k15, k16, k17]; omega), _, _, rfl, rfl, small (by simp only [Str.length_append, k0, k1, k2, k3, k4, k5, k6, k7, k8, k9, k10, k11, k12, k13, k14, k15, k16, k17]; omega), _, rfl, _, rfl, log_small b15, _, _, rfl, rfl, small (by simp only [Str.length_append, k0, k1, k2, k3, k4, k5, k6, k7, k8, k9, k10, k11, k12, k13, k14, k15, k16, k17]; omega), _, _, rfl, rfl, small (by simp only [Str.length_append, k0, k1, k2, k3, k4, k5, k6, k7, k8, k9, k10, k11, k12, k13, k14, k15, k16, k17]; omega), ?_⟩
  refine ⟨_, rfl, _, rfl, _, rfl, log_small b15, _, _, rfl, rfl, small (by simp only [Str.length_append, k0, k1, k2, k3, k4, k5, k6, k7, k8, k9, k10, k11, k12, k13, k14, k15, k16, k17]; omega), _, _, rfl, rfl, small (by simp only [Str.length_append, k0, k1, k2, k3, k4, k5, k6, k7, k8, k9, k10, k11, k12, k13, k14, k15, k16, k17]; omega), ?_⟩
  refine ⟨_, rfl, _, _, rfl, rfl, small (by simp only [Str.length_append, k0, k1, k2, k3, k4, k5, k6, k7, k8, k9, k10, k11, k12, k13, k14, k15, k16, k17]; omega), _, _, rfl, rfl, small (by simp only [Str.length_append, k0, k1, k2, k3, k4, k5, k6, k7, k8, k9, k10, k11, k12, k13, k14, k15, k16, k17]; omega), _, rfl, _, _, rfl, rfl, small (by simp only [Str.length_append, k0, k1, k2, k3, k4, k5, k6, k7, k8, k9, k10, k11, k12, k13, k14, k15, k16, k17]; omega), _, _, rfl, rfl, small (by simp only [Str.length_append, k0, k1, k2, k3, k4, k5, k6, k7, k8, k9, k10, k11, k12, k13, k14, k15, k16, k17]; omega), small (by show 4 ≤ _; decide), fun R hR => ?_⟩
  refine ⟨_, rfl, .inl ⟨rfl, _, SqL.of upd_same⟩, _, rfl, _, _, rfl, rfl, small (by simp only [Str.length_append, k0, k1, k2, k3, k4, k5, k6, k7, k8, k9, k10, k11, k12, k13, k14, k15, k16, k17]; omega), _, _, rfl, rfl, small (by simp only [Str.length_append, k0, k1, k2, k3, k4, k5, k6, k7, k8, k9, k10, k11, k12, k13, k14, k15, k16, k17]; omega), _, rfl, _, _, rfl, rfl, small (by simp only [Str.length_append, k0, k1, k2, k3, k4, k5, k6, k7, k8, k9, k10, k11, k12, k13, k14, k15, k16, k17]; omega), _, _, rfl, rfl, small (by simp only [Str.length_append, k0, k1, k2, k3, k4, k5, k6, k7, k8, k9, k10, k11, k12, k13, k14, k15, k16, k17]; omega), R, _, _, rfl, rfl, upd_same, smallL (by show 4 < _; decide), ?_⟩
  refine ⟨_, rfl, .inl ⟨rfl, _, SqL.of upd_same⟩, _, rfl, _, _, rfl, rfl, small (by simp only [Str.length_append, k0, k1, k2, k3, k4, k5, k6, k7, k8, k9, k10, k11, k12, k13, k14, k15, k16, k17]; omega), _, _, rfl, rfl, small (by simp only [Str.length_append, k0, k1, k2, k3, k4, k5, k6, k7, k8, k9, k10, k11, k12, k13, k14, k15, k16, k17]; omega), R, _, _, rfl, rfl, upd_same, smallL (by show 5 < _; decide), ?_⟩
  refine ⟨_, rfl, .inl ⟨rfl, _, SqL.of upd_same⟩, _, rfl, _, _, rfl, rfl, small (by simp only [Str.length_append, k0, k1, k2, k3, k4, k5, k6, k7, k8, k9, k10, k11, k12, k13, k14, k15, k16, k17]; omega), R, _, _, rfl, rfl, upd_same, smallL (by show 6 < _; decide), ?_⟩
  refine ⟨_, rfl, .inl ⟨rfl, _, SqL.of upd_same⟩, _, rfl, _, _, rfl, rfl, small (by simp only [Str.length_append, k0, k1, k2, k3, k4, k5, k6, k7, k8, k9, k10, k11, k12, k13, k14, k15, k16, k17]; omega), _, _, rfl, rfl, small (by simp only [Str.length_append, k0, k1, k2, k3, k4, k5, k6, k7, k8, k9, k10, k11, k12, k13, k14, k15, k16, k17]; omega), R, _, _, rfl, rfl, upd_same, smallL (by show 7 < _; decide), ?_⟩
  refine ⟨_, rfl, .inl ⟨rfl, _, SqL.of upd_same⟩, _, rfl, _, _, rfl, rfl, small (by simp only [Str.length_append, k0, k1, k2, k3, k4, k5, k6, k7, k8, k9, k10, k11, k12, k13, k14, k15, k16, k17]; omega), _, _, rfl, rfl, small (by simp only [Str.length_append, k0, k1, k2, k3, k4, k5, k6, k7, k8, k9, k10, k11, k12, k13, k14, k15, k16, k17]; omega), R, _, _, rfl, rfl, upd_same, smallL (by show 8 < _; decide), ?_⟩
  refine ⟨_, rfl, .inl ⟨rfl, _, SqL.of upd_same⟩, R, _, _, rfl, rfl, upd_same, smallL (by show 9 < _; decide), ?_⟩
  refine ⟨_, rfl, .inl ⟨rfl, _, SqL.of upd_same⟩, R, _, _, rfl, rfl, upd_same, smallL (by show 10 < _; decide), ?_⟩
  have nR : R ≠ l := (P0.ne hR).1
  have up : ∀ {H1 : Hp} {o : HO}, Ext l c H H1 → Ext l c H (upd H1 R o) := fun x => x.upd P0 hR
  have x9 := up (o := .lst [.str ("(plus $" ++ wd ++ " " ++ txt n ++ ")"), .str ("(integer " ++ txt n ++ ")"), .str ("(not (not (name $" ++ wd ++ ")))"), .str ("(has $" ++ wd ++ " 5)"), .str ("(less $" ++ wd ++ " (plus $" ++ wd ++ " 0))"), .str ("(equal (plus 2 $" ++ wd ++ ") 1)"), .str ("$" ++ wd), .str ("(has 'a $" ++ wd ++ ")"), .str ("(not $" ++ wd ++ ")"), .str "(map {})", .str "(equal {} 1)"]) (Ext.refl P0)
  rw [upd_upd, upd_upd, upd_upd, upd_upd, upd_upd, upd_upd, upd_upd]
  refine ⟨_, rfl, _, rfl, l, c, 11, False, rfl, x9.pool, by decide, by decide, .inl (Nat.le_refl 2), fun d H2 d0 d1 x2 => ?_⟩
  refine pick_text (xs := ["(plus $" ++ wd ++ " " ++ txt n ++ ")", "(integer " ++ txt n ++ ")", "(not (not (name $" ++ wd ++ ")))", "(has $" ++ wd ++ " 5)", "(less $" ++ wd ++ " (plus $" ++ wd ++ " 0))", "(equal (plus 2 $" ++ wd ++ ") 1)", "$" ++ wd, "(has 'a $" ++ wd ++ ")", "(not $" ++ wd ++ ")", "(map {})", "(equal {} 1)"]) x9.pool nR upd_same x2 d0 d1 fun y hy => q y H2 (x9.trans x2) ?_
  simp only [List.mem_cons, List.not_mem_nil, or_false] at hy
  rcases hy with rfl | rfl | rfl | rfl | rfl | rfl | rfl | rfl | rfl | rfl | rfl
  · exact none0 hw b15
  · exact none1 b15
  · exact none2 hw
  · exact none3 hw
  · exact none4 hw
  · exact none5 hw
  · exact none6 hw
  · exact none7 hw
  · exact none8 hw
  · exact none9
  · exact none10
theorem ok_bad {f : Addr} {fd : FuncData} (F : Fun K "_law_bad" "_law_bad" s_law_bad f fd) (T : Txt K mg) (C_law_take : C8.Cal P w K mg base 2 "_law_take" (spTake 2) []) : FnOk P w K mg base CX0 3 f fd ["pool", "word"] spBad := by
  refine F.ok sc_law_bad (fun vs H Q E h => ?_) (fun cdv A outer s H vs Q E hr h => ?_)
  · obtain ⟨_, _, _, rfl, _⟩ := h
    rfl
  obtain ⟨l, c, wd, rfl, P0, hw, q⟩ := h
  refine ⟨_, (pss_cons (ps_set (i := 2) sc_law_bad.nd rfl (Or.inl rfl) (pe_lst (pa_cons pe_str (pa_cons (pe_op op_add_str (pe_op op_add_str pe_str (pv 1)) pe_str) (pa_cons pe_str (pa_cons (pe_op op_add_str (pe_op op_add_str pe_str (pv 1)) pe_str) (pa_cons (pe_op op_add_str (pe_op op_add_str pe_str (pv 1)) pe_str) (pa_cons pe_str pa_nil))))))))
    (pss_cons (ps_expr (pe_bm PySem.F.plainAttrs_list PySem.F.slot_list_append PySem.F.type_list_append mt_append (pv 2) (pa_cons (pe_op op_add_str (pe_op op_add_str pe_str (pv 1)) pe_str) pa_nil)))
    (pss_cons (ps_expr (pe_bm PySem.F.plainAttrs_list PySem.F.slot_list_append PySem.F.type_list_append mt_append (pv 2) (pa_cons pe_str pa_nil)))
    (pss_one (ps_ret (pe_ix ix_list (pv 2) (C8.pe_c C_law_take hr (by decide) rfl (pa_cons (pv 0) (pa_cons pe_int pa_nil))) (fun _ _ => rfl))))))), ?_⟩
  have lw := hw.hi
  have k0 : ("(integer)" : Str).length = 9 := by decide +kernel
  have k1 : ("(integer $" : Str).length = 10 := by decide +kernel
  have k2 : (" 1)" : Str).length = 3 := by decide +kernel
  have k3 : ("integer" : Str).length = 7 := by decide +kernel
  have k4 : ("(integers $" : Str).length = 11 := by decide +kernel
  have k5 : (")" : Str).length = 1 := by decide +kernel
  have k6 : ("(less $" : Str).length = 7 := by decide +kernel
  have k7 : ("" : Str).length = 0 := by decide +kernel
  have k8 : ("))" : Str).length = 2 := by decide +kernel
  have k9 : ("(equal 01 1)" : Str).length = 12 := by decide +kernel
  refine ⟨_, rfl, _, _, rfl, rfl, small (by simp only [Str.length_append, k0, k1, k2, k3, k4, k5, k6, k7, k8, k9]; omega), _, _, rfl, rfl, small (by simp only [Str.length_append, k0, k1, k2, k3, k4, k5, k6, k7, k8, k9]; omega), _, rfl, _, _, rfl, rfl, small (by simp only [Str.length_append, k0, k1, k2, k3, k4, k5, k6, k7, k8, k9]; omega), _, _, rfl, rfl, small (by simp only [Str.length_append, k0, k1, k2, k3, k4, k5, k6, k7, k8, k9]; omega), _, rfl, _, _, rfl, rfl, small (by simp only [Str.length_append, k0, k1, k2, k3, k4, k5, k6, k7, k8, k9]; omega), _, _, rfl, rfl, small (by simp only [Str.length_append, k0, k1, k2, k3, k4, k5, k6, k7, k8, k9]; omega), small (by show 6 ≤ _; decide), fun R hR => ?_⟩
  refine ⟨_, rfl, .inl ⟨rfl, _, SqL.of upd_same⟩, _, rfl, _, _, rfl, rfl, small (by simp only [Str.length_append, k0, k1, k2, k3, k4, k5, k6, k7, k8, k9]; omega), _, _, rfl, rfl, small (by simp only [Str.length_append, k0, k1, k2, k3, k4, k5, k6, k7, k8, k9]; omega), R, _, _, rfl, rfl, upd_same, smallL (by show 6 < _; decide), ?_⟩
  refine ⟨_, rfl, .inl ⟨rfl, _, SqL.of upd_same⟩, R, _, _, rfl, rfl, upd_same, smallL (by show 7 < _; decide), ?_⟩
  have nR : R ≠ l := (P0.ne hR).1
  have up : ∀ {H1 : Hp} {o : HO}, Ext l c H H1 → Ext l c H (upd H1 R o) := fun x => x.upd P0 hR
  have x9 := up (o := .lst [.str ("(integer)"), .str ("(integer $" ++ wd ++ " 1)"), .str ("integer"), .str ("(integers $" ++ wd ++ ")"), .str ("(less $" ++ wd ++ ")"), .str (""), .str ("(integer $" ++ wd ++ "))"), .str ("(equal 01 1)")]) (Ext.refl P0)
  rw [upd_upd, upd_upd]
  refine ⟨_, rfl, _, rfl, l, c, 8, False, rfl, x9.pool, by decide, by decide, .inl (Nat.le_refl 2), fun d H2 d0 d1 x2 => ?_⟩
  refine pick_text (xs := ["(integer)", "(integer $" ++ wd ++ " 1)", "integer", "(integers $" ++ wd ++ ")", "(less $" ++ wd ++ ")", "", "(integer $" ++ wd ++ "))", "(equal 01 1)"]) x9.pool nR upd_same x2 d0 d1 fun y hy => q y H2 (x9.trans x2) ?_
  simp only [List.mem_cons, List.not_mem_nil, or_false] at hy
  rcases hy with rfl | rfl | rfl | rfl | rfl | rfl | rfl | rfl
  · exact bad0
  · exact bad1 hw
  · exact bad2
  · exact bad3 hw
  · exact bad4 hw
  · exact bad5
  · exact bad6 hw
  · exact bad7
end
end PK
namespace PK
open PySem L2 TL
/-! the pool -/
def enc (z : Int) : Int := if 0 ≤ z then 2 * z else -2 * z - 1
def spPool (K : PySem.W.Frag) : Sp := fun vs H Q _ => ∃ (a : Addr) (ns : List Int), vs = [.ref a] ∧ SqL K H a (ns.map V.int) ∧ ns.length ≤ 63 ∧
  ∀ (H' : Hp) (l c : Addr), Same H H' → H l = none → Pool H' l c → Q (.ref l) H'
section
variable {P : Program} {w : World} {K : PySem.W.Frag} {mg : Str → Option Value} {base : Heap}
abbrev s_law_pool : Stmt := topS 39
theorem sc_law_pool : FnScope ["script", "cell"] ["script"] (defScope s_law_pool) := ⟨rfl, rfl, rfl, by decide +kernel, rfl, by decide +kernel, by decide +kernel⟩
-- slots: 0:script 1:cell(comp)
theorem ok_pool {f : Addr} {fd : FuncData} (F : Fun K "_law_pool" "_law_pool" s_law_pool f fd) :
    FnOk P w K mg base CX0 1 f fd ["script"] (spPool K) := by
  refine F.ok sc_law_pool (fun vs H Q E h => ?_) (fun cdv A outer s H vs Q E hr h => ?_)
  · obtain ⟨a, ns, rfl, _⟩ := h
    rfl
  obtain ⟨a, ns, rfl, hS, hlen, q⟩ := h
  refine ⟨_, (pss_one (ps_ret (pe_lst (pa_cons (pe_lc (own := [("cell", 1)]) (g := (gName 1)) (tt := tYes) (by rfl) sc_law_pool.nd (pi_list (pv 0)) (blkOk_by (N := ["script", "cell"]) (sc := defScope s_law_pool) (by decide +kernel)) (fun _ _ _ _ _ => (pg_name (i := 1) sc_law_pool.nd rfl (Or.inl rfl))) (fun _ _ _ _ _ => pts_nil) (fun _ _ _ _ _ => (pe_ifExp (pt_cmpR op_ge (pv 1) pe_int (nomark _)) (pe_op op_mul pe_int (pv 1)) (pe_op op_sub (pe_op op_mul (pe_un un_neg pe_int) (pv 1)) pe_int)))) (pa_cons pe_int (pa_cons pe_int (pa_cons pe_int pa_nil))))))), ?_⟩
  refine ⟨_, rfl, a, rfl, ⟨_, hS⟩, fun D hD => lc_list (K := K) (a := a) (xs := ns.map V.int) (fun i H' => i ≤ ns.length ∧ Same H H' ∧ H' D = some (.lst (((ns.take i).map enc).map V.int))) ⟨Nat.zero_le _, same_new hD, upd_same⟩ (fun i H' _ h => h.2.1.seq hS) ?_ ?_⟩
  · rintro i x H' hi ⟨_, sm, hd⟩
    have hi2 : i < ns.length := by
      have := (List.getElem?_eq_some_iff.mp hi).1
      rw [List.length_map] at this
      exact this
    rw [List.getElem?_map, List.getElem?_eq_getElem hi2] at hi
    cases hi
    have fin : ∀ z : Int, z = enc ns[i] → upd H' D (.lst (((ns.take i).map enc).map V.int ++ [V.int z])) D = some (.lst (((ns.take (i + 1)).map enc).map V.int)) := fun z e => by
      rw [upd_same, List.take_add_one, List.getElem?_eq_getElem hi2, List.map_append, List.map_append, e]
      rfl
    have ll : (((ns.take i).map enc).map V.int).length < sizeLine := by
      rw [List.length_map, List.length_map, List.length_take]
      exact smallL (by omega)
    refine ⟨rfl, yes_ ⟨_, rfl, _, _, rfl, rfl, _, rfl, ite2 (fun e => ?_) (fun e => ?_)⟩⟩
    · have e' : ns[i] ≥ 0 := of_decide_eq_true e
      exact ⟨_, rfl, _, _, rfl, rfl, .inl ⟨by decide, by decide⟩, _, hd, ll, hi2, Same.upd sm hD, fin _ (by unfold enc; rw [if_pos e'])⟩
    · have e' : ¬ ns[i] ≥ 0 := fun z => e (decide_eq_true z)
      exact ⟨_, rfl, _, rfl, _, _, rfl, rfl, .inl ⟨by decide, by decide⟩, _, _, rfl, rfl, _, hd, ll, hi2, Same.upd sm hD, fin _ (by unfold enc; rw [if_neg (by omega)])⟩
  · rintro H' ⟨_, sm, hd⟩
    rw [List.length_map, List.take_of_length_le (Nat.le_refl _)] at hd
    refine ⟨small (by show 4 ≤ _; decide), fun p hp => ?_⟩
    refine q _ p D (Same.upd sm (sm.free hp)) (sm.free hp) ⟨ns.map enc, 0, 0, 17, upd_same, by rw [upd_ne (ne_of_none hd hp)]; exact hd, ne_of_none hd hp, fun n hn => ?_, by decide, by decide, by decide, by decide, False.elim⟩
    obtain ⟨z, _, rfl⟩ := List.mem_map.mp hn
    unfold enc
    split <;> omega
end
/-! slim data -/
theorem slim_tup {ds : List PyData} (h : ds.length ≤ 1000) (h2 : slimAll ds = true) : slim (.tuple ds) = true := by
  unfold slim
  exact Bool.and_eq_true_iff.mpr ⟨decide_eq_true h, h2⟩
theorem slim_list {ds : List PyData} (h : ds.length ≤ 1000) (h2 : slimAll ds = true) : slim (.list ds) = true := by
  unfold slim
  exact Bool.and_eq_true_iff.mpr ⟨decide_eq_true h, h2⟩
theorem slim_all : ∀ {ds : List PyData}, (∀ d ∈ ds, slim d = true) → slimAll ds = true
  | [], _ => by unfold slimAll; rfl
  | d :: r, h => by
    unfold slimAll
    exact Bool.and_eq_true_iff.mpr ⟨h d List.mem_cons_self, slim_all fun x hx => h x (List.mem_cons_of_mem _ hx)⟩
theorem slim_str (x : Str) : slim (.str x) = true := by unfold slim; rfl
theorem depth_all : ∀ {ds : List PyData} {n : Nat}, (∀ d ∈ ds, d.depth ≤ n) → PyData.depthAll ds ≤ n
  | [], _, _ => Nat.zero_le _
  | d :: r, n, h => by
    show max _ _ ≤ n
    have h1 := h d List.mem_cons_self
    have h2 := depth_all (ds := r) fun x hx => h x (List.mem_cons_of_mem _ hx)
    omega
/-! the dict of what is found -/
end PK
namespace PK
open PySem L2 TL
theorem merge2 {a b : Key} {x y : V} (h : a ≠ b) : mergeK [] [(a, x), (b, y)] = [(a, x), (b, y)] := by
  show putK (putK [] a x) b y = _
  have e1 : putK ([] : List (Key × V)) a x = [(a, x)] := putK_new x rfl
  rw [e1]
  exact putK_new y (by show valV [(a, x)] b = none; simp [valV, h])
theorem Op.dp (o : Op) : o.d.depth ≤ 2 := by cases o <;> exact Nat.le_of_ble_eq_true rfl
theorem Op.sl (o : Op) : slim o.d = true := by
  cases o with
  | sum w n => exact slim_tup (Nat.le_of_ble_eq_true rfl) (slim_all fun d hd => by
      simp only [List.mem_cons, List.not_mem_nil, or_false] at hd
      rcases hd with rfl | rfl | rfl <;> (unfold slim; rfl))
  | _ => exact slim_tup (Nat.le_of_ble_eq_true rfl) (slim_all fun d hd => by
      simp only [List.mem_cons, List.not_mem_nil, or_false] at hd
      rcases hd with rfl | rfl <;> (unfold slim; rfl))
theorem Cd.dp (c : Cd) : c.d.depth ≤ 4 := by
  cases c with
  | one h x => exact Nat.le_of_ble_eq_true rfl
  | two h a b =>
    have : PyData.depthAll [.str h, a.d, b.d] ≤ 3 := depth_all fun d hd => by
      simp only [List.mem_cons, List.not_mem_nil, or_false] at hd
      rcases hd with rfl | rfl | rfl
      · exact Nat.le_of_ble_eq_true rfl
      · have := a.dp; omega
      · have := b.dp; omega
    show PyData.depthAll [.str h, a.d, b.d] + 1 ≤ 4
    omega
  | has x k =>
    have : PyData.depthAll [.str "has", .str x, k.d] ≤ 3 := depth_all fun d hd => by
      simp only [List.mem_cons, List.not_mem_nil, or_false] at hd
      rcases hd with rfl | rfl | rfl
      · exact Nat.le_of_ble_eq_true rfl
      · exact Nat.le_of_ble_eq_true rfl
      · have := k.dp; omega
    show PyData.depthAll [.str "has", .str x, k.d] + 1 ≤ 4
    omega
theorem Cd.sl (c : Cd) : slim c.d = true := by
  cases c with
  | one h x => exact slim_tup (Nat.le_of_ble_eq_true rfl) (slim_all fun d hd => by
      simp only [List.mem_cons, List.not_mem_nil, or_false] at hd
      rcases hd with rfl | rfl <;> (unfold slim; rfl))
  | two h a b => exact slim_tup (Nat.le_of_ble_eq_true rfl) (slim_all fun d hd => by
      simp only [List.mem_cons, List.not_mem_nil, or_false] at hd
      rcases hd with rfl | rfl | rfl
      · exact slim_str _
      · exact a.sl
      · exact b.sl)
  | has x k => exact slim_tup (Nat.le_of_ble_eq_true rfl) (slim_all fun d hd => by
      simp only [List.mem_cons, List.not_mem_nil, or_false] at hd
      rcases hd with rfl | rfl | rfl
      · exact slim_str _
      · exact slim_str _
      · exact k.sl)
theorem Cn.dp (c : Cn) : c.d.depth < 8 := by
  cases c with
  | pl c => have := c.dp; show c.d.depth < 8; omega
  | no c =>
    have : PyData.depthAll [.str "not", c.d] ≤ 5 := depth_all fun d hd => by
      simp only [List.mem_cons, List.not_mem_nil, or_false] at hd
      rcases hd with rfl | rfl
      · exact Nat.le_of_ble_eq_true rfl
      · have := c.dp; omega
    show PyData.depthAll [.str "not", c.d] + 1 < 8
    omega
theorem Cn.sl (c : Cn) : slim c.d = true := by
  cases c with
  | pl c => exact c.sl
  | no c => exact slim_tup (Nat.le_of_ble_eq_true rfl) (slim_all fun d hd => by
      simp only [List.mem_cons, List.not_mem_nil, or_false] at hd
      rcases hd with rfl | rfl
      · exact slim_str _
      · exact c.sl)
structure ClsP (K : PySem.W.Frag) (mg : Str → Option Value) (CP CT CB : Addr) : Prop where
  gP : mg "PassError" = some (.ref CP)
  gT : mg "TextError" = some (.ref CT)
  eB : ExcC K CB
  mB : PySem.W.exmOne K (.ref CB) (.ref CT) = some true
  kB : PySem.W.kitOne K (.ref CB) (.ref CP) = some true
def spLaw (K : PySem.W.Frag) : Sp := fun vs H Q _ => ∃ (a : Addr) (ns : List Int), vs = [.ref a] ∧ SqL K H a (ns.map V.int) ∧ ns.length ≤ 63 ∧ ∀ H', Q (.bl true) H'
/-- what of a condition's text is asked of read_condition -/
theorem outC_cn {K : PySem.W.Frag} {CB CD_ : Addr} {H : Hp} {Q : VK} {E : XK} {names : List Str} {cn : Cn} {x : Str} (ok : cn.Ok names) (hl : LT x cn.tk) (q : ∀ v H', Same H H' → Dt K H' v cn.d → Q v H') : outC K CB CD_ H Q E (pRead CSIG x.cps.toList) := by
  rw [text_ok hl.whole (Cn.fl ok) (by decide)]
  obtain ⟨h1, h2, h3, h4⟩ := Cn.w_d ok
  refine ⟨Cn.okC ok, cn.cd, h1, h3, fun v H' s' hv => q v H' s' ?_⟩
  rw [if_pos h4, h2] at hv
  exact hv
theorem outC_none {K : PySem.W.Frag} {CB CD_ : Addr} {H : Hp} {Q : VK} {E : XK} {x : Str} (h : NoneT x) (q : ∀ H', Same H H' → Q .non H') : outC K CB CD_ H Q E (pRead CSIG x.cps.toList) := by
  obtain ⟨t, ts, hl, hf, okc, ⟨c, h1, h2, h3⟩, hn, hlen⟩ := h
  rw [text_ok hl hf (by decide)]
  refine ⟨okc, c, h1, h2, fun v H' s' hv => ?_⟩
  rw [h3, if_neg Bool.false_ne_true] at hv
  rw [hv]
  exact q H' s'
theorem none_few {x : Str} (h : NoneT x) : x.length ≤ 4000 ∧ ∃ N : List Str, N.length < 64 ∧ ∀ w p, (Tk.name w, p) ∈ toks x.cps.toList → w ∈ N := by
  obtain ⟨t, ts, hl, hf, okc, ⟨c, h1, h2, h3⟩, hn, hlen⟩ := h
  exact ⟨by omega, few_of hl (by decide) hn⟩
section
variable {P : Program} {w : World} {K : PySem.W.Frag} {mg : Str → Option Value} {base : Heap} {CP CT CB CD_ : Addr}
abbrev s_law : Stmt := topS 53
theorem sc_law : FnScope ["script", "pool", "words", "box", "k", "condition", "text", "again", "wrong"] ["script"] (defScope s_law) := ⟨rfl, rfl, rfl, by decide +kernel, rfl, by decide +kernel, by decide +kernel⟩
-- slots: 0:script 1:pool 2:words 3:box 4:k 5:condition 6:text 7:again 8:wrong
theorem ok_law {f : Addr} {fd : FuncData} (F : Fun K "law" "law" s_law f fd) (T : Txt K mg) (X : ClsP K mg CP CT CB) (C_law_pool : C8.Cal P w K mg base 1 "_law_pool" (spPool K) []) (C_law_take : C8.Cal P w K mg base 2 "_law_take" (spTake 2) []) (C_law_words : C8.Cal P w K mg base 3 "_law_words" spWords [])
    (C_law_condition : C8.Cal P w K mg base 6 "_law_condition" (spCond K) []) (C_law_blank : C8.Cal P w K mg base 3 "_law_blank" spBlank []) (C_law_text : C8.Cal P w K mg base 6 "_law_text" (spText K 2) []) (C_law_same : C8.Cal P w K mg base 8 "_law_same" (spSame K 8) [])
    (C_law_none : C8.Cal P w K mg base 3 "_law_none" spNone []) (C_law_bad : C8.Cal P w K mg base 3 "_law_bad" spBad []) (C_read_condition : CalR P w K mg base 129 "read_condition" (spRC K CB CD_)) : FnOk P w K mg base CX0 131 f fd ["script"] (spLaw K) := by
  refine F.ok sc_law (fun vs H Q E h => ?_) (fun cdv A outer s H vs Q E hr h => ?_)
  · obtain ⟨a, ns, rfl, _⟩ := h
    rfl
  obtain ⟨a, ns, rfl, hS, hlen, q⟩ := h
  refine ⟨_, (pss_cons (ps_set (i := 1) sc_law.nd rfl (Or.inl rfl) (C8.pe_c C_law_pool hr (by decide) rfl (pa_cons (pv 0) pa_nil)))
    (pss_cons (ps_set (i := 2) sc_law.nd rfl (Or.inl rfl) (C8.pe_c C_law_words hr (by decide) rfl (pa_cons (pv 1) (pa_cons (pe_op op_add pe_int (C8.pe_c C_law_take hr (by decide) rfl (pa_cons (pv 1) (pa_cons pe_int pa_nil)))) pa_nil))))
    (pss_cons (ps_set (i := 3) sc_law.nd rfl (Or.inl rfl) (pe_disp (pps_cons pe_str (C8.pe_c C_law_words hr (by decide) rfl (pa_cons (pv 1) (pa_cons pe_int pa_nil))) (pps_cons pe_str (pv 2) pps_nil)) (by rfl) (by rfl) (fun z => by cases z) (by decide)))
    (pss_cons (ps_for PassesOwn.never rfl (pi_range1 (by rfl) T.z_range (pa_cons pe_int pa_nil)) (pg_name (i := 4) sc_law.nd rfl (Or.inl rfl)) (pss_cons (ps_set (i := 5) sc_law.nd rfl (Or.inl rfl) (C8.pe_c C_law_condition hr (by decide) rfl (pa_cons (pv 1) (pa_cons (pv 3) pa_nil))))
    (C8.pss_cut (ps_if (pt_cmpR op_eq (C8.pe_c C_law_take hr (by decide) rfl (pa_cons (pv 1) (pa_cons pe_int pa_nil))) pe_int (nomark _)) (pss_one (ps_set (i := 5) sc_law.nd rfl (Or.inl rfl) (pe_tup (pa_cons pe_str (pa_cons (pv 5) pa_nil))))) pss_nil)
    (pss_cons (ps_set (i := 6) sc_law.nd rfl (Or.inl rfl) (pe_op op_add_str (pe_op op_add_str (C8.pe_c C_law_blank hr (by decide) rfl (pa_cons (pv 1) (pa_cons pe_int pa_nil))) (C8.pe_c C_law_text hr (by decide) rfl (pa_cons (pv 1) (pa_cons (pv 5) pa_nil)))) (C8.pe_c C_law_blank hr (by decide) rfl (pa_cons (pv 1) (pa_cons pe_int pa_nil)))))
    (pss_one (ps_for PassesOwn.never rfl (pi_range1 (by rfl) T.z_range (pa_cons pe_int pa_nil)) (pg_name (i := 7) sc_law.nd rfl (Or.inl rfl)) (pss_one (ps_if (pt_not (pt_val (C8.pe_c C_law_same hr (by decide) rfl (pa_cons (pe_cr C_read_condition hr (by decide) rfl (pa_cons (pv 6) pa_nil)) (pa_cons (pv 5) pa_nil))))) (pss_one (ps_ret pe_bl)) pss_nil))))))))
    (pss_cons (ps_if (pt_cmpR op_notN (pe_cr C_read_condition hr (by decide) rfl (pa_cons (C8.pe_c C_law_none hr (by decide) rfl (pa_cons (pv 1) (pa_cons (pe_ix ix_list (pv 2) pe_int (fun _ _ => rfl)) (pa_cons (pe_op op_add pe_int (C8.pe_c C_law_take hr (by decide) rfl (pa_cons (pv 1) (pa_cons pe_int pa_nil)))) pa_nil)))) pa_nil)) pe_non (nomark _)) (pss_one (ps_ret pe_bl)) pss_nil)
    (pss_cons (PKR.ps_try_row rfl rfl sc_law.nd takes0 (fun W pn xe tk _ => pss_one (ps_expr (pe_crS C_read_condition tk hr (by decide) rfl (pa_cons (C8.pe_c C_law_bad hr (by decide) rfl (pa_cons (pv 1) (pa_cons (pe_ix (r := rIxL K) ix_list (pv 2) pe_int (fun _ _ => rfl)) pa_nil))) pa_nil)))) (.cons (i := 8) (c := .ref CT) rfl rfl ⟨rfl, by decide, .inl X.gT⟩ (fun a oe cls d pn hz hf => pss_one (ps_ret (pe_callB (PKR.call_isX hz hf) (by rfl) T.z_isinstance (by decide +kernel) (pa_cons (pv 8) (pa_cons (pe_glob (v := .ref CP) rfl X.gP rfl) pa_nil))))) .nil))
    (pss_one (ps_ret pe_bl)))))))), ?_⟩
  refine ⟨_, rfl, a, ns, rfl, hS, hlen, fun H0 l c s0 hl0 P0 => ?_⟩
  -- words
  refine ⟨_, rfl, vTake rfl P0 (by decide) (by decide) fun d1 H1 d10 d11 x1 => ?_⟩
  obtain ⟨m1, rfl⟩ : ∃ m : Nat, d1 = m := ⟨d1.toNat, by omega⟩
  refine ⟨_, _, rfl, rfl, l, c, 1 + m1, by rw [Int.natCast_add]; rfl, x1.pool, by omega, fun H2 ps sure x2 hps h2 hl2 hnd2 hw2 => ?_⟩
  have S : Nm H2 l ps sure := ⟨h2, (x1.pool.ne hps).1, by omega, by omega, fun x hx => (hw2 x hx).1⟩
  have P2 := x2.pool
  -- box
  refine fun bx hbx => ⟨_, rfl, l, c, 2, rfl, P2.upd (P2.ne hbx).1 (P2.ne hbx).2, by decide, fun H4 pn names x4 hpn h4 hl4 hnd4 hw4 => ?_⟩
  have nbl : bx ≠ l := (P2.ne hbx).1
  have hb4 : H4 bx = some (.dK []) := x4.keep _ _ nbl upd_same
  refine ⟨_, rfl, hb4, [(Sum.inr "names", .ref pn), (Sum.inr "sure", .ref ps)], rfl, by show 2 ≤ 15; decide, ?_⟩
  rw [merge2 (show (Sum.inr ("names" : Str) : Key) ≠ Sum.inr ("sure" : Str) by decide +kernel)]
  have xa : Ext l c H2 (upd H2 bx (.dK [])) := (Ext.refl P2).upd P2 hbx
  have N4 : Nm H4 l pn names := ⟨h4, (xa.pool.ne hpn).1, by omega, by omega, fun x hx => (hw4 x hx).1⟩
  have S4 : Nm H4 l ps sure := S.ext (xa.trans x4)
  have x5 : Ext l c H2 (upd H4 bx (.dK [(Sum.inr "names", .ref pn), (Sum.inr "sure", .ref ps)])) := (xa.trans x4).upd P2 hbx
  have npn : pn ≠ bx := fun e => by rw [e, upd_same] at hpn; cases hpn
  have nps : ps ≠ bx := fun e => by rw [e] at h2; rw [h2] at hbx; cases hbx
  have B : Box (upd H4 bx (.dK [(Sum.inr "names", .ref pn), (Sum.inr "sure", .ref ps)])) l bx names sure :=
    ⟨pn, ps, upd_same, nbl, ⟨by rw [upd_ne npn]; exact N4.at_, N4.ne, N4.ne0, N4.le, N4.wd⟩, ⟨by rw [upd_ne nps]; exact S4.at_, S4.ne, S4.ne0, S4.le, S4.wd⟩⟩
  have SB : Nm (upd H4 bx (.dK [(Sum.inr "names", .ref pn), (Sum.inr "sure", .ref ps)])) l ps sure := ⟨by rw [upd_ne nps]; exact S4.at_, S4.ne, S4.ne0, S4.le, S4.wd⟩
  generalize upd H4 bx (.dK [(Sum.inr "names", .ref pn), (Sum.inr "sure", .ref ps)]) = HB at x5 B SB
  have PB := x5.pool
  have nlen : names.length < 64 := by omega
  refine ⟨6, rfl, by decide, by decide, for_range (n := 6) (fun i σ H' => ∃ b1 b2 b3 b4 : Option V, σ = [some (.ref a), some (.ref l), some (.ref ps), some (.ref bx), b1, b2, b3, b4, none] ∧ Ext l c HB H') ?_ ?_ ?_⟩
  · exact ⟨none, none, none, none, rfl, Ext.refl PB⟩
  · rintro i σ H' hi ⟨b1, b2, b3, b4, rfl, x⟩
    refine ⟨_, rfl, _, rfl, l, c, bx, names, sure, rfl, x.pool, B.ext x, fun v d H6 x6 dv dok => ?_⟩
    have x7 := x.trans x6
    refine ⟨fun σ H' => ∃ (v : V) (cn : Cn), σ = [some (.ref a), some (.ref l), some (.ref ps), some (.ref bx), some (.int (0 + (i : Int))), some v, b3, b4, none] ∧ Ext l c HB H' ∧ Dt K H' v cn.d ∧ cn.Ok names, ?_, ?_⟩
    · refine vTake rfl x7.pool (by decide) (by decide) fun e H7 e0 e1 x8 => ⟨rfl, _, rfl, ite2 (fun _ => ?_) (fun _ => ?_)⟩
      · refine ⟨_, rfl, small (by show 2 ≤ _; decide), fun t ht => ?_⟩
        exact ⟨_, .no d, rfl, (x7.trans x8).new PB ht, Dt.mk2 ht (.str _) (dv.ext x7.pool x8), dok⟩
      · exact ⟨_, .pl d, rfl, x7.trans x8, dv.ext x7.pool x8, dok⟩
    · rintro σ H7 ⟨v, cn, rfl, x8, dv, dok⟩
      refine ⟨_, rfl, l, c, 0, rfl, x8.pool, by omega, fun s1 H8 y1 hs1 _ ls1 => ?_⟩
      refine ⟨_, rfl, _, rfl, l, c, v, cn, names, rfl, y1.pool, dv.ext x8.pool y1, dok, .inl (Nat.le_refl 2), fun s2 H9 y2 hs2 ls2 => ?_⟩
      have lM := cn.parts_len.2.2.1
      refine ⟨_, _, rfl, rfl, small (by omega), ⟨_, rfl, l, c, 0, rfl, y2.pool, by omega, fun s3 H10 y3 hs3 _ ls3 => ?_⟩⟩
      refine ⟨_, _, rfl, rfl, small (by rw [Str.length_append]; omega), ?_⟩
      have y := (y1.trans y2).trans y3
      have lt := LT.post hs3 (LT.pre hs1 hs2)
      have ltl : ((s1 ++ s2) ++ s3).length ≤ 4000 := by rw [Str.length_append, Str.length_append]; omega
      have dv10 := dv.ext x8.pool y
      have x10 := x8.trans y
      generalize (s1 ++ s2) ++ s3 = tx at lt ltl
      refine ⟨2, rfl, by decide, by decide, for_range (n := 2) (fun k σ H' => ∃ b4 : Option V, σ = [some (.ref a), some (.ref l), some (.ref ps), some (.ref bx), some (.int (0 + (i : Int))), some v, some (.str tx), b4, none] ∧ Same H10 H') ?_ ?_ ?_⟩
      · exact ⟨b4, rfl, Same.refl _⟩
      · rintro k σ H' hk ⟨b4, rfl, sm⟩
        refine ⟨_, rfl, tx, rfl, ltl, few_of lt.whole nlen (Cn.names dok), outC_cn dok lt fun v2 H11 s11 dv2 => ?_⟩
        refine ⟨_, rfl, v2, v, cn.d, rfl, Dt.dp _ _ dv2, Dt.dp _ _ ((dv10.same sm).same s11), cn.dp, cn.sl, fun H12 s12 => ⟨_, rfl, iteF ⟨_, rfl, (sm.trans s11).trans s12⟩⟩⟩
      · rintro σ H' ⟨b4, rfl, sm⟩
        exact ⟨_, _, _, _, rfl, x10.same sm⟩
  · rintro σ H' ⟨b1, b2, b3, b4, rfl, x⟩
    have S9 := SB.ext x
    have s00 : 0 < sure.length := by omega
    have g0 : (sure.map V.str)[0]? = some (.str sure[0]) := by rw [List.getElem?_map, List.getElem?_eq_getElem s00]; rfl
    have hw0 : Wd sure[0] := S9.wd _ (List.getElem_mem s00)
    refine ⟨_, rfl, ⟨_, rfl, ps, _, _, _, rfl, rfl, SqL.of S9.at_, at_of (j := 0) rfl g0, ?_⟩⟩
    refine vTake rfl x.pool (by decide) (by decide) fun e H7 e0 e1 x8 => ⟨_, _, rfl, rfl, l, c, sure[0], 1 + e, rfl, x8.pool, hw0, by omega, by omega, fun tx H8 x9 hn => ?_⟩
    refine ⟨tx, rfl, (none_few hn).1, (none_few hn).2, outC_none hn fun H9 s9 => ?_⟩
    refine ⟨rfl, _, rfl, iteF ?_⟩
    have S10 := (S9.ext (x8.trans x9))
    have P9 := x9.pool.same s9
    refine ⟨_, rfl, _, rfl, ps, _, _, _, rfl, rfl, SqL.of (s9 _ _ S10.at_), at_of (j := 0) rfl g0, l, c, sure[0], rfl, P9, hw0, fun t2 H10 x10 hb => ?_⟩
    obtain ⟨ts, hl, hn2, hlen2, qq, hp⟩ := hb
    refine ⟨t2, rfl, by omega, few_of hl (by decide) hn2, ?_⟩
    rw [hp]
    intro d H11 s11 hd
    refine ⟨true, X.mB, fun _ a na => ?_, fun z => Bool.noConfusion z⟩
    exact ⟨_, rfl, .ref CP, .ref CP, true, CB, d, _, rfl, fun u h => h, rfl, rfl, hd, X.eB, X.kB, q H11⟩
end
end PK
namespace PK
open PySem L2
section
variable {P : Program} {w : World} {K : PySem.W.Frag} {mg : Str → Option Value} {base : Heap}
theorem none_okX {f : Addr} {fd : FuncData} {ps : List Str} {sp : Sp} {k : Nat} (no : ∀ vs H Q E, ¬ sp vs H Q E) : FnOk P w K mg base (L2.CX P w) k f fd ps sp :=
  ⟨fun vs H Q E h => absurd h (no vs H Q E), fun A outer s H args us vs Q E _ _ _ _ h => absurd h (no vs H Q E)⟩
theorem none_ok {f : Addr} {fd : FuncData} {ps : List Str} {sp : Sp} {k : Nat} (no : ∀ vs H Q E, ¬ sp vs H Q E) : FnOk P w K mg base CX0 k f fd ps sp :=
  ⟨fun vs H Q E h => absurd h (no vs H Q E), fun A outer s H args us vs Q E _ _ _ _ h => absurd h (no vs H Q E)⟩
theorem cal_mk {x : Str} {f : Addr} {fd : FuncData} {ps : List Str} {sp : Sp} {k : Nat} (G : FnOk P w K mg base CX0 k f fd ps sp) (m : mg x = some (.ref f)) (kp : PySem.W.keepIn K (.ref f) = true) (b : Binds K fd ps []) : C8.Cal P w K mg base k x sp [] :=
  ⟨f, fd, ps, [], G, m, kp, b, .nil⟩
end
theorem kit_t {K : PySem.W.Frag} {D C : Addr} (h1 : PySem.W.isClsIn K C = true) (h2 : PySem.W.typeIn K (.ref C) = some (.type "type")) (h3 : PySem.W.subIn K (.ref D) (.ref C) = some true) : PySem.W.kitOne K (.ref D) (.ref C) = some true := by
  have h1' : (PySem.W.clsIn K C).isSome = true := h1
  unfold PySem.W.kitOne
  split
  · rfl
  · show (if ((PySem.W.clsIn K C).isSome && PySem.W.typeIn K (.ref C) == some (.type "type")) = true then PySem.W.subIn K (.ref D) (.ref C) else none) = some true
    rw [if_pos (by rw [h1', h2] <;> rfl)]
    exact h3
theorem kit_f {K : PySem.W.Frag} {D C : Addr} (ne : D ≠ C) (h1 : PySem.W.isClsIn K C = true) (h2 : PySem.W.typeIn K (.ref C) = some (.type "type")) (h3 : PySem.W.subIn K (.ref D) (.ref C) = some false) : PySem.W.kitOne K (.ref D) (.ref C) = some false := by
  have h1' : (PySem.W.clsIn K C).isSome = true := h1
  unfold PySem.W.kitOne
  split
  · rename_i e
    exact absurd (Value.ref.inj (beq_iff_eq.mp e)) ne
  · show (if ((PySem.W.clsIn K C).isSome && PySem.W.typeIn K (.ref C) == some (.type "type")) = true then PySem.W.subIn K (.ref D) (.ref C) else none) = some false
    rw [if_pos (by rw [h1', h2] <;> rfl)]
    exact h3
set_option maxHeartbeats 0 in
theorem all_mk {l : PySem.W.OpenLaw} {w : World} {K : PySem.W.Frag} {h : Heap} {mg : Str → Option Value} {fa f1 f2 f3 f4 f5 f6 f7 f8 f9 f10 f11 f12 f13 f14 f15 f16 f17 f18 f19 f20 f21 f22 f23 f24 f25 f26 f27 f28 f29 f30 f31 : Addr} (X : K.In h) (G : h.Ns mainGlobals mg) (hfa : mg "law" = some (.ref fa))
    {od1 an1 od2 an2 od3 an3 od4 an4 od5 an5 od6 an6 od7 an7 od8 an8 od9 an9 od10 an10 od11 an11 od12 an12 od13 an13 od14 an14 od15 an15 od16 an16 od17 an17 od18 an18 od19 an19 od20 an20 od21 an21 od22 an22 od23 an23 od24 an24 od25 an25 od26 an26 od27 an27 od28 an28 od29 an29 od30 an30 od31 an31 : Option Addr} {sl1 sl2 sl3 sl4 sl5 sl6 sl7 sl8 sl9 sl10 sl11 sl12 sl13 sl14 sl15 sl16 sl17 sl18 sl19 sl20 sl21 sl22 sl23 sl24 sl25 sl26 sl27 sl28 sl29 sl30 sl31 : Array (Option Value)} {oc1 kV1 dc1 pm1 cd1 ct1 oc2 kV2 dc2 pm2 cd2 ct2 oc3 kV3 dc3 pm3 cd3 ct3 oc4 kV4 dc4 pm4 cd4 ct4 oc5 kV5 dc5 pm5 cd5 ct5 oc6 kV6 dc6 pm6 cd6 ct6 oc7 kV7 dc7 pm7 cd7 ct7 oc8 kV8 dc8 pm8 cd8 ct8 oc9 kV9 dc9 pm9 cd9 ct9 oc10 kV10 dc10 pm10 cd10 ct10 oc11 kV11 dc11 pm11 cd11 ct11 oc12 kV12 dc12 pm12 cd12 ct12 oc13 kV13 dc13 pm13 cd13 ct13 oc14 kV14 dc14 pm14 cd14 ct14 oc15 kV15 dc15 pm15 cd15 ct15 oc16 kV16 dc16 pm16 cd16 ct16 oc17 kV17 dc17 pm17 cd17 ct17 oc18 kV18 dc18 pm18 cd18 ct18 oc19 kV19 dc19 pm19 cd19 ct19 oc20 kV20 dc20 pm20 cd20 ct20 oc21 kV21 dc21 pm21 cd21 ct21 oc22 kV22 dc22 pm22 cd22 ct22 oc23 kV23 dc23 pm23 cd23 ct23 oc24 kV24 dc24 pm24 cd24 ct24 oc25 kV25 dc25 pm25 cd25 ct25 oc26 kV26 dc26 pm26 cd26 ct26 oc27 kV27 dc27 pm27 cd27 ct27 oc28 kV28 dc28 pm28 cd28 ct28 oc29 kV29 dc29 pm29 cd29 ct29 oc30 kV30 dc30 pm30 cd30 ct30 oc31 kV31 dc31 pm31 cd31 ct31 : Value}
    (a1 : PySem.W.nsIn K mainGlobals "is_word" = some (some (.ref f1))) (l1 : K.lookup f1 = some ⟨oc1, od1, .func (PySem.W.fnOf "is_word" "is_word" (defArgs s_is_word) (defBody s_is_word) (defScope s_is_word) .none kV1 dc1 pm1 an1 cd1 ct1), sl1⟩) (c1 : PySem.W.codeIn K cd1 "is_word" = true) (k1 : PySem.W.keepIn K (.ref f1) = true)
    (a2 : PySem.W.nsIn K mainGlobals "is_whole" = some (some (.ref f2))) (l2 : K.lookup f2 = some ⟨oc2, od2, .func (PySem.W.fnOf "is_whole" "is_whole" (defArgs s_is_whole) (defBody s_is_whole) (defScope s_is_whole) .none kV2 dc2 pm2 an2 cd2 ct2), sl2⟩) (c2 : PySem.W.codeIn K cd2 "is_whole" = true) (k2 : PySem.W.keepIn K (.ref f2) = true)
    (a3 : PySem.W.nsIn K mainGlobals "is_leaf" = some (some (.ref f3))) (l3 : K.lookup f3 = some ⟨oc3, od3, .func (PySem.W.fnOf "is_leaf" "is_leaf" (defArgs s_is_leaf) (defBody s_is_leaf) (defScope s_is_leaf) .none kV3 dc3 pm3 an3 cd3 ct3), sl3⟩) (c3 : PySem.W.codeIn K cd3 "is_leaf" = true) (k3 : PySem.W.keepIn K (.ref f3) = true)
    (a4 : PySem.W.nsIn K mainGlobals "read_term" = some (some (.ref f4))) (l4 : K.lookup f4 = some ⟨oc4, od4, .func (PySem.W.fnOf "read_term" "read_term" (defArgs s_read_term) (defBody s_read_term) (defScope s_read_term) .none kV4 dc4 pm4 an4 cd4 ct4), sl4⟩) (c4 : PySem.W.codeIn K cd4 "read_term" = true) (k4 : PySem.W.keepIn K (.ref f4) = true)
    (a5 : PySem.W.nsIn K mainGlobals "_end_of_run" = some (some (.ref f5))) (l5 : K.lookup f5 = some ⟨oc5, od5, .func (PySem.W.fnOf "_end_of_run" "_end_of_run" (defArgs s_end_of_run) (defBody s_end_of_run) (defScope s_end_of_run) .none kV5 dc5 pm5 an5 cd5 ct5), sl5⟩) (c5 : PySem.W.codeIn K cd5 "_end_of_run" = true) (k5 : PySem.W.keepIn K (.ref f5) = true)
    (a6 : PySem.W.nsIn K mainGlobals "_token_end" = some (some (.ref f6))) (l6 : K.lookup f6 = some ⟨oc6, od6, .func (PySem.W.fnOf "_token_end" "_token_end" (defArgs s_token_end) (defBody s_token_end) (defScope s_token_end) .none kV6 dc6 pm6 an6 cd6 ct6), sl6⟩) (c6 : PySem.W.codeIn K cd6 "_token_end" = true) (k6 : PySem.W.keepIn K (.ref f6) = true)
    (a7 : PySem.W.nsIn K mainGlobals "_is_number" = some (some (.ref f7))) (l7 : K.lookup f7 = some ⟨oc7, od7, .func (PySem.W.fnOf "_is_number" "_is_number" (defArgs s_is_number) (defBody s_is_number) (defScope s_is_number) .none kV7 dc7 pm7 an7 cd7 ct7), sl7⟩) (c7 : PySem.W.codeIn K cd7 "_is_number" = true) (k7 : PySem.W.keepIn K (.ref f7) = true)
    (a8 : PySem.W.nsIn K mainGlobals "_token" = some (some (.ref f8))) (l8 : K.lookup f8 = some ⟨oc8, od8, .func (PySem.W.fnOf "_token" "_token" (defArgs s_token) (defBody s_token) (defScope s_token) .none kV8 dc8 pm8 an8 cd8 ct8), sl8⟩) (c8 : PySem.W.codeIn K cd8 "_token" = true) (k8 : PySem.W.keepIn K (.ref f8) = true)
    (a9 : PySem.W.nsIn K mainGlobals "_tokens_of" = some (some (.ref f9))) (l9 : K.lookup f9 = some ⟨oc9, od9, .func (PySem.W.fnOf "_tokens_of" "_tokens_of" (defArgs s_tokens_of) (defBody s_tokens_of) (defScope s_tokens_of) .none kV9 dc9 pm9 an9 cd9 ct9), sl9⟩) (c9 : PySem.W.codeIn K cd9 "_tokens_of" = true) (k9 : PySem.W.keepIn K (.ref f9) = true)
    (a10 : PySem.W.nsIn K mainGlobals "is_condition" = some (some (.ref f10))) (l10 : K.lookup f10 = some ⟨oc10, od10, .func (PySem.W.fnOf "is_condition" "is_condition" (defArgs s_is_condition) (defBody s_is_condition) (defScope s_is_condition) .none kV10 dc10 pm10 an10 cd10 ct10), sl10⟩) (c10 : PySem.W.codeIn K cd10 "is_condition" = true) (k10 : PySem.W.keepIn K (.ref f10) = true)
    (a11 : PySem.W.nsIn K mainGlobals "_is_plain" = some (some (.ref f11))) (l11 : K.lookup f11 = some ⟨oc11, od11, .func (PySem.W.fnOf "_is_plain" "_is_plain" (defArgs s_is_plain) (defBody s_is_plain) (defScope s_is_plain) .none kV11 dc11 pm11 an11 cd11 ct11), sl11⟩) (c11 : PySem.W.codeIn K cd11 "_is_plain" = true) (k11 : PySem.W.keepIn K (.ref f11) = true)
    (a12 : PySem.W.nsIn K mainGlobals "_is_operand" = some (some (.ref f12))) (l12 : K.lookup f12 = some ⟨oc12, od12, .func (PySem.W.fnOf "_is_operand" "_is_operand" (defArgs s_is_operand) (defBody s_is_operand) (defScope s_is_operand) .none kV12 dc12 pm12 an12 cd12 ct12), sl12⟩) (c12 : PySem.W.codeIn K cd12 "_is_operand" = true) (k12 : PySem.W.keepIn K (.ref f12) = true)
    (a13 : PySem.W.nsIn K mainGlobals "read_condition" = some (some (.ref f13))) (l13 : K.lookup f13 = some ⟨oc13, od13, .func (PySem.W.fnOf "read_condition" "read_condition" (defArgs s_read_condition) (defBody s_read_condition) (defScope s_read_condition) .none kV13 dc13 pm13 an13 cd13 ct13), sl13⟩) (c13 : PySem.W.codeIn K cd13 "read_condition" = true) (k13 : PySem.W.keepIn K (.ref f13) = true)
    (a14 : PySem.W.nsIn K mainGlobals "_written" = some (some (.ref f14))) (l14 : K.lookup f14 = some ⟨oc14, od14, .func (PySem.W.fnOf "_written" "_written" (defArgs s_written) (defBody s_written) (defScope s_written) .none kV14 dc14 pm14 an14 cd14 ct14), sl14⟩) (c14 : PySem.W.codeIn K cd14 "_written" = true) (k14 : PySem.W.keepIn K (.ref f14) = true)
    (a15 : PySem.W.nsIn K mainGlobals "_written_plain" = some (some (.ref f15))) (l15 : K.lookup f15 = some ⟨oc15, od15, .func (PySem.W.fnOf "_written_plain" "_written_plain" (defArgs s_written_plain) (defBody s_written_plain) (defScope s_written_plain) .none kV15 dc15 pm15 an15 cd15 ct15), sl15⟩) (c15 : PySem.W.codeIn K cd15 "_written_plain" = true) (k15 : PySem.W.keepIn K (.ref f15) = true)
    (a16 : PySem.W.nsIn K mainGlobals "_written_operand" = some (some (.ref f16))) (l16 : K.lookup f16 = some ⟨oc16, od16, .func (PySem.W.fnOf "_written_operand" "_written_operand" (defArgs s_written_operand) (defBody s_written_operand) (defScope s_written_operand) .none kV16 dc16 pm16 an16 cd16 ct16), sl16⟩) (c16 : PySem.W.codeIn K cd16 "_written_operand" = true) (k16 : PySem.W.keepIn K (.ref f16) = true)
    (a17 : PySem.W.nsIn K mainGlobals "_law_pool" = some (some (.ref f17))) (l17 : K.lookup f17 = some ⟨oc17, od17, .func (PySem.W.fnOf "_law_pool" "_law_pool" (defArgs s_law_pool) (defBody s_law_pool) (defScope s_law_pool) .none kV17 dc17 pm17 an17 cd17 ct17), sl17⟩) (c17 : PySem.W.codeIn K cd17 "_law_pool" = true) (k17 : PySem.W.keepIn K (.ref f17) = true)
    (a18 : PySem.W.nsIn K mainGlobals "_law_take" = some (some (.ref f18))) (l18 : K.lookup f18 = some ⟨oc18, od18, .func (PySem.W.fnOf "_law_take" "_law_take" (defArgs s_law_take) (defBody s_law_take) (defScope s_law_take) .none kV18 dc18 pm18 an18 cd18 ct18), sl18⟩) (c18 : PySem.W.codeIn K cd18 "_law_take" = true) (k18 : PySem.W.keepIn K (.ref f18) = true)
    (a19 : PySem.W.nsIn K mainGlobals "_law_words" = some (some (.ref f19))) (l19 : K.lookup f19 = some ⟨oc19, od19, .func (PySem.W.fnOf "_law_words" "_law_words" (defArgs s_law_words) (defBody s_law_words) (defScope s_law_words) .none kV19 dc19 pm19 an19 cd19 ct19), sl19⟩) (c19 : PySem.W.codeIn K cd19 "_law_words" = true) (k19 : PySem.W.keepIn K (.ref f19) = true)
    (a20 : PySem.W.nsIn K mainGlobals "_law_number" = some (some (.ref f20))) (l20 : K.lookup f20 = some ⟨oc20, od20, .func (PySem.W.fnOf "_law_number" "_law_number" (defArgs s_law_number) (defBody s_law_number) (defScope s_law_number) .none kV20 dc20 pm20 an20 cd20 ct20), sl20⟩) (c20 : PySem.W.codeIn K cd20 "_law_number" = true) (k20 : PySem.W.keepIn K (.ref f20) = true)
    (a21 : PySem.W.nsIn K mainGlobals "_law_atom" = some (some (.ref f21))) (l21 : K.lookup f21 = some ⟨oc21, od21, .func (PySem.W.fnOf "_law_atom" "_law_atom" (defArgs s_law_atom) (defBody s_law_atom) (defScope s_law_atom) .none kV21 dc21 pm21 an21 cd21 ct21), sl21⟩) (c21 : PySem.W.codeIn K cd21 "_law_atom" = true) (k21 : PySem.W.keepIn K (.ref f21) = true)
    (a22 : PySem.W.nsIn K mainGlobals "_law_pick" = some (some (.ref f22))) (l22 : K.lookup f22 = some ⟨oc22, od22, .func (PySem.W.fnOf "_law_pick" "_law_pick" (defArgs s_law_pick) (defBody s_law_pick) (defScope s_law_pick) .none kV22 dc22 pm22 an22 cd22 ct22), sl22⟩) (c22 : PySem.W.codeIn K cd22 "_law_pick" = true) (k22 : PySem.W.keepIn K (.ref f22) = true)
    (a23 : PySem.W.nsIn K mainGlobals "_law_operand" = some (some (.ref f23))) (l23 : K.lookup f23 = some ⟨oc23, od23, .func (PySem.W.fnOf "_law_operand" "_law_operand" (defArgs s_law_operand) (defBody s_law_operand) (defScope s_law_operand) .none kV23 dc23 pm23 an23 cd23 ct23), sl23⟩) (c23 : PySem.W.codeIn K cd23 "_law_operand" = true) (k23 : PySem.W.keepIn K (.ref f23) = true)
    (a24 : PySem.W.nsIn K mainGlobals "_law_condition" = some (some (.ref f24))) (l24 : K.lookup f24 = some ⟨oc24, od24, .func (PySem.W.fnOf "_law_condition" "_law_condition" (defArgs s_law_condition) (defBody s_law_condition) (defScope s_law_condition) .none kV24 dc24 pm24 an24 cd24 ct24), sl24⟩) (c24 : PySem.W.codeIn K cd24 "_law_condition" = true) (k24 : PySem.W.keepIn K (.ref f24) = true)
    (a25 : PySem.W.nsIn K mainGlobals "_law_same" = some (some (.ref f25))) (l25 : K.lookup f25 = some ⟨oc25, od25, .func (PySem.W.fnOf "_law_same" "_law_same" (defArgs s_law_same) (defBody s_law_same) (defScope s_law_same) .none kV25 dc25 pm25 an25 cd25 ct25), sl25⟩) (c25 : PySem.W.codeIn K cd25 "_law_same" = true) (k25 : PySem.W.keepIn K (.ref f25) = true)
    (a26 : PySem.W.nsIn K mainGlobals "_law_blank" = some (some (.ref f26))) (l26 : K.lookup f26 = some ⟨oc26, od26, .func (PySem.W.fnOf "_law_blank" "_law_blank" (defArgs s_law_blank) (defBody s_law_blank) (defScope s_law_blank) .none kV26 dc26 pm26 an26 cd26 ct26), sl26⟩) (c26 : PySem.W.codeIn K cd26 "_law_blank" = true) (k26 : PySem.W.keepIn K (.ref f26) = true)
    (a27 : PySem.W.nsIn K mainGlobals "_law_operand_text" = some (some (.ref f27))) (l27 : K.lookup f27 = some ⟨oc27, od27, .func (PySem.W.fnOf "_law_operand_text" "_law_operand_text" (defArgs s_law_operand_text) (defBody s_law_operand_text) (defScope s_law_operand_text) .none kV27 dc27 pm27 an27 cd27 ct27), sl27⟩) (c27 : PySem.W.codeIn K cd27 "_law_operand_text" = true) (k27 : PySem.W.keepIn K (.ref f27) = true)
    (a28 : PySem.W.nsIn K mainGlobals "_law_text" = some (some (.ref f28))) (l28 : K.lookup f28 = some ⟨oc28, od28, .func (PySem.W.fnOf "_law_text" "_law_text" (defArgs s_law_text) (defBody s_law_text) (defScope s_law_text) .none kV28 dc28 pm28 an28 cd28 ct28), sl28⟩) (c28 : PySem.W.codeIn K cd28 "_law_text" = true) (k28 : PySem.W.keepIn K (.ref f28) = true)
    (a29 : PySem.W.nsIn K mainGlobals "_law_none" = some (some (.ref f29))) (l29 : K.lookup f29 = some ⟨oc29, od29, .func (PySem.W.fnOf "_law_none" "_law_none" (defArgs s_law_none) (defBody s_law_none) (defScope s_law_none) .none kV29 dc29 pm29 an29 cd29 ct29), sl29⟩) (c29 : PySem.W.codeIn K cd29 "_law_none" = true) (k29 : PySem.W.keepIn K (.ref f29) = true)
    (a30 : PySem.W.nsIn K mainGlobals "_law_bad" = some (some (.ref f30))) (l30 : K.lookup f30 = some ⟨oc30, od30, .func (PySem.W.fnOf "_law_bad" "_law_bad" (defArgs s_law_bad) (defBody s_law_bad) (defScope s_law_bad) .none kV30 dc30 pm30 an30 cd30 ct30), sl30⟩) (c30 : PySem.W.codeIn K cd30 "_law_bad" = true) (k30 : PySem.W.keepIn K (.ref f30) = true)
    (a31 : PySem.W.nsIn K mainGlobals "law" = some (some (.ref f31))) (l31 : K.lookup f31 = some ⟨oc31, od31, .func (PySem.W.fnOf "law" "law" (defArgs s_law) (defBody s_law) (defScope s_law) .none kV31 dc31 pm31 an31 cd31 ct31), sl31⟩) (c31 : PySem.W.codeIn K cd31 "law" = true) (k31 : PySem.W.keepIn K (.ref f31) = true)
    (z_len : PySem.W.nsIn K mainGlobals "len" = some none) (z_int : PySem.W.nsIn K mainGlobals "int" = some none) (z_range : PySem.W.nsIn K mainGlobals "range" = some none) (z_min : PySem.W.nsIn K mainGlobals "min" = some none) (z_str : PySem.W.nsIn K mainGlobals "str" = some none) (z_tuple : PySem.W.nsIn K mainGlobals "tuple" = some none) (z_sorted : PySem.W.nsIn K mainGlobals "sorted" = some none) (z_isinstance : PySem.W.nsIn K mainGlobals "isinstance" = some none) (z_any : PySem.W.nsIn K mainGlobals "any" = some none) (z_all : PySem.W.nsIn K mainGlobals "all" = some none) (z_list : PySem.W.nsIn K mainGlobals "list" = some none) (z_bool : PySem.W.nsIn K mainGlobals "bool" = some none) (z_dict : PySem.W.nsIn K mainGlobals "dict" = some none)
    {aS dH dG CP CT gT : Addr} {odS : Option Addr} {nS : Nat} {slS : Array (Option Value)} {t1 t2 t3 t4 t5 t6 t7 t8 t9 : Tok} {u1 u2 u3 u4 : Tok} {esH esG : Array DictEntry} {nH nG : Nat} {odI anI : Option Addr} {slI : Array (Option Value)} {ocI kVI dcI pmI cdI ctI : Value}
    (g1 : PySem.W.nsIn K mainGlobals "MOST_CHARACTERS" = some (some (.int 12 t1))) (g2 : PySem.W.nsIn K mainGlobals "LETTERS" = some (some (.str LET t2))) (g3 : PySem.W.nsIn K mainGlobals "DIGITS" = some (some (.str "0123456789" t3)))
    (g4 : PySem.W.nsIn K mainGlobals "WORD_CHARACTERS" = some (some (.str OTH t4))) (g5 : PySem.W.nsIn K mainGlobals "_SEPARATORS" = some (some (.str " \n" t5))) (g6 : PySem.W.nsIn K mainGlobals "MOST_TEXT" = some (some (.int 4000 t6)))
    (g7 : PySem.W.nsIn K mainGlobals "MOST_OPEN" = some (some (.int 60 t7))) (g8 : PySem.W.nsIn K mainGlobals "MOST_INTEGER" = some (some (.int 15 t8))) (g9 : PySem.W.nsIn K mainGlobals "MOST_ADDRESS" = some (some (.int 9 t9)))
    (gS : PySem.W.nsIn K mainGlobals "_SIGNS" = some (some (.ref aS))) (lS : K.lookup aS = some ⟨.type "tuple", odS, .seq #[.str "(" u1, .str ")" u2, .str "{" u3, .str "}" u4] nS, slS⟩)
    (gH : PySem.W.nsIn K mainGlobals "_HEADS" = some (some (.ref dH))) (lH : K.lookup dH = some ⟨.type "dict", none, .dict esH nH, #[]⟩) (kyH : PySem.W.KeysLit w.params esH.toList) (sH : (dH == sysModules) = false) (pH : PKR.PairK esH.toList HKV)
    (gG : PySem.W.nsIn K mainGlobals "_SIGNATURE" = some (some (.ref dG))) (lG : K.lookup dG = some ⟨.type "dict", none, .dict esG nG, #[]⟩) (kyG : PySem.W.KeysLit w.params esG.toList) (sG : (dG == sysModules) = false) (pG : PKR.PairK esG.toList (sigK CSIG))
    (gP : PySem.W.nsIn K mainGlobals "PassError" = some (some (.ref CP))) (gE : PySem.W.nsIn K mainGlobals "TextError" = some (some (.ref CT)))
    (sp1 : PySem.W.specialIn K (.builtin "object.__class__") "__get__" = some (some (.builtin "getset_descriptor.__get__"))) (sp2 : PySem.W.takesIn K (.builtin "object.__class__") = some true)
    (tiT : PySem.W.typeIn K (.ref gT) = some (.type "function")) (liT : K.lookup gT = some ⟨ocI, odI, .func (PySem.W.fnOf "__init__" "TextError.__init__" (defArgs s_initP) (defBody s_initP) (defScope s_initP) .none kVI dcI pmI anI cdI ctI), slI⟩) (ciT : PySem.W.codeIn K cdI "TextError.__init__" = true) (kiT : PySem.W.keepIn K (.ref gT) = true)
    {CB NB : Addr} {nmB qB : Str} {bsB : List Value} {snB : List Str} {subB : List Value} {abB : Bool} {colB : Option Bool} {ddB : Option Addr} {m0B m1B m2B m3B m5B : Option Value}
    {CD ND : Addr} {nmD qD : Str} {bsD : List Value} {snD : List Str} {subD : List Value} {abD : Bool} {colD : Option Bool} {ddD : Option Addr} {m0D m1D m2D m3D m5D : Option Value}
    {fM0 fM1 fM2 fM3 fM4 CR : Addr} {odM0 anM0 odM1 anM1 odM2 anM2 odM3 anM3 odM4 anM4 : Option Addr} {slM0 slM1 slM2 slM3 slM4 : Array (Option Value)} {ocM0 kVM0 dcM0 pmM0 cdM0 ctM0 ocM1 kVM1 dcM1 pmM1 cdM1 ctM1 ocM2 kVM2 dcM2 pmM2 cdM2 ctM2 ocM3 kVM3 dcM3 pmM3 cdM3 ctM3 ocM4 kVM4 dcM4 pmM4 cdM4 ctM4 : Value}
    (nB : PySem.W.nsIn K mainGlobals "BadTerm" = some (some (.ref CB)))
    (xB : K.lookup CB = some (excClassObj nmB qB CB NB bsB [.ref CT, .ref CP, .type "ValueError", .type "Exception", .type "BaseException", .type "object"] true snB subB abB colB ddB m0B m1B m2B m3B m5B "ValueError.__new__"))
    (saB : PySem.W.findIn K (.ref CB) "__setattr__" = some (some (.builtin "object.__setattr__"))) (npB : PySem.W.findIn K (.ref CB) "position" = some none) (aiB : PySem.W.findIn K (.ref CB) "__init__" = some (some (.ref gT)))
    (kepB : PySem.W.keepIn K (.ref CB) = true) (eCB : PySem.W.subIn K (.ref CB) (.type "BaseException") = some true) (tCB : PySem.W.typeIn K (.ref CB) = some (.type "type"))
    (nD : PySem.W.nsIn K mainGlobals "TooDeep" = some (some (.ref CD)))
    (xD : K.lookup CD = some (excClassObj nmD qD CD ND bsD [.ref CT, .ref CP, .type "ValueError", .type "Exception", .type "BaseException", .type "object"] true snD subD abD colD ddD m0D m1D m2D m3D m5D "ValueError.__new__"))
    (saD : PySem.W.findIn K (.ref CD) "__setattr__" = some (some (.builtin "object.__setattr__"))) (npD : PySem.W.findIn K (.ref CD) "position" = some none) (aiD : PySem.W.findIn K (.ref CD) "__init__" = some (some (.ref gT)))
    (kepD : PySem.W.keepIn K (.ref CD) = true) (eCD : PySem.W.subIn K (.ref CD) (.type "BaseException") = some true) (tCD : PySem.W.typeIn K (.ref CD) = some (.type "type"))
    (nR : PySem.W.nsIn K mainGlobals "Reader" = some (some (.ref CR)))
    (aM0 : PySem.W.findIn K (.ref CR) "__init__" = some (some (.ref fM0))) (iM0 : PySem.W.isFn K (.ref fM0) = true) (lM0 : K.lookup fM0 = some ⟨ocM0, odM0, .func (PySem.W.fnOf "__init__" "Reader.__init__" (defArgs s_Reader___init__) (defBody s_Reader___init__) (defScope s_Reader___init__) .none kVM0 dcM0 pmM0 anM0 cdM0 ctM0), slM0⟩) (cM0 : PySem.W.codeIn K cdM0 "Reader.__init__" = true) (kM0 : PySem.W.keepIn K (.ref fM0) = true)
    (aM1 : PySem.W.findIn K (.ref CR) "take" = some (some (.ref fM1))) (iM1 : PySem.W.isFn K (.ref fM1) = true) (lM1 : K.lookup fM1 = some ⟨ocM1, odM1, .func (PySem.W.fnOf "take" "Reader.take" (defArgs s_Reader_take) (defBody s_Reader_take) (defScope s_Reader_take) .none kVM1 dcM1 pmM1 anM1 cdM1 ctM1), slM1⟩) (cM1 : PySem.W.codeIn K cdM1 "Reader.take" = true) (kM1 : PySem.W.keepIn K (.ref fM1) = true)
    (aM2 : PySem.W.findIn K (.ref CR) "term" = some (some (.ref fM2))) (iM2 : PySem.W.isFn K (.ref fM2) = true) (lM2 : K.lookup fM2 = some ⟨ocM2, odM2, .func (PySem.W.fnOf "term" "Reader.term" (defArgs s_Reader_term) (defBody s_Reader_term) (defScope s_Reader_term) .none kVM2 dcM2 pmM2 anM2 cdM2 ctM2), slM2⟩) (cM2 : PySem.W.codeIn K cdM2 "Reader.term" = true) (kM2 : PySem.W.keepIn K (.ref fM2) = true)
    (aM3 : PySem.W.findIn K (.ref CR) "node" = some (some (.ref fM3))) (iM3 : PySem.W.isFn K (.ref fM3) = true) (lM3 : K.lookup fM3 = some ⟨ocM3, odM3, .func (PySem.W.fnOf "node" "Reader.node" (defArgs s_Reader_node) (defBody s_Reader_node) (defScope s_Reader_node) .none kVM3 dcM3 pmM3 anM3 cdM3 ctM3), slM3⟩) (cM3 : PySem.W.codeIn K cdM3 "Reader.node" = true) (kM3 : PySem.W.keepIn K (.ref fM3) = true)
    (aM4 : PySem.W.findIn K (.ref CR) "mapping" = some (some (.ref fM4))) (iM4 : PySem.W.isFn K (.ref fM4) = true) (lM4 : K.lookup fM4 = some ⟨ocM4, odM4, .func (PySem.W.fnOf "mapping" "Reader.mapping" (defArgs s_Reader_mapping) (defBody s_Reader_mapping) (defScope s_Reader_mapping) .none kVM4 dcM4 pmM4 anM4 cdM4 ctM4), slM4⟩) (cM4 : PySem.W.codeIn K cdM4 "Reader.mapping" = true) (kM4 : PySem.W.keepIn K (.ref fM4) = true)
    (pgR : PySem.W.plainGet K CR Str.empty = true) (hdR : PySem.W.hasDictIn K CR = true) (poR : PySem.W.plainOver K CR = true) (saR : PySem.W.findIn K (.ref CR) "__setattr__" = some (some (.builtin "object.__setattr__"))) (mkR : PySem.W.makesIn K CR = true) (kcR : PySem.W.keepIn K (.ref CR) = true)
    (nSR : PySem.W.findIn K (.ref CR) "signature" = some none) (nTR : PySem.W.findIn K (.ref CR) "tokens" = some none) (nAR : PySem.W.findIn K (.ref CR) "at" = some none)
    (gaB : PySem.W.findIn K (.ref CB) "__getattribute__" = some (some (.builtin "BaseException.__getattribute__"))) (ggB : PySem.W.findIn K (.ref CB) "__getattr__" = some none) (ccB : PySem.W.findIn K (.ref CB) "__class__" = some (some (.builtin "object.__class__"))) (moB : PySem.W.mroIn K CB (.type "object") = some true) (hCB : PySem.W.hasDictIn K CB = true)
    (iP : PySem.W.isClsIn K CP = true) (tP : PySem.W.typeIn K (.ref CP) = some (.type "type")) (sBP : PySem.W.subIn K (.ref CB) (.ref CP) = some true)
    (eCT : PySem.W.subIn K (.ref CT) (.type "BaseException") = some true) (hCT : PySem.W.hasDictIn K CT = true) (tCT : PySem.W.typeIn K (.ref CT) = some (.type "type")) (sBT : PySem.W.subIn K (.ref CB) (.ref CT) = some true) :
    ∃ fd : FuncData, (∀ (s : Shared) (v : Value), BindsTo s fd ⟨[v], []⟩ [("script", v)]) ∧ ∀ base : Heap, K.In base → base.Ns mainGlobals mg → FnOk l.prog w K mg base CX0 131 fa fd ["script"] (spLaw K) := by
  have e := hfa.symm.trans (PySem.W.mg_of X G a31)
  cases e
  have F1 := fun_mk (st := s_is_word) l1 c1 k1
  have b1 := F1.binds (ps := ["text"]) fun _ _ _ _ _ _ us hl => match us, hl with | [_], _ => rfl
  have m1 := PySem.W.mg_of X G a1
  have F2 := fun_mk (st := s_is_whole) l2 c2 k2
  have b2 := F2.binds (ps := ["number"]) fun _ _ _ _ _ _ us hl => match us, hl with | [_], _ => rfl
  have m2 := PySem.W.mg_of X G a2
  have F3 := fun_mk (st := s_is_leaf) l3 c3 k3
  have b3 := F3.binds (ps := ["part"]) fun _ _ _ _ _ _ us hl => match us, hl with | [_], _ => rfl
  have m3 := PySem.W.mg_of X G a3
  have F4 := fun_mk (st := s_read_term) l4 c4 k4
  have b4 := F4.binds (ps := ["signature", "text"]) fun _ _ _ _ _ _ us hl => match us, hl with | [_, _], _ => rfl
  have m4 := PySem.W.mg_of X G a4
  have F5 := fun_mk (st := s_end_of_run) l5 c5 k5
  have b5 := F5.binds (ps := ["text", "start", "characters"]) fun _ _ _ _ _ _ us hl => match us, hl with | [_, _, _], _ => rfl
  have m5 := PySem.W.mg_of X G a5
  have F6 := fun_mk (st := s_token_end) l6 c6 k6
  have b6 := F6.binds (ps := ["text", "start"]) fun _ _ _ _ _ _ us hl => match us, hl with | [_, _], _ => rfl
  have m6 := PySem.W.mg_of X G a6
  have F7 := fun_mk (st := s_is_number) l7 c7 k7
  have b7 := F7.binds (ps := ["digits", "most"]) fun _ _ _ _ _ _ us hl => match us, hl with | [_, _], _ => rfl
  have m7 := PySem.W.mg_of X G a7
  have F8 := fun_mk (st := s_token) l8 c8 k8
  have b8 := F8.binds (ps := ["piece", "position"]) fun _ _ _ _ _ _ us hl => match us, hl with | [_, _], _ => rfl
  have m8 := PySem.W.mg_of X G a8
  have F9 := fun_mk (st := s_tokens_of) l9 c9 k9
  have b9 := F9.binds (ps := ["text"]) fun _ _ _ _ _ _ us hl => match us, hl with | [_], _ => rfl
  have m9 := PySem.W.mg_of X G a9
  have F10 := fun_mk (st := s_is_condition) l10 c10 k10
  have b10 := F10.binds (ps := ["condition"]) fun _ _ _ _ _ _ us hl => match us, hl with | [_], _ => rfl
  have m10 := PySem.W.mg_of X G a10
  have F11 := fun_mk (st := s_is_plain) l11 c11 k11
  have b11 := F11.binds (ps := ["condition"]) fun _ _ _ _ _ _ us hl => match us, hl with | [_], _ => rfl
  have m11 := PySem.W.mg_of X G a11
  have F12 := fun_mk (st := s_is_operand) l12 c12 k12
  have b12 := F12.binds (ps := ["operand"]) fun _ _ _ _ _ _ us hl => match us, hl with | [_], _ => rfl
  have m12 := PySem.W.mg_of X G a12
  have F13 := fun_mk (st := s_read_condition) l13 c13 k13
  have b13 := F13.binds (ps := ["text"]) fun _ _ _ _ _ _ us hl => match us, hl with | [_], _ => rfl
  have m13 := PySem.W.mg_of X G a13
  have F14 := fun_mk (st := s_written) l14 c14 k14
  have b14 := F14.binds (ps := ["term"]) fun _ _ _ _ _ _ us hl => match us, hl with | [_], _ => rfl
  have m14 := PySem.W.mg_of X G a14
  have F15 := fun_mk (st := s_written_plain) l15 c15 k15
  have b15 := F15.binds (ps := ["term"]) fun _ _ _ _ _ _ us hl => match us, hl with | [_], _ => rfl
  have m15 := PySem.W.mg_of X G a15
  have F16 := fun_mk (st := s_written_operand) l16 c16 k16
  have b16 := F16.binds (ps := ["term"]) fun _ _ _ _ _ _ us hl => match us, hl with | [_], _ => rfl
  have m16 := PySem.W.mg_of X G a16
  have F17 := fun_mk (st := s_law_pool) l17 c17 k17
  have b17 := F17.binds (ps := ["script"]) fun _ _ _ _ _ _ us hl => match us, hl with | [_], _ => rfl
  have m17 := PySem.W.mg_of X G a17
  have F18 := fun_mk (st := s_law_take) l18 c18 k18
  have b18 := F18.binds (ps := ["pool", "many"]) fun _ _ _ _ _ _ us hl => match us, hl with | [_, _], _ => rfl
  have m18 := PySem.W.mg_of X G a18
  have F19 := fun_mk (st := s_law_words) l19 c19 k19
  have b19 := F19.binds (ps := ["pool", "many"]) fun _ _ _ _ _ _ us hl => match us, hl with | [_, _], _ => rfl
  have m19 := PySem.W.mg_of X G a19
  have F20 := fun_mk (st := s_law_number) l20 c20 k20
  have b20 := F20.binds (ps := ["pool"]) fun _ _ _ _ _ _ us hl => match us, hl with | [_], _ => rfl
  have m20 := PySem.W.mg_of X G a20
  have F21 := fun_mk (st := s_law_atom) l21 c21 k21
  have b21 := F21.binds (ps := ["pool", "names"]) fun _ _ _ _ _ _ us hl => match us, hl with | [_, _], _ => rfl
  have m21 := PySem.W.mg_of X G a21
  have F22 := fun_mk (st := s_law_pick) l22 c22 k22
  have b22 := F22.binds (ps := ["pool", "rows"]) fun _ _ _ _ _ _ us hl => match us, hl with | [_, _], _ => rfl
  have m22 := PySem.W.mg_of X G a22
  have F23 := fun_mk (st := s_law_operand) l23 c23 k23
  have b23 := F23.binds (ps := ["pool", "box"]) fun _ _ _ _ _ _ us hl => match us, hl with | [_, _], _ => rfl
  have m23 := PySem.W.mg_of X G a23
  have F24 := fun_mk (st := s_law_condition) l24 c24 k24
  have b24 := F24.binds (ps := ["pool", "box"]) fun _ _ _ _ _ _ us hl => match us, hl with | [_, _], _ => rfl
  have m24 := PySem.W.mg_of X G a24
  have F25 := fun_mk (st := s_law_same) l25 c25 k25
  have b25 := F25.binds (ps := ["actual", "due"]) fun _ _ _ _ _ _ us hl => match us, hl with | [_, _], _ => rfl
  have m25 := PySem.W.mg_of X G a25
  have F26 := fun_mk (st := s_law_blank) l26 c26 k26
  have b26 := F26.binds (ps := ["pool", "least"]) fun _ _ _ _ _ _ us hl => match us, hl with | [_, _], _ => rfl
  have m26 := PySem.W.mg_of X G a26
  have F27 := fun_mk (st := s_law_operand_text) l27 c27 k27
  have b27 := F27.binds (ps := ["pool", "operand"]) fun _ _ _ _ _ _ us hl => match us, hl with | [_, _], _ => rfl
  have m27 := PySem.W.mg_of X G a27
  have F28 := fun_mk (st := s_law_text) l28 c28 k28
  have b28 := F28.binds (ps := ["pool", "condition"]) fun _ _ _ _ _ _ us hl => match us, hl with | [_, _], _ => rfl
  have m28 := PySem.W.mg_of X G a28
  have F29 := fun_mk (st := s_law_none) l29 c29 k29
  have b29 := F29.binds (ps := ["pool", "word", "number"]) fun _ _ _ _ _ _ us hl => match us, hl with | [_, _, _], _ => rfl
  have m29 := PySem.W.mg_of X G a29
  have F30 := fun_mk (st := s_law_bad) l30 c30 k30
  have b30 := F30.binds (ps := ["pool", "word"]) fun _ _ _ _ _ _ us hl => match us, hl with | [_, _], _ => rfl
  have m30 := PySem.W.mg_of X G a30
  have F31 := fun_mk (st := s_law) l31 c31 k31
  have FM0 := fun_mk (st := s_Reader___init__) lM0 cM0 kM0
  have bM0 := FM0.binds (ps := ["self", "signature", "text"]) fun _ _ _ _ _ _ us hl => match us, hl with | [_, _, _], _ => rfl
  have FM1 := fun_mk (st := s_Reader_take) lM1 cM1 kM1
  have bM1 := FM1.binds (ps := ["self", "kind"]) fun _ _ _ _ _ _ us hl => match us, hl with | [_, _], _ => rfl
  have FM2 := fun_mk (st := s_Reader_term) lM2 cM2 kM2
  have bM2 := FM2.binds (ps := ["self", "depth"]) fun _ _ _ _ _ _ us hl => match us, hl with | [_, _], _ => rfl
  have FM3 := fun_mk (st := s_Reader_node) lM3 cM3 kM3
  have bM3 := FM3.binds (ps := ["self", "depth"]) fun _ _ _ _ _ _ us hl => match us, hl with | [_, _], _ => rfl
  have FM4 := fun_mk (st := s_Reader_mapping) lM4 cM4 kM4
  have bM4 := FM4.binds (ps := ["self", "depth"]) fun _ _ _ _ _ _ us hl => match us, hl with | [_, _], _ => rfl
  have FI := fun_mk (st := s_initP) liT ciT kiT
  have bI := FI.binds (ps := ["self", "position"]) fun _ _ _ _ _ _ us hl => match us, hl with | [_, _], _ => rfl
  have NBo : NoP K CB := ⟨⟨⟨nmB, qB, NB, bsB, _, snB, subB, abB, colB, ddB, m0B, m1B, m2B, m3B, m5B, xB, by show PySem.HandSPX.refsVE [.type "ValueError", .type "Exception", .type "BaseException", .type "object"] = true; decide +kernel⟩, saB, eCB, tCB, kepB⟩, npB⟩
  have NDo : NoP K CD := ⟨⟨⟨nmD, qD, ND, bsD, _, snD, subD, abD, colD, ddD, m0D, m1D, m2D, m3D, m5D, xD, by show PySem.HandSPX.refsVE [.type "ValueError", .type "Exception", .type "BaseException", .type "object"] = true; decide +kernel⟩, saD, eCD, tCD, kepD⟩, npD⟩
  have T : Txt K mg := ⟨PySem.W.mg_none_of X G z_len, PySem.W.mg_none_of X G z_int, PySem.W.mg_none_of X G z_range, PySem.W.mg_none_of X G z_min, PySem.W.mg_none_of X G z_str, PySem.W.mg_none_of X G z_tuple, PySem.W.mg_none_of X G z_sorted, PySem.W.mg_none_of X G z_isinstance, PySem.W.mg_none_of X G z_any, PySem.W.mg_none_of X G z_all, PySem.W.mg_none_of X G z_list, PySem.W.mg_none_of X G z_bool⟩
  have TP : TxtP K mg aS := ⟨T, ⟨_, PySem.W.mg_of X G g1⟩, ⟨_, PySem.W.mg_of X G g2⟩, ⟨_, PySem.W.mg_of X G g3⟩, ⟨_, PySem.W.mg_of X G g4⟩, ⟨_, PySem.W.mg_of X G g5⟩, ⟨_, PySem.W.mg_of X G g6⟩, ⟨_, PySem.W.mg_of X G g7⟩, ⟨_, PySem.W.mg_of X G g8⟩, ⟨_, PySem.W.mg_of X G g9⟩, PySem.W.mg_of X G gS,
    fun H => .inr ⟨_, _, _, lS, rfl, rfl, small (by show 4 ≤ _; decide), .cons ⟨_, rfl⟩ (.cons ⟨_, rfl⟩ (.cons ⟨_, rfl⟩ (.cons ⟨_, rfl⟩ .nil)))⟩⟩
  have TC : TxtC K w mg aS dH dG := ⟨TP, PySem.W.mg_none_of X G z_dict, PySem.W.mg_of X G gH, PySem.W.mg_of X G gG, ⟨⟨esH, nH, ⟨lH, kyH, sH⟩, pH⟩, by decide +kernel, by decide⟩, ⟨⟨esG, nG, ⟨lG, kyG, sG⟩, pG⟩, by decide +kernel, by decide⟩⟩
  have CX : ClsP K mg CP CT CB := ⟨PySem.W.mg_of X G gP, PySem.W.mg_of X G gE, ⟨gaB, ggB, eCB, hCB, ccB, sp1, sp2, moB⟩, PySem.W.exm_ref eCT hCT tCT sBT, kit_t iP tP sBP⟩
  have XR : RTx K CR := ⟨⟨pgR, hdR, poR, saR⟩, nSR, nTR, nAR⟩
  refine ⟨PySem.W.fnOf "law" "law" (defArgs s_law) (defBody s_law) (defScope s_law) .none kV31 dc31 pm31 an31 cd31 ct31, fun s v => .of_eq rfl, fun base _ _ => ?_⟩
  have take0 : C8.Cal l.prog w K mg base 0 "_law_take" (spTake 0) [] := cal_mk (none_ok (fun vs H Q E h => by obtain ⟨_, _, _, _, _, _, _, _, h, _⟩ := h; omega)) m18 k18 b18
  have take1 : C8.Cal l.prog w K mg base 1 "_law_take" (spTake 1) [] := cal_mk (ok_take F18 T take0) m18 k18 b18
  have take : C8.Cal l.prog w K mg base 2 "_law_take" (spTake 2) [] := cal_mk (ok_take F18 T take1) m18 k18 b18
  have pool : C8.Cal l.prog w K mg base 1 "_law_pool" (spPool K) [] := cal_mk (ok_pool F17) m17 k17 b17
  have words : C8.Cal l.prog w K mg base 3 "_law_words" (spWords) [] := cal_mk (ok_words F19 T take) m19 k19 b19
  have number : C8.Cal l.prog w K mg base 3 "_law_number" (spNum) [] := cal_mk (ok_number F20 take) m20 k20 b20
  have atom : C8.Cal l.prog w K mg base 4 "_law_atom" (spAtom K) [] := cal_mk (ok_atom F21 T take number) m21 k21 b21
  have pick : C8.Cal l.prog w K mg base 3 "_law_pick" (spPick) [] := cal_mk (ok_pick F22 T take) m22 k22 b22
  have operand : C8.Cal l.prog w K mg base 5 "_law_operand" (spOperand K) [] := cal_mk (ok_operand F23 T take atom pick) m23 k23 b23
  have cond : C8.Cal l.prog w K mg base 6 "_law_condition" (spCond K) [] := cal_mk (ok_cond F24 take operand pick) m24 k24 b24
  have sames : ∀ n : Nat, C8.Cal l.prog w K mg base n "_law_same" (spSame K n) [] := fun n => by
    induction n with
    | zero => exact cal_mk (none_ok (fun vs H Q E h => by obtain ⟨_, _, _, _, _, _, h, _⟩ := h; omega)) m25 k25 b25
    | succ n ih => exact cal_mk (ok_same F25 T ih) m25 k25 b25
  have blank : C8.Cal l.prog w K mg base 3 "_law_blank" (spBlank) [] := cal_mk (ok_blank F26 T take) m26 k26 b26
  have optext : C8.Cal l.prog w K mg base 4 "_law_operand_text" (spOpText K) [] := cal_mk (ok_optext F27 T blank) m27 k27 b27
  have text0 : C8.Cal l.prog w K mg base 4 "_law_text" (spText K 0) [] := cal_mk (none_ok (fun vs H Q E h => by obtain ⟨_, _, _, _, _, _, _, _, _, h, _⟩ := h; omega)) m28 k28 b28
  have text1 : C8.Cal l.prog w K mg base 5 "_law_text" (spText K 1) [] := cal_mk (ok_text F28 T blank optext text0) m28 k28 b28
  have text2 : C8.Cal l.prog w K mg base 6 "_law_text" (spText K 2) [] := cal_mk (ok_text F28 T blank optext text1) m28 k28 b28
  have none : C8.Cal l.prog w K mg base 3 "_law_none" (spNone) [] := cal_mk (ok_none F29 T take) m29 k29 b29
  have bad : C8.Cal l.prog w K mg base 3 "_law_bad" (spBad) [] := cal_mk (ok_bad F30 T take) m30 k30 b30
  have whole : C8.Cal l.prog w K mg base 1 "is_whole" (spWhole) [] := cal_mk (ok_whole F2 TP) m2 k2 b2
  have word : C8.Cal l.prog w K mg base 1 "is_word" (spWord) [] := cal_mk (ok_word F1 TP) m1 k1 b1
  have leaf : C8.Cal l.prog w K mg base 2 "is_leaf" (spLeaf K) [] := cal_mk (ok_leaf_p F3 TC whole word) m3 k3 b3
  have oper : C8.Cal l.prog w K mg base 3 "_is_operand" (spOper K) [] := cal_mk (ok_oper F12 TC whole word leaf) m12 k12 b12
  have plain : C8.Cal l.prog w K mg base 4 "_is_plain" (spPlain K) [] := cal_mk (ok_plain F11 TC word leaf oper) m11 k11 b11
  have isc : C8.Cal l.prog w K mg base 5 "is_condition" (spIsC K) [] := cal_mk (ok_isc F10 TC plain) m10 k10 b10
  have wo : C8.Cal l.prog w K mg base 1 "_written_operand" (spWO K) [] := cal_mk (ok_wo F16) m16 k16 b16
  have wp : C8.Cal l.prog w K mg base 2 "_written_plain" (spWP K) [] := cal_mk (ok_wp F15 wo) m15 k15 b15
  have wc : C8.Cal l.prog w K mg base 3 "_written" (spWC K) [] := cal_mk (ok_wc F14 wp) m14 k14 b14
  have endr : C8.Cal l.prog w K mg base 1 "_end_of_run" (spEnd) [] := cal_mk (ok_end F5 TP) m5 k5 b5
  have tokend : C8.Cal l.prog w K mg base 2 "_token_end" (spTokEnd) [] := cal_mk (ok_tokEnd F6 TP endr) m6 k6 b6
  have isnum : C8.Cal l.prog w K mg base 2 "_is_number" (spIsNum) [] := cal_mk (ok_isNum F7 TP endr) m7 k7 b7
  have tok : C8.Cal l.prog w K mg base 3 "_token" (spTok K) [] := cal_mk (ok_tok F8 TP word isnum) m8 k8 b8
  have tokens : C8.Cal l.prog w K mg base 4 "_tokens_of" (spToks K) [] := cal_mk (ok_toks F9 TP tokend tok) m9 k9 b9
  have XB : CalY l.prog w K mg base 1 "BadTerm" CB (spIP K) := ⟨NBo, PySem.W.mg_of X G nB, _, _, _, aiB, tiT, ok_initP FI, bI⟩
  have XD : CalY l.prog w K mg base 1 "TooDeep" CD (spIP K) := ⟨NDo, PySem.W.mg_of X G nD, _, _, _, aiD, tiT, ok_initP FI, bI⟩
  have rtake : CalM l.prog w K mg base 3 CR "take" (spRTake K CR CB) := ⟨XR.cl, _, _, _, ⟨aM1, iM1, kM1⟩, ok_rtake FM1 TP XR XB, bM1⟩
  have terms : ∀ n : Nat, CalM l.prog w K mg base (2 * n + 4) CR "term" (spTerm K CR CB CD n) := fun n => by
    induction n with
    | zero => exact ⟨XR.cl, _, _, _, ⟨aM2, iM2, kM2⟩, none_okX (fun vs H Q E h => by obtain ⟨_, _, _, _, _, _, _, _, _, _, _, h1, h2, _⟩ := h; omega), bM2⟩
    | succ n ih =>
      have nd : CalM l.prog w K mg base (2 * n + 5) CR "node" (spNode K CR CB CD n) := ⟨XR.cl, _, _, _, ⟨aM3, iM3, kM3⟩, ok_rnode FM3 TP XR XB XD rtake ih, bM3⟩
      have mp : CalM l.prog w K mg base (2 * n + 5) CR "mapping" (spMap K CR CB CD n) := ⟨XR.cl, _, _, _, ⟨aM4, iM4, kM4⟩, ok_rmap FM4 TP XR XB XD rtake ih, bM4⟩
      exact ⟨XR.cl, _, _, _, ⟨aM2, iM2, kM2⟩, ok_rterm FM2 TP XR XB rtake nd mp, bM2⟩
  have MR : CalC l.prog w K mg base 5 "Reader" CR (spRInit K CR) := ⟨PySem.W.mg_of X G nR, _, _, _, ⟨mkR, aM0, iM0, kcR⟩, ok_rinit FM0 XR tokens, bM0⟩
  have read : CalR l.prog w K mg base 128 "read_term" (spRead K CB CD) := ⟨_, _, _, ok_read F4 TP MR (terms 61) rtake, m4, k4, b4⟩
  have rc : CalR l.prog w K mg base 129 "read_condition" (spRC K CB CD) := ⟨_, _, _, ok_rc F13 TC read wc isc, m13, k13, b13⟩
  exact ok_law F31 T CX pool take words cond blank text2 (sames 8) none bad rc
theorem walk {l : PySem.W.OpenLaw} {q : Program} {loose : List Str} {XP : (Str → Option Value) → Heap → Prop} {YP : World → Heap → Prop} {d : DefRec} {K : Params → PySem.W.Frag} (hn : l.most = some 63) (hdf : d.params.defaults = [])
    (hY : ∀ (w : World) (h : Heap), YP w h → (K w.params).In h)
    (F : ∀ (w : World) (mg : Str → Option Value) (fa : Addr) (h : Heap), (K w.params).In h → h.Ns mainGlobals mg → mg d.name = some (.ref fa) →
      ∃ fd : FuncData, (∀ (s : Shared) (u : Value), BindsTo s fd ⟨[u], []⟩ [("script", u)]) ∧ ∀ base : Heap, (K w.params).In base → base.Ns mainGlobals mg → FnOk l.prog w (K w.params) mg base CX0 131 fa fd ["script"] (spLaw (K w.params))) :
    PySem.W.WalkO q loose XP YP l.row.toRowW d [] (fun f vs => PySem.call f vs) :=
  L2.walk_of (n := 63) (k := 131) (x := "script") (CX := fun _ => CX0) (sp := fun w => spLaw (K w.params)) hn (by decide) hdf ⟨rfl, by decide, by decide⟩ hY F (fun _ _ a ns hl _ hS => ⟨a, ns, rfl, hS, hl, fun _ => rfl⟩) fun _ _ _ _ _ z => z
end PK
open PySem PySem.W PyProof.Rows in
set_option maxRecDepth 100000 in
set_option maxHeartbeats 0 in
theorem PySem.Challenge.cw_passproven_k11_conditions_read_holds : PySem.Challenge.rw_passproven_k11_conditions_read.Holds := by
  w_on; o_law; k_head; (case hw => w_witness2)
  k_fill
  refine PK.walk (l := PySem.Challenge.rw_passproven_k11_conditions_read) rfl rfl (fun w h Y => PySem.W.kIn_of Y) ?F
  case F =>
    intro w mg fa h KX G hmg
    refine' PK.all_mk KX G hmg ?a1 ?l1 ?c1 ?k1 ?a2 ?l2 ?c2 ?k2 ?a3 ?l3 ?c3 ?k3 ?a4 ?l4 ?c4 ?k4 ?a5 ?l5 ?c5 ?k5 ?a6 ?l6 ?c6 ?k6 ?a7 ?l7 ?c7 ?k7 ?a8 ?l8 ?c8 ?k8 ?a9 ?l9 ?c9 ?k9 ?a10 ?l10 ?c10 ?k10 ?a11 ?l11 ?c11 ?k11 ?a12 ?l12 ?c12 ?k12 ?a13 ?l13 ?c13 ?k13 ?a14 ?l14 ?c14 ?k14 ?a15 ?l15 ?c15 ?k15 ?a16 ?l16 ?c16 ?k16 ?a17 ?l17 ?c17 ?k17 ?a18 ?l18 ?c18 ?k18 ?a19 ?l19 ?c19 ?k19 ?a20 ?l20 ?c20 ?k20 ?a21 ?l21 ?c21 ?k21 ?a22 ?l22 ?c22 ?k22 ?a23 ?l23 ?c23 ?k23 ?a24 ?l24 ?c24 ?k24 ?a25 ?l25 ?c25 ?k25 ?a26 ?l26 ?c26 ?k26 ?a27 ?l27 ?c27 ?k27 ?a28 ?l28 ?c28 ?k28 ?a29 ?l29 ?c29 ?k29 ?a30 ?l30 ?c30 ?k30 ?a31 ?l31 ?c31 ?k31 ?z_len ?z_int ?z_range ?z_min ?z_str ?z_tuple ?z_sorted ?z_isinstance ?z_any ?z_all ?z_list ?z_bool ?z_dict ?g1 ?g2 ?g3 ?g4 ?g5 ?g6 ?g7 ?g8 ?g9 ?gS ?lS ?gH ?lH ?kyH ?sH ?pH ?gG ?lG ?kyG ?sG ?pG ?gP ?gE ?sp1 ?sp2 ?tiT ?liT ?ciT ?kiT ?nB ?xB ?saB ?npB ?aiB ?kepB ?eCB ?tCB ?nD ?xD ?saD ?npD ?aiD ?kepD ?eCD ?tCD ?nR ?aM0 ?iM0 ?lM0 ?cM0 ?kM0 ?aM1 ?iM1 ?lM1 ?cM1 ?kM1 ?aM2 ?iM2 ?lM2 ?cM2 ?kM2 ?aM3 ?iM3 ?lM3 ?cM3 ?kM3 ?aM4 ?iM4 ?lM4 ?cM4 ?kM4 ?pgR ?hdR ?poR ?saR ?mkR ?kcR ?nSR ?nTR ?nAR ?gaB ?ggB ?ccB ?moB ?hCB ?iP ?tP ?sBP ?eCT ?hCT ?tCT ?sBT
    (case a1 => k_is)
    (case l1 => k_is)
    (case c1 => k_is)
    (case k1 => k_is)
    (case a2 => k_is)
    (case l2 => k_is)
    (case c2 => k_is)
    (case k2 => k_is)
    (case a3 => k_is)
    (case l3 => k_is)
    (case c3 => k_is)
    (case k3 => k_is)
    (case a4 => k_is)
    (case l4 => k_is)
    (case c4 => k_is)
    (case k4 => k_is)
    (case a5 => k_is)
    (case l5 => k_is)
    (case c5 => k_is)
    (case k5 => k_is)
    (case a6 => k_is)
    (case l6 => k_is)
    (case c6 => k_is)
    (case k6 => k_is)
    (case a7 => k_is)
    (case l7 => k_is)
    (case c7 => k_is)
    (case k7 => k_is)
    (case a8 => k_is)
    (case l8 => k_is)
    (case c8 => k_is)
    (case k8 => k_is)
    (case a9 => k_is)
    (case l9 => k_is)
    (case c9 => k_is)
    (case k9 => k_is)
    (case a10 => k_is)
    (case l10 => k_is)
    (case c10 => k_is)
    (case k10 => k_is)
    (case a11 => k_is)
    (case l11 => k_is)
    (case c11 => k_is)
    (case k11 => k_is)
    (case a12 => k_is)
    (case l12 => k_is)
    (case c12 => k_is)
    (case k12 => k_is)
    (case a13 => k_is)
    (case l13 => k_is)
    (case c13 => k_is)
    (case k13 => k_is)
    (case a14 => k_is)
    (case l14 => k_is)
    (case c14 => k_is)
    (case k14 => k_is)
    (case a15 => k_is)
    (case l15 => k_is)
    (case c15 => k_is)
    (case k15 => k_is)
    (case a16 => k_is)
    (case l16 => k_is)
    (case c16 => k_is)
    (case k16 => k_is)
    (case a17 => k_is)
    (case l17 => k_is)
    (case c17 => k_is)
    (case k17 => k_is)
    (case a18 => k_is)
    (case l18 => k_is)
    (case c18 => k_is)
    (case k18 => k_is)
    (case a19 => k_is)
    (case l19 => k_is)
    (case c19 => k_is)
    (case k19 => k_is)
    (case a20 => k_is)
    (case l20 => k_is)
    (case c20 => k_is)
    (case k20 => k_is)
    (case a21 => k_is)
    (case l21 => k_is)
    (case c21 => k_is)
    (case k21 => k_is)
    (case a22 => k_is)
    (case l22 => k_is)
    (case c22 => k_is)
    (case k22 => k_is)
    (case a23 => k_is)
    (case l23 => k_is)
    (case c23 => k_is)
    (case k23 => k_is)
    (case a24 => k_is)
    (case l24 => k_is)
    (case c24 => k_is)
    (case k24 => k_is)
    (case a25 => k_is)
    (case l25 => k_is)
    (case c25 => k_is)
    (case k25 => k_is)
    (case a26 => k_is)
    (case l26 => k_is)
    (case c26 => k_is)
    (case k26 => k_is)
    (case a27 => k_is)
    (case l27 => k_is)
    (case c27 => k_is)
    (case k27 => k_is)
    (case a28 => k_is)
    (case l28 => k_is)
    (case c28 => k_is)
    (case k28 => k_is)
    (case a29 => k_is)
    (case l29 => k_is)
    (case c29 => k_is)
    (case k29 => k_is)
    (case a30 => k_is)
    (case l30 => k_is)
    (case c30 => k_is)
    (case k30 => k_is)
    (case a31 => k_is)
    (case l31 => k_is)
    (case c31 => k_is)
    (case k31 => k_is)
    (case z_len => k_is)
    (case z_int => k_is)
    (case z_range => k_is)
    (case z_min => k_is)
    (case z_str => k_is)
    (case z_tuple => k_is)
    (case z_sorted => k_is)
    (case z_isinstance => k_is)
    (case z_any => k_is)
    (case z_all => k_is)
    (case z_list => k_is)
    (case z_bool => k_is)
    (case z_dict => k_is)
    (case g1 => k_is)
    (case g2 => k_is)
    (case g3 => k_is)
    (case g4 => k_is)
    (case g5 => k_is)
    (case g6 => k_is)
    (case g7 => k_is)
    (case g8 => k_is)
    (case g9 => k_is)
    (case gS => k_is)
    (case lS => k_is)
    (case gH => k_is)
    (case lH => k_is)
    (case kyH => exact ⟨⟨_, _, rfl, rfl⟩, ⟨_, _, rfl, rfl⟩, ⟨_, _, rfl, rfl⟩, ⟨_, _, rfl, rfl⟩, trivial⟩)
    (case sH => rfl)
    (case pH => exact ⟨⟨_, _, rfl, rfl⟩, ⟨_, rfl⟩, ⟨_, _, rfl, rfl⟩, ⟨_, rfl⟩, ⟨_, _, rfl, rfl⟩, ⟨_, rfl⟩, ⟨_, _, rfl, rfl⟩, ⟨_, rfl⟩, trivial⟩)
    (case gG => k_is)
    (case lG => k_is)
    (case kyG => exact ⟨⟨_, _, rfl, rfl⟩, ⟨_, _, rfl, rfl⟩, ⟨_, _, rfl, rfl⟩, ⟨_, _, rfl, rfl⟩, ⟨_, _, rfl, rfl⟩, ⟨_, _, rfl, rfl⟩, ⟨_, _, rfl, rfl⟩, ⟨_, _, rfl, rfl⟩, ⟨_, _, rfl, rfl⟩, trivial⟩)
    (case sG => rfl)
    (case pG => exact ⟨⟨_, _, rfl, rfl⟩, ⟨_, rfl⟩, ⟨_, _, rfl, rfl⟩, ⟨_, rfl⟩, ⟨_, _, rfl, rfl⟩, ⟨_, rfl⟩, ⟨_, _, rfl, rfl⟩, ⟨_, rfl⟩, ⟨_, _, rfl, rfl⟩, ⟨_, rfl⟩, ⟨_, _, rfl, rfl⟩, ⟨_, rfl⟩, ⟨_, _, rfl, rfl⟩, ⟨_, rfl⟩, ⟨_, _, rfl, rfl⟩, ⟨_, rfl⟩, ⟨_, _, rfl, rfl⟩, ⟨_, rfl⟩, trivial⟩)
    (case gP => k_is)
    (case gE => k_is)
    (case sp1 => k_is)
    (case sp2 => k_is)
    (case nB => k_is)
    (case xB => k_is)
    (case saB => k_is)
    (case npB => k_is)
    (case aiB => k_is)
    (case kepB => k_is)
    (case eCB => k_is)
    (case tCB => k_is)
    (case nD => k_is)
    (case xD => k_is)
    (case saD => k_is)
    (case npD => k_is)
    (case aiD => k_is)
    (case kepD => k_is)
    (case eCD => k_is)
    (case tCD => k_is)
    (case nR => k_is)
    (case aM0 => k_is)
    (case iM0 => k_is)
    (case lM0 => k_is)
    (case cM0 => k_is)
    (case kM0 => k_is)
    (case aM1 => k_is)
    (case iM1 => k_is)
    (case lM1 => k_is)
    (case cM1 => k_is)
    (case kM1 => k_is)
    (case aM2 => k_is)
    (case iM2 => k_is)
    (case lM2 => k_is)
    (case cM2 => k_is)
    (case kM2 => k_is)
    (case aM3 => k_is)
    (case iM3 => k_is)
    (case lM3 => k_is)
    (case cM3 => k_is)
    (case kM3 => k_is)
    (case aM4 => k_is)
    (case iM4 => k_is)
    (case lM4 => k_is)
    (case cM4 => k_is)
    (case kM4 => k_is)
    (case pgR => k_is)
    (case hdR => k_is)
    (case poR => k_is)
    (case saR => k_is)
    (case mkR => k_is)
    (case kcR => k_is)
    (case nSR => k_is)
    (case nTR => k_is)
    (case nAR => k_is)
    (case gaB => k_is)
    (case ggB => k_is)
    (case ccB => k_is)
    (case moB => k_is)
    (case hCB => k_is)
    (case iP => k_is)
    (case tP => k_is)
    (case sBP => k_is)
    (case eCT => k_is)
    (case hCT => k_is)
    (case tCT => k_is)
    (case sBT => k_is)
    (case tiT => k_is)
    (case liT => k_is)
    (case ciT => k_is)
    (case kiT => k_is)
#print axioms PySem.Challenge.cw_passproven_k11_conditions_read_holds
