import PyProof.Rows.All
import Wide.All
import OpenK.AllK
import Wide.FinOn
import HandS.ForMost
import HandS.Wide
import HandS.IsInst
import HandS.More
import HandS.Conv
import HandS.Codes
import HandS.ForExc
import HandS.ExcInit
import HandS.ExcField
import HandS.TryMany
import KE.GoesEnum
import KE.KExcIs
import HandS.ExcIs
import HandS.Zip
import PyProof.ListNew
import HandS.Walk
import HandS.Style
import HandS.Flow
import PyProof.AttrMissHeap
import HandS.GenCall
import HandS.GenList
import HandS.GenOver
import HandS.GenYield
import HandS.Dict
import HandS.List
import PyProof.DictUpdate
import PyProof.TupleIter
import PyProof.WalksMore
import PyProof.EqLayable
import PyProof.NeData
import KE.KxText
import HandS.Star
import HandS.Rev
import HandS.DictComp
import HandS.GenBody
import HandS.FStr
import HandS.SortInts
import HandS.TupAny
import PySem.Challenge.RW_passproven_k33_symbolic_terms
set_option Elab.async false
set_option linter.all false
set_option maxRecDepth 100000
namespace PKR
open PySem L2
/-! ### one of two walks, as it comes -/
theorem pi_or {X : Cx} {tg iter : Expr} {w1 w2 : TI} (a : PI X tg iter w1) (b : PI X tg iter w2) : PI X tg iter (fun σ H R => w1 σ H R ∨ w2 σ H R) :=
  ⟨fun pins s σ H R I h => h.elim (a.run pins s σ H R I) (b.run pins s σ H R I)⟩
/-! ### enumerate over a tuple -/
set_option maxHeartbeats 2000000 in
theorem meets_enum_any {v : Value} {o : Obj} {Hh : Heap → Prop} (B : Begins v o Hh) :
    Meets (Builtin.«enumerate.__new__» ⟨[.type "enumerate", v], []⟩) (fun _ R s => Hh s.heap ∧
      R (.ok (.ret (.ref (s.heap.push o).objs.size))) { s with heap := (s.heap.push o).push { cls := .type "enumerate", data := .fields #[.none, .bool false, .ref s.heap.objs.size, rawInt 0, .none, .none] } }) := by
  refine .of_wp fun prog w A R s h => ?_
  obtain ⟨hp, g, d, tk, os⟩ := s
  obtain ⟨hH, hR⟩ := h
  have sub_e := sub_enumerate
  have it_v : ∀ {A' : Around} {E Q : Value → Shared → Prop}, Q (.ref hp.objs.size) ⟨hp.push o, g, d, tk, os⟩ → wpAny (model prog w) A' (pyIter v) Q E ⟨hp, g, d, tk, os⟩ := fun z => B.iter prog w _ _ ⟨hp, g, d, tk, os⟩ _ hH z
  wp_walk using it_v
  refine wpAny_stack_any fun st => wpAny_pure ?_
  split
  · rename_i c _ _ _ _ _
    cases (c == Value.type "enumerate") <;> (wp_walk using it_v; exact ⟨_, rfl, hR⟩)
  · wp_walk using it_v
    exact ⟨_, rfl, hR⟩
theorem call_enum_any {prog : Program} {w : World} {A : Around} {E : Value → Shared → Prop} {s : Shared} {v : Value} {o : Obj} {Hh : Heap → Prop} {Q : Value → Shared → Prop} (B : Begins v o Hh) (hH : Hh s.heap)
    (hq : ∀ h', IsEnum h' (s.heap.objs.size + 1) s.heap.objs.size 0 .none → h'.get? s.heap.objs.size = some o → (∀ b u, s.heap.get? b = some u → h'.get? b = some u) → Q (.ref (s.heap.objs.size + 1)) { s with heap := h' }) :
    wpAny (model prog w) A (call (.type "enumerate") [v]) Q E s := by
  refine callType_new F.called_enumerate (by decide) (F.typeCall_enumerate_1 _) (F.newCall_enumerate_1 _) (fun obj => F.args_object_init_2 obj _) F.entry_enumerate_new (meets_enum_any B) ⟨hH, ?_⟩
  have sz : (s.heap.push o).objs.size = s.heap.objs.size + 1 := Heap.size_push ..
  show _ ∧ _
  rw [sz]
  have en : IsEnum ((s.heap.push o).push { cls := .type "enumerate", data := .fields #[.none, .bool false, .ref s.heap.objs.size, rawInt 0, .none, .none] }) (s.heap.objs.size + 1) s.heap.objs.size 0 .none := by
    have g := Heap.get?_push_size (s.heap.push o) (o := { cls := .type "enumerate", data := .fields #[.none, .bool false, .ref s.heap.objs.size, rawInt 0, .none, .none] }) rfl
    rw [sz] at g
    exact g
  exact ⟨⟨_, en, rfl⟩, hq _ en (Heap.get?_push_of_some _ (Heap.get?_push_size _ B.free)) fun b u z => Heap.get?_push_of_some _ (Heap.get?_push_of_some _ z)⟩
/-- the tuple at a, each item in a new pair with its number -/
def ItE (K : PySem.W.Frag) (a : Addr) : It :=
  ⟨fun i H => ∃ (xs : List V) (x : V), SqT K H a xs ∧ xs[i]? = some x, fun i H v H' => ∃ T x, v = .ref T ∧ H T = none ∧ H' = upd H T (.tup [.int (i : Nat), x]) ∧ ∀ xs, SqT K H a xs → xs[i]? = some x, fun i H => ∃ xs : List V, SqT K H a xs ∧ xs.length = i⟩
theorem pair_mem {b e it : Addr} (h : b ∈ [e, it]) : b = e ∨ b = it := by simpa using h
theorem turn_enumT {P : Program} {w : World} {K : PySem.W.Frag} {es : List Expr} {k : Nat} {pos : Pos} (a e it : Addr) :
    Turn P w K (.Tuple es k pos) (ItE K a) [e, it] e (fun i h => (∃ old, IsEnum h e it ((i : Nat) : Int) old) ∧ h.IsTupleIter it a i ∧ e ≠ it ∧ a ≠ it ∧ e ≠ a) where
  mem := List.mem_cons_self
  obj := fun i h st b hb => by
    obtain ⟨⟨old, he⟩, ⟨o, ho, _, hd⟩, _⟩ := st
    rcases pair_mem hb with rfl | rfl
    · exact ⟨_, he, fun v q => nomatch q⟩
    · exact ⟨o, ho, fun v q => by rw [hd] at q; cases q⟩
  keep := fun i h h' st k => by
    obtain ⟨⟨old, he⟩, hi, ne⟩ := st
    exact ⟨⟨old, k e List.mem_cons_self _ he⟩, hi.at fun o q => k it (List.mem_cons_of_mem _ List.mem_cons_self) o q, ne⟩
  item := by
    intro X eP ew eK calm i pins s σ H E I free st go
    subst eP ew eK
    obtain ⟨⟨old, he⟩, hi, ne, na, nea⟩ := st
    obtain ⟨xs, x, hx, gx⟩ := go
    obtain ⟨its, rv, pT, _⟩ := I.tuple hx
    obtain ⟨u, gu, ru⟩ := rv.get gx
    have hh : X.A.handled = none := I.ok.hd calm
    have D := Draws.tuple (prog := X.prog) (w := X.w) (A := X.A.in1) hh it a na its.toArray
    have lt : i < its.toArray.size := by
      have := (List.getElem?_eq_some_iff.mp gu).1
      simpa using this
    have be := Heap.lt_size he
    have bi : it < s.heap.objs.size := by obtain ⟨_, q, _⟩ := hi; exact Heap.lt_size q
    refine wpAny_pyNext_enum_itemD D he ⟨hi, show s.heap.IsTuple a its.toArray from pT⟩ lt ne (fun m => (pair_mem m).elim ne nea) fun y h1 tk hy out st1 hT _ old1 => ?_
    have ey : y = u := by
      have : its.toArray[i]? = some u := by simpa using gu
      rw [hy] at this
      exact Option.some.inj this
    subst ey
    refine ⟨_, rfl, wpAny_letOwnedTupleGo_enum (s := { s with heap := h1, toks := tk + 1 }) out fun h2 en sb => ?_⟩
    have hT2 := (sb.2 _ (Nat.ne_of_gt be)).trans hT
    have obj : ObjOk X.prog X.w (upd H s.heap.objs.size (.tup [.int (i : Nat), x])) h2 s.heap.objs.size (.tup [.int (i : Nat), x]) :=
      ⟨by show 2 ≤ sizeLine; decide, [.int i tk, y], .cons ⟨_, rfl⟩ (.cons ru .nil), ⟨_, hT2, rfl, _, rfl⟩⟩
    have J : Inv X pins σ (upd H s.heap.objs.size (.tup [.int (i : Nat), x])) { s with heap := h2, toks := tk + 1 } :=
      I.turnedNew (ch := [e, it]) (fun b ob nb q => by
        have n1 : b ≠ e := fun z => nb (by rw [z]; exact List.mem_cons_self)
        have n2 : b ≠ it := fun z => nb (by rw [z]; exact List.mem_cons_of_mem _ List.mem_cons_self)
        exact (sb.2 b n1).trans (old1 b ob n1 n2 q)) free (Nat.le_refl _) obj
    refine ⟨.ref s.heap.objs.size, _, J, rfl, ⟨_, x, rfl, I.hok.fresh (Nat.le_refl _), rfl, fun ys hy' => by rw [I.tuple_inj hy' hx]; exact gx⟩, ⟨⟨y, ?_⟩, st1.1.at fun o q => (sb.2 it ne.symm).trans q, ne, na, nea⟩, fun b hb => ?_⟩
    · rw [show ((i + 1 : Nat) : Int) = (i : Int) + 1 by omega]
      exact en
    · have lb : b < s.heap.objs.size := by
        rcases pair_mem hb with rfl | rfl
        · exact be
        · exact bi
      rw [upd_ne (Nat.ne_of_lt lb)]
      exact (free b hb).1
  done := by
    intro X eP ew eK calm i pins s σ H E I free st stop
    subst eP ew eK
    obtain ⟨⟨old, he⟩, hi, ne, na, nea⟩ := st
    obtain ⟨xs, hx, lx⟩ := stop
    obtain ⟨its, rv, pT, _⟩ := I.tuple hx
    have hh : X.A.handled = none := I.ok.hd calm
    have D := Draws.tuple (prog := X.prog) (w := X.w) (A := X.A.in1) hh it a na its.toArray
    have ei : its.toArray.size = i := by rw [List.size_toArray, ← rv.length, lx]
    obtain ⟨f0, f1, f2, f3, f4, f5⟩ := free it (List.mem_cons_of_mem _ List.mem_cons_self)
    exact wpAny_pyNext_enum_endD D he ⟨by rw [ei]; exact hi, show s.heap.IsTuple a its.toArray from pT⟩ fun h2 old1 => ⟨rfl, I.turned (t' := s.toks) (fun b o nb q => old1 b o nb q) f0 f1 f3 f4 f5⟩
  self := fun A i s Q E st h => by
    obtain ⟨⟨_, he⟩, _⟩ := st
    exact wpAny_pyIter_enum he h
def iEnumT (K : PySem.W.Frag) (ta : TA) : TI := fun σ H R => ta σ H fun vs H1 => ∃ a xs, vs = [.ref a] ∧ SqT K H1 a xs ∧ R (ItE K a) H1
theorem pi_enumT {X : Cx} {e : Expr} {ta : TA} {p pos tpos : Pos} {es : List Expr} {k : Nat} (hg : Gl X "enumerate") (hm : X.mg "enumerate" = none) (ha : PA X [e] ta) (hs : starEach [e] X.env = [(false, eval e X.env)] := by rfl) :
    PI X (.Tuple es k tpos) (.Call (.Name "enumerate" p) [e] [] pos) (iEnumT X.K ta) := by
  refine ⟨fun pins s σ H R I h => PyProof.Rows.Call_ (ld_blt I hg hm PyProof.Rows.boot_enumerate (PyProof.Rows.callWith_type1 (thn (ha.run pos pins s σ H _ I h) fun us s1 hz => ?_) hs rfl))⟩
  obtain ⟨vs, H1, I1, rs, a, xs, rfl, hx, q⟩ := hz
  cases rs with
  | cons r rest =>
    cases rest
    cases r
    obtain ⟨its, rv, pT, _⟩ := I1.tuple hx
    have la : a < s1.heap.objs.size := pT.lt
    refine call_enum_any (begins_tuple a its.toArray) (show s1.heap.IsTuple a its.toArray from pT) fun h2 en gi old => wpAny_pyIter_enum en ?_
    have J : Inv X pins σ H1 { s1 with heap := h2 } := I1.kept (t' := s1.toks) old
    have na : a ≠ s1.heap.objs.size := Nat.ne_of_lt la
    have nea : s1.heap.objs.size + 1 ≠ a := Nat.ne_of_gt (Nat.lt_succ_of_lt la)
    refine ⟨_, [s1.heap.objs.size + 1, s1.heap.objs.size], _, _, H1, rfl, J, turn_enumT a (s1.heap.objs.size + 1) s1.heap.objs.size, ⟨⟨.none, en⟩, ⟨_, gi, rfl, rfl⟩, Nat.succ_ne_self _, na, nea⟩, fun b hb => ?_, q⟩
    have lb : s1.heap.objs.size ≤ b := by
      rcases pair_mem hb with rfl | rfl
      · exact Nat.le_succ _
      · exact Nat.le_refl _
    exact I1.fpOk lb (I1.hok.fresh lb)
/-! ### an empty tuple and another one -/
def rCat0 (K : PySem.W.Frag) : R2 := fun x y H Q => ∃ a b ys, x = .ref a ∧ y = .ref b ∧ SqT K H a [] ∧ SqT K H b ys ∧ Q (.ref b) H
theorem op_cat0 {X : Cx} : OpR X (binaryOp .Add) (rCat0 X.K) := by
  intro pins s σ H x y v u Q I rx ry h
  obtain ⟨a, b, ys, rfl, rfl, ha, hb, q⟩ := h
  cases rx
  cases ry
  obtain ⟨i1, r1, p1, _⟩ := I.tuple ha
  obtain ⟨i2, r2, p2, _⟩ := I.tuple hb
  cases r1
  obtain ⟨⟨c1, d1, t1, l1⟩, g1, e1, n1, f1⟩ := id p1
  obtain ⟨⟨c2, d2, t2, l2⟩, g2, e2, n2, f2⟩ := id p2
  simp only at e1 f1 e2 f2
  subst e1 f1 e2 f2
  exact PySem.concat_meets ⟨_, g1, rfl⟩ ⟨_, g2, rfl⟩ PySem.noFill_tuple_add PySem.seq_tuple_add PySem.F.slot_tuple_add PySem.F.entry_tuple_add (PySem.F.args_tuple_add_2 _ _)
    (PyProof.Rows.tuple_addW0 a b #[] i2.toArray n1 n2 d1 d2 l1 l2 rfl) ⟨g1, g2, ⟨.ref b, H, I, rfl, q⟩⟩
/-- t + u -/
def rCatA (K : PySem.W.Frag) : R2 := fun x y H Q => rCatT K x y H Q ∨ rCat0 K x y H Q
theorem op_catA {X : Cx} : OpR X (binaryOp .Add) (rCatA X.K) := op_catT.or op_cat0
end PKR
/-! a try with several clauses 'except X as n', every one with its own suite -/
namespace L2.PKR
open PySem PySem.Spec PyProof.Rows
abbrev Suite := Addr → Value → Option Addr → TS
/-- the ends of a suite whose name is given back -/
def offEnds (i : Nat) (D : Ends) : Ends := ⟨fun p q => D.nx (p.set i none) q, D.rt, fun p q => D.bk (p.set i none) q, fun p q => D.ct (p.set i none) q⟩
/-- the wish of the clauses, in their order -/
def wRow (K : PySem.W.Frag) (Wout : WX) (D : Ends) : List (Value × Nat × Suite) → WX
  | [] => Wout
  | (c, i, ts) :: rest => fun cls d σ H =>
    ∃ yes, PySem.W.exmOne K cls c = some yes ∧ (yes = true → ∀ a, H a = none → ts a cls d (offEnds i D) (σ.set i (some (.ref a))) H) ∧ (yes = false → wRow K Wout D rest cls d σ H)
/-- the exception at a, caught and on the ground -/
structure Down (X : Cx) (pins : List (Addr × Obj)) (B : Heap) (a : Addr) (before : Shared) (σ : St) (H : Hp) (cls : Value) (d : Option Addr) (s : Shared) : Prop where
  inv : Inv X pins σ H before
  base : ∀ b o, before.heap.get? b = some o → b ∉ frs X.stack → B.get? b = some o
  slots : before.heap.UpToSlots s.heap
  fly : HandSPX.FlyingZ B (X.env :: X.outer) a (Zc cls d) s.heap
  out : H a = none
  os : s.os = before.os
  bare : AllBare s.gens
section
variable {X : Cx} {pins : List (Addr × Obj)} {B : Heap} {a : Addr} {before s : Shared} {σ : St} {H : Hp} {cls : Value} {d : Option Addr} {D : Ends} {Wout : WX}
theorem Down.here (z : Down X pins B a before σ H cls d s) : Inv X pins σ H s := z.inv.landed z.base z.fly.1 z.slots z.os z.bare
/-- its object, and that it is none of the frames' -/
theorem Down.obj (hf : X.env.frame = some X.env.locals) (z : Down X pins B a before σ H cls d s) : ∃ oe vs, s.heap.get? a = some oe ∧ Zc cls d oe ∧ oe.data = .fields vs ∧ a ≠ X.env.locals ∧ a ∉ X.fs := by
  obtain ⟨oe, vs, he, hz, hd⟩ := z.fly.there
  have nfr : a ∉ frs (X.env :: X.outer) := fun hm => by
    obtain ⟨_, o2, e2, no⟩ := z.fly.2.2.1.mem hm
    rw [he] at e2
    cases e2
    exact no _ hd
  refine ⟨oe, vs, he, hz, hd, fun q => nfr (List.mem_filterMap.mpr ⟨X.env, .head _, by rw [hf, q]⟩), fun q => ?_⟩
  obtain ⟨en, m, r⟩ := List.mem_filterMap.mp q
  exact nfr (List.mem_filterMap.mpr ⟨en, .tail _ m, r⟩)
theorem Down.more (z : Down X pins B a before σ H cls d s) {h : Heap} (fl : HandSPX.FlyingZ B (X.env :: X.outer) a (Zc cls d) h) (up : s.heap.UpToSlots h) : Down X pins B a before σ H cls d { s with heap := h } :=
  ⟨z.inv, z.base, z.slots.trans up, fl, z.out, z.os, z.bare⟩
/-- no clause is left -/
theorem row_nil (hs : X.stack = X.env :: X.outer) (hf : X.env.frame = some X.env.locals) (tk : Takes X Wout) (z : Down X pins B a before σ H cls d s) (w : Wout cls d σ H) :
    wpAny (model X.prog X.w) X.A (handleBy (.ref a) X.env []) (SP X pins D) X.xe s := by
  refine wpAny_handleBy_nil ?_
  obtain ⟨_, _, _, oe, vs, T, _, _, he, _, hd, h1, _⟩ := id z.fly
  unfold PySem.passOn
  refine wpAny_bind (wpAny_field he hd h1 ?_)
  rw [if_neg (show ¬ ((Value.ref T == Value.none) = true) by simp)]
  have last : wpAny (model X.prog X.w) X.A (setFlight (.ref a) X.env.frame) (fun _ s2 => wpAny (model X.prog X.w) X.A (throw (.ref a) : Sem Flow) (SP X pins D) X.xe s2) X.xe s := by
    rw [hf]
    refine HandSPX.setFlight_upZ z.fly fun h2 held up => wpAny_throw (tk _ _ ?_)
    exact ⟨a, B, before, pins, σ, H, cls, d, rfl, z.inv, z.base, z.slots.trans up, .inr (.inr (by rw [hs]; exact held)), z.out, z.os, z.bare, w⟩
  first
    | exact wpAny_bind (wpAny_pure (wpAny_bind last))
    | exact wpAny_bind last
/-- one clause -/
theorem row_cons {x n : Str} {c : Value} {i : Nat} {b₀ : Stmt} {more : List Stmt} {np pos : Pos} {ts : Suite} {hds : List ExceptHandler} {yes : Bool} (hf : X.env.frame = some X.env.locals) (hN : X.N.Nodup) (hi : X.N[i]? = some n)
    (hl : X.env.kindOf n = some .local) (hc : Names X x c)
    (body : ∀ (a : Addr) (oe : Obj) (cls : Value) (d : Option Addr) (pn : List (Addr × Obj)), Zc cls d oe → (∃ vs, oe.data = .fields vs) → PSs (X.suite a ((a, oe) :: pn)) (b₀ :: more) (ts a cls d))
    (z : Down X pins B a before σ H cls d s) (hy : PySem.W.exmOne X.K cls c = some yes) (t : yes = true → ts a cls d (offEnds i D) (σ.set i (some (.ref a))) H)
    (f : yes = false → wpAny (model X.prog X.w) X.A (handleBy (.ref a) X.env hds) (SP X pins D) X.xe s) :
    wpAny (model X.prog X.w) X.A (handleBy (.ref a) X.env (.ExceptHandler (some (.Name x np)) (some n) (b₀ :: more) pos :: hds)) (SP X pins D) X.xe s := by
  have ok := z.inv.ok
  obtain ⟨oe, vs, he, hz, hd, nL, nF⟩ := z.obj hf
  have S := z.here.suite he hd z.out nL nF
  refine wpAny_handleBy_cons (codeAny_handlers_test ?_) (fun q => nomatch q)
  have ty : PySem.W.Looks (model X.prog X.w) s.heap (typeOf (.ref a)) cls := fun _ _ _ _ k q => wpAny_typeOf_ref (k _ _ he) (by rw [hz.1]; exact q)
  have isIt := PySem.W.exm_one (M := model X.prog X.w) z.here.kIn ty hy
  have named : ∀ {Q E : Value → Shared → Prop}, Q c s → wpAny (model X.prog X.w) (X.A.mark (some (.ref a))) (eval (.Name x np) X.env) Q E s := fun {Q E} q => by
    obtain ⟨hg, nd, hm | ⟨hm, hv, hn⟩⟩ := hc
    · exact ld_glob (X := X.suite a ((a, oe) :: (X.pn ++ pins))) S hg hm q nd
    · exact ld_blt (X := X.suite a ((a, oe) :: (X.pn ++ pins))) S hg hm hv q hn nd
  refine named (isIt.here ?_)
  cases yes with
  | false => exact f rfl
  | true =>
    refine codeAny_handlers_suite_as (HandSPX.lands_againZ z.fly fun h2 fl up => ?_)
    have z2 := z.more fl up
    obtain ⟨oe2, vs2, he2, hz2, hd2, nL2, nF2⟩ := z2.obj hf
    refine store_ok (X := X.suite a ((a, oe2) :: (X.pn ++ pins))) (v := .ref a) (z2.here.suite he2 hd2 z.out nL2 nF2) hN hi (.inl hl) rfl (fun s3 S3 => ?_) (.inr hl)
    have run := (body a oe2 cls d (X.pn ++ pins) hz2 ⟨_, hd2⟩).run [] s3 (σ.set i (some (.ref a))) H (offEnds i D) S3 (t rfl)
    have gone : ∀ {p : St} {q : Hp} {s4 : Shared} {Q : Shared → Prop}, Inv (X.suite a ((a, oe2) :: (X.pn ++ pins))) [] p q s4 → (∀ s5, Inv X pins (p.set i none) q s5 → Q s5) →
        wpAny (model X.prog X.w) X.A (do bindName X.env n .none; unbindBehindTheSuite X.env n pos) (fun _ s5 => Q s5) X.xe s4 := fun S4 k => gone_ok (S4.unsuite ok) hN hi hl k
    refine wpAny_mono run (fun fl4 s4 done => ?_) (fun _ _ no => False.elim no)
    rcases fl4 with _ | _ | _ | u
    · obtain ⟨p, q, S4, k⟩ := done
      exact gone S4 fun s5 J => ⟨_, _, J, k⟩
    · obtain ⟨p, q, S4, k⟩ := done
      exact gone S4 fun s5 J => ⟨_, _, J, k⟩
    · obtain ⟨p, q, S4, k⟩ := done
      exact gone S4 fun s5 J => ⟨_, _, J, k⟩
    · obtain ⟨v, p, q, S4, r, k⟩ := done
      exact gone S4 fun s5 J => ⟨_, _, _, J, r, k⟩
end
/-- the clauses and their wishes -/
inductive Row (X : Cx) : List ExceptHandler → List (Value × Nat × Suite) → Prop
  | nil : Row X [] []
  | cons {x n : Str} {c : Value} {i : Nat} {b₀ : Stmt} {more : List Stmt} {np pos : Pos} {ts : Suite} {hds : List ExceptHandler} {l : List (Value × Nat × Suite)} (hi : X.N[i]? = some n) (hl : X.env.kindOf n = some .local) (hc : Names X x c)
      (body : ∀ (a : Addr) (oe : Obj) (cls : Value) (d : Option Addr) (pn : List (Addr × Obj)), Zc cls d oe → (∃ vs, oe.data = .fields vs) → PSs (X.suite a ((a, oe) :: pn)) (b₀ :: more) (ts a cls d)) (r : Row X hds l) :
      Row X (.ExceptHandler (some (.Name x np)) (some n) (b₀ :: more) pos :: hds) ((c, i, ts) :: l)
theorem row_runs {X : Cx} {pins : List (Addr × Obj)} {B : Heap} {a : Addr} {before s : Shared} {σ : St} {H : Hp} {cls : Value} {d : Option Addr} {D : Ends} {Wout : WX} (hs : X.stack = X.env :: X.outer) (hf : X.env.frame = some X.env.locals) (hN : X.N.Nodup) (tk : Takes X Wout)
    {hds : List ExceptHandler} {l : List (Value × Nat × Suite)} (hh : Row X hds l) (z : Down X pins B a before σ H cls d s) (w : wRow X.K Wout D l cls d σ H) : wpAny (model X.prog X.w) X.A (handleBy (.ref a) X.env hds) (SP X pins D) X.xe s := by
  induction hh with
  | nil => exact row_nil hs hf tk z w
  | cons hi hl hc body r ih =>
    obtain ⟨yes, hy, t, f⟩ := w
    exact row_cons hf hN hi hl hc body z hy (fun e => t e a z.out) fun e => ih (f e)
theorem ps_try_row {X : Cx} {body : List Stmt} {h₀ : ExceptHandler} {hds : List ExceptHandler} {l : List (Value × Nat × Suite)} {pos : Pos} {tb : WX → TS} {Wout : WX} (hs : X.stack = X.env :: X.outer) (hf : X.env.frame = some X.env.locals) (hN : X.N.Nodup) (tk : Takes X Wout)
    (hb : ∀ (W : WX) (pn : List (Addr × Obj)) (xe : Value → Shared → Prop), Takes (X.tr pn xe) W → PassesOwn (model X.prog X.w) X.A X.env xe → PSs (X.tr pn xe) body (tb W))
    (hh : Row X (h₀ :: hds) l) : PS X (.Try body (h₀ :: hds) [] [] pos) (fun D σ H => tb (wRow X.K Wout D l) D σ H) := by
  refine ⟨fun pins s σ H D I h => wpAny_Try_except ?_⟩
  have ok := I.ok
  have fr : X.A.frames = some (X.env :: X.outer) := by rw [ok.frames, hs]
  have inner := hb (wRow X.K Wout D l) (X.pn ++ pins)
    (fun e s1 => wpAny (model X.prog X.w) X.A (noteFrame e X.env) (fun _ s2 => wpAny (model X.prog X.w) X.A (setFlight e none) (fun _ s3 => wpAny (model X.prog X.w) X.A (handleBy e X.env (h₀ :: hds)) (SP X pins D) X.xe s3) X.xe s2) X.xe s1)
    (fun u s1 air => by
      obtain ⟨a, B, before, pins1, p, q, cls, d, rfl, J, base, up, sky, out, os, bare, w⟩ := air
      have J1 : Inv X pins p q before := J.ofTry ok
      refine Sky.land Zc.steady fr hf (show Sky B (X.env :: X.outer) a (Zc cls d) X.env.locals s1.heap by rw [← hs]; exact sky) fun h2 fl up2 => ?_
      exact row_runs hs hf hN tk hh (s := { s1 with heap := h2 }) ⟨J1, base, up.trans up2, fl, out, os, bare⟩ w)
    PassesOwn.looking
  refine wpAny_mono (inner.run [] s σ H D (I.toTry _) h) (fun f s1 done => ?_) (fun _ _ k => k)
  rcases f with _ | _ | _ | u
  · obtain ⟨p, q, J, k⟩ := done
    exact wpAny_execs_nil ⟨p, q, J.ofTry ok, k⟩
  · obtain ⟨p, q, J, k⟩ := done
    exact ⟨p, q, J.ofTry ok, k⟩
  · obtain ⟨p, q, J, k⟩ := done
    exact ⟨p, q, J.ofTry ok, k⟩
  · obtain ⟨v, p, q, J, r, k⟩ := done
    exact ⟨v, p, q, J.ofTry ok, r, k⟩
end L2.PKR
/-! isinstance(e, C), e a caught error of an own class with fields -/
namespace L2.PKR
open PySem PySem.Spec PyProof.Rows
def rIsX (K : PySem.W.Frag) (a : Addr) (cls : Value) (d : Option Addr) : List V → Hp → VK → Prop := fun xs H Q =>
  ∃ (c : V) (cv : Value) (yes : Bool) (D dd : Addr) (fs : List (Str × V)), xs = [.ref a, c] ∧ (∀ u, RelV c u → u = cv) ∧ cls = .ref D ∧ d = some dd ∧ H dd = some (.xd fs) ∧ ExcC K D ∧ PySem.W.kitOne K (.ref D) cv = some yes ∧ Q (.bl yes) H
theorem call_isX {X : Cx} {a : Addr} {oe : Obj} {cls : Value} {d : Option Addr} {pn : List (Addr × Obj)} (hz : Zc cls d oe) (hf : ∃ vs, oe.data = .fields vs) : CallR (X.suite a ((a, oe) :: pn)) (.builtin "isinstance") (rIsX X.K a cls d) := by
  intro pins s σ H xs us Q I r h
  obtain ⟨c, cv, yes, D, dd, fs, rfl, hcv, rfl, rfl, hx, C, hk, q⟩ := h
  rcases r with _ | ⟨rx, rr⟩
  rcases rr with _ | ⟨rc, rr⟩
  cases rr
  cases rx
  cases hcv _ rc
  have at_a := (I.pin (a, oe) (List.mem_append_left _ (.head _))).1
  obtain ⟨vs, hd⟩ := hf
  obtain ⟨mA, hns, _⟩ := (show ObjOk X.prog X.w H s.heap dd (.xd fs) from I.hok dd _ hx)
  obtain ⟨od, ho, _⟩ := lookIn_ns hns
  have J : PySem.W.InstAt s.heap a oe D (some od) := ⟨at_a, hz.1, by unfold PySem.W.notCls; rw [hd] <;> rfl, by rw [hz.2]; exact ho⟩
  obtain ⟨cd, hcd, _⟩ := PySem.W.any_some C.hd
  exact PySem.W.kia_one (PySem.W.kitx_exc (by rw [hcd]; rfl) C.hg C.hk C.hs C.ha C.hn C.ht C.hm) I.kIn J hk (fun e => nomatch e) fun tk => ⟨.bl yes, H, I.kept (t' := tk) fun _ _ k => k, rfl, q⟩
end L2.PKR
namespace PKZ
open PySem PySem.Spec PyProof.Rows L2
/-! zip of a list or a tuple with a list or a tuple, collected -/
inductive Kd where | l | t
def Kd.It : Kd → Heap → Addr → Addr → Nat → Prop
  | .l, h, i, a, k => h.IsListIter i a k
  | .t, h, i, a, k => h.IsTupleIter i a k
def Kd.Sq : Kd → Heap → Addr → Array Value → Prop
  | .l, h, a, xs => h.IsList a xs
  | .t, h, a, xs => h.IsTuple a xs
section
variable {prog : Program} {w : World} {A : Around} {E : Value → Shared → Prop} {s : Shared}
theorem Kd.it_at {kd : Kd} {h h' : Heap} {i a : Addr} {k : Nat} (q : kd.It h i a k) (e : ∀ o, h.get? i = some o → h'.get? i = some o) : kd.It h' i a k := by
  cases kd with
  | l => exact Heap.IsListIter.at q e
  | t => exact Heap.IsTupleIter.at q e
theorem Kd.sq_at {kd : Kd} {h h' : Heap} {a : Addr} {xs : Array Value} (q : kd.Sq h a xs) (e : ∀ o, h.get? a = some o → h'.get? a = some o) : kd.Sq h' a xs := by
  cases kd with
  | l => exact Heap.IsList.at q e
  | t => exact Heap.IsTuple.at q e
theorem nx_item {kd : Kd} {i a : Addr} {k : Nat} {xs : Array Value} {x : Value} {Q : Value → Shared → Prop} (q : kd.It s.heap i a k) (q2 : kd.Sq s.heap a xs) (hx : xs[k]? = some x)
    (hQ : ∀ h', kd.It h' i a (k + 1) → Heap.SameBut i s.heap h' → Q x { s with heap := h' }) : wpAny (model prog w) A (Builtin.SmallTypes.nextOf (.ref i)) Q E s := by
  cases kd with
  | l => exact wpAny_nextOf_list_item q q2 hx hQ
  | t => exact RZ.nextOf_tuple_item q q2 hx hQ
theorem nx_end {kd : Kd} {i a : Addr} {k : Nat} {xs : Array Value} {Q : Value → Shared → Prop} (hh : A.handled = none) (q : kd.It s.heap i a k) (q2 : kd.Sq s.heap a xs) (hx : xs[k]? = none)
    (hE : ∀ h' e, Heap.ExtBut i s.heap h' → (∃ o, h'.get? e = some o ∧ o.cls = .type "StopIteration") → E (.ref e) { s with heap := h' }) : wpAny (model prog w) A (Builtin.SmallTypes.nextOf (.ref i)) Q E s := by
  cases kd with
  | l => exact wpAny_nextOf_list_end hh q q2 hx hE
  | t => exact RZ.nextOf_tuple_end hh q q2 hx hE
theorem Kd.it_get {kd : Kd} {h : Heap} {i a : Addr} {k : Nat} (q : kd.It h i a k) : ∃ o, h.get? i = some o ∧ ∀ v, o.data ≠ .cell v := by
  cases kd with
  | l => obtain ⟨o, e, _, d⟩ := q; exact ⟨o, e, fun v z => by rw [d] at z; cases z⟩
  | t => obtain ⟨o, e, _, d⟩ := q; exact ⟨o, e, fun v z => by rw [d] at z; cases z⟩
/-- a zip object; b: its own pair is held elsewhere -/
abbrev Zo (h : Heap) (z TI TO : Addr) (f0 : Value) (b : Bool) : Prop :=
  h.get? z = some { cls := .type "zip", dict := none, data := .fields #[f0, .bool b, .bool false, .ref TI, .ref TO], slots := #[] }
theorem w_alive {M : Model} {a : Addr} {Q : Option Obj → Shared → Prop} (h : Q (s.heap.get? a) s) : wpAny M A (loadIfAlive a) Q E s := fun _ _ _ => h
/-- its own pair is held -/
theorem not_free {z TI TO T0 : Addr} {bb : Bool} {o0 : Obj} {Q : Bool → Shared → Prop} (hz : Zo s.heap z TI TO (rawInt T0) bb) (h0 : s.heap.get? T0 = some o0)
    (hQ : ∀ h', Zo h' z TI TO (rawInt T0) true → Heap.SameBut z s.heap h' → Q false { s with heap := h' }) : wpAny (model prog w) A (Builtin.SmallTypes.ownedTupleIsFree (.ref z)) Q E s := by
  unfold Builtin.SmallTypes.ownedTupleIsFree
  refine wpAny_bind (wpAny_field hz rfl (x := rawInt T0) rfl ?_)
  show wpAny _ _ (loadIfAlive (T0 : Int).toNat >>= _) _ _ _
  refine wpAny_bind (w_alive ?_)
  rw [Int.toNat_natCast, h0]
  show wpAny _ _ (field (.ref z) 1 >>= _) _ _ _
  refine wpAny_bind (wpAny_field hz rfl (x := .bool bb) rfl ?_)
  cases bb with
  | true => exact wpAny_pure (hQ _ hz ⟨rfl, fun _ _ => rfl⟩)
  | false =>
    show wpAny _ _ (setField (.ref z) 1 (.bool true) >>= _) _ _ _
    exact wpAny_bind (wpAny_setField_rec hz (by simp) fun h1 e1 e2 => wpAny_pure (hQ h1 e1 e2))
/-- its next pair, its own one being held -/
theorem held_item {ka kb : Kd} {z TI TO i1 i2 l1 l2 T0 : Addr} {n m : Nat} {bb : Bool} {xs ys : Array Value} {x y : Value} {o0 : Obj} {Q : Value → Shared → Prop} (D : ZipApart z TI TO i1 i2 l1 l2)
    (hz : Zo s.heap z TI TO (rawInt T0) bb) (h0 : s.heap.get? T0 = some o0) (hTI : IsPair s.heap TI (.ref i1) (.ref i2))
    (h1 : ka.It s.heap i1 l1 n) (h2 : kb.It s.heap i2 l2 m) (q1 : ka.Sq s.heap l1 xs) (q2 : kb.Sq s.heap l2 ys) (hx : xs[n]? = some x) (hy : ys[m]? = some y)
    (hQ : ∀ h', Zo h' z TI TO (rawInt T0) true → ka.It h' i1 l1 (n + 1) → kb.It h' i2 l2 (m + 1) → IsPair h' s.heap.objs.size x y → h'.objs.size = s.heap.objs.size + 1 →
      (∀ c o, c ≠ z → c ≠ i1 → c ≠ i2 → s.heap.get? c = some o → h'.get? c = some o) → Q (.ref s.heap.objs.size) { s with heap := h' }) :
    wpAny (model prog w) A (Builtin.«zip.__next__» ⟨[.ref z], []⟩) (fun fin s' => ∃ v, fin = .done (.ret v) ∧ Q v s') E s := by
  show wpAny _ _ (field (.ref z) 2 >>= _) _ _ _
  refine wpAny_bind (wpAny_field hz rfl (x := .bool false) rfl ?_)
  show wpAny _ _ (field (.ref z) 3 >>= _) _ _ _
  refine wpAny_bind (wpAny_field hz rfl (x := .ref TI) rfl (wpAny_bind (wpAny_seqItems hTI rfl ?_)))
  show wpAny _ _ (Builtin.SmallTypes.ownedTupleIsFree (.ref z) >>= _) _ _ _
  refine wpAny_bind (not_free hz h0 fun g1 z1 e1 => ?_)
  rw [if_neg Bool.false_ne_true]
  dsimp only
  refine wpAny_bind ?_
  rw [← Array.forIn_toList]
  simp only [List.forIn_cons, List.forIn_nil]
  refine wpAny_bind (wpAny_bind (wpAny_holding ?_))
  have a1 : ka.It g1 i1 l1 n := Kd.it_at h1 fun o q => e1.extBut _ _ D.i1z q
  have b1 : ka.Sq g1 l1 xs := Kd.sq_at q1 fun o q => e1.extBut _ _ D.l1z q
  show wpAny _ _ (Builtin.SmallTypes.nextOf (.ref i1) >>= _) _ _ _
  refine wpAny_bind (nx_item a1 b1 hx fun g2 a2 e2 => wpAny_pure (wpAny_pure ?_))
  dsimp only
  refine wpAny_bind (wpAny_bind (wpAny_holding ?_))
  have a3 : kb.It g2 i2 l2 m := Kd.it_at h2 fun o q => e2.extBut _ _ D.i12.symm (e1.extBut _ _ D.i2z q)
  have b3 : kb.Sq g2 l2 ys := Kd.sq_at q2 fun o q => e2.extBut _ _ D.l2i1 (e1.extBut _ _ D.l2z q)
  show wpAny _ _ (Builtin.SmallTypes.nextOf (.ref i2) >>= _) _ _ _
  refine wpAny_bind (nx_item a3 b3 hy fun g3 a4 e3 => wpAny_pure (wpAny_pure (wpAny_pure ?_)))
  have sz : g3.objs.size = s.heap.objs.size := e3.1.trans (e2.1.trans e1.1)
  have kp : ∀ c o, c ≠ z → c ≠ i1 → c ≠ i2 → s.heap.get? c = some o → g3.get? c = some o := fun c o c1 c2 c3 q => e3.extBut _ _ c3 (e2.extBut _ _ c2 (e1.extBut _ _ c1 q))
  have z3 : Zo g3 z TI TO (rawInt T0) true := e3.extBut _ _ D.i2z.symm (e2.extBut _ _ D.i1z.symm z1)
  show wpAny _ _ (newTuple [x, y] >>= _) _ _ _
  refine wpAny_bind (wpAny_newTuple (wpAny_pure ⟨_, rfl, ?_⟩))
  dsimp only
  rw [sz]
  refine hQ _ (Heap.get?_push_of_some _ z3) (Kd.it_at a2 fun o q => Heap.get?_push_of_some _ (e3.extBut _ _ D.i12 q)) (Kd.it_at a4 fun o q => Heap.get?_push_of_some _ q) ?_ (by rw [Heap.size_push, sz]) fun c o c1 c2 c3 q => Heap.get?_push_of_some _ (kp c o c1 c2 c3 q)
  rw [← sz]
  exact Heap.get?_push_size _ rfl
/-- one of the two is at its end, the own pair being held -/
theorem held_end {ka kb : Kd} {z TI TO i1 i2 l1 l2 T0 : Addr} {n m : Nat} {bb : Bool} {xs ys : Array Value} {o0 : Obj} {Q : PySem.Fin → Shared → Prop} (hh : A.handled = none) (D : ZipApart z TI TO i1 i2 l1 l2)
    (hz : Zo s.heap z TI TO (rawInt T0) bb) (h0 : s.heap.get? T0 = some o0) (hTI : IsPair s.heap TI (.ref i1) (.ref i2))
    (h1 : ka.It s.heap i1 l1 n) (h2 : kb.It s.heap i2 l2 m) (q1 : ka.Sq s.heap l1 xs) (q2 : kb.Sq s.heap l2 ys) (hend : xs[n]? = none ∨ ys[m]? = none)
    (hE : ∀ h' e, (∀ c o, c ≠ z → c ≠ i1 → c ≠ i2 → s.heap.get? c = some o → h'.get? c = some o) → (∃ o, h'.get? e = some o ∧ o.cls = .type "StopIteration") → E (.ref e) { s with heap := h' }) :
    wpAny (model prog w) A (Builtin.«zip.__next__» ⟨[.ref z], []⟩) Q E s := by
  show wpAny _ _ (field (.ref z) 2 >>= _) _ _ _
  refine wpAny_bind (wpAny_field hz rfl (x := .bool false) rfl ?_)
  show wpAny _ _ (field (.ref z) 3 >>= _) _ _ _
  refine wpAny_bind (wpAny_field hz rfl (x := .ref TI) rfl (wpAny_bind (wpAny_seqItems hTI rfl ?_)))
  show wpAny _ _ (Builtin.SmallTypes.ownedTupleIsFree (.ref z) >>= _) _ _ _
  refine wpAny_bind (not_free hz h0 fun g1 z1 e1 => ?_)
  rw [if_neg Bool.false_ne_true]
  dsimp only
  refine wpAny_bind ?_
  rw [← Array.forIn_toList]
  simp only [List.forIn_cons, List.forIn_nil]
  refine wpAny_bind (wpAny_bind (wpAny_holding ?_))
  have a1 : ka.It g1 i1 l1 n := Kd.it_at h1 fun o q => e1.extBut _ _ D.i1z q
  have b1 : ka.Sq g1 l1 xs := Kd.sq_at q1 fun o q => e1.extBut _ _ D.l1z q
  show wpAny _ _ (Builtin.SmallTypes.nextOf (.ref i1) >>= _) _ _ _
  cases hx : xs[n]? with
  | none => exact wpAny_bind (nx_end hh a1 b1 hx fun g2 e e2 he => hE g2 e (fun c o c1 c2 c3 q => e2 _ _ c2 (e1.extBut _ _ c1 q)) he)
  | some x =>
    have hy : ys[m]? = none := hend.resolve_left fun q => by rw [hx] at q; cases q
    refine wpAny_bind (nx_item a1 b1 hx fun g2 a2 e2 => wpAny_pure (wpAny_pure ?_))
    dsimp only
    refine wpAny_bind (wpAny_bind (wpAny_holding ?_))
    have a3 : kb.It g2 i2 l2 m := Kd.it_at h2 fun o q => e2.extBut _ _ D.i12.symm (e1.extBut _ _ D.i2z q)
    have b3 : kb.Sq g2 l2 ys := Kd.sq_at q2 fun o q => e2.extBut _ _ D.l2i1 (e1.extBut _ _ D.l2z q)
    show wpAny _ _ (Builtin.SmallTypes.nextOf (.ref i2) >>= _) _ _ _
    exact wpAny_bind (nx_end hh a3 b3 hy fun g3 e e3 he => hE g3 e (fun c o c1 c2 c3 q => e3 _ _ c3 (e2.extBut _ _ c2 (e1.extBut _ _ c1 q))) he)
/-- its own pair is free -/
theorem is_free {z TI TO : Addr} {Q : Bool → Shared → Prop} (hz : Zo s.heap z TI TO .none false) (hQ : Q true s) : wpAny (model prog w) A (Builtin.SmallTypes.ownedTupleIsFree (.ref z)) Q E s := by
  unfold Builtin.SmallTypes.ownedTupleIsFree
  exact wpAny_bind (wpAny_field hz rfl (x := .none) rfl (wpAny_pure hQ))
/-- its next pair, its own one being free -/
theorem free_item {ka kb : Kd} {z TI TO i1 i2 l1 l2 : Addr} {n m : Nat} {xs ys : Array Value} {x y p0 p1 : Value} {Q : Value → Shared → Prop} (D : ZipApart z TI TO i1 i2 l1 l2)
    (hz : Zo s.heap z TI TO .none false) (hTI : IsPair s.heap TI (.ref i1) (.ref i2)) (hTO : IsPair s.heap TO p0 p1)
    (h1 : ka.It s.heap i1 l1 n) (h2 : kb.It s.heap i2 l2 m) (q1 : ka.Sq s.heap l1 xs) (q2 : kb.Sq s.heap l2 ys) (hx : xs[n]? = some x) (hy : ys[m]? = some y)
    (hQ : ∀ h', Zo h' z TI TO (rawInt s.heap.objs.size) false → IsPair h' TO x y → ka.It h' i1 l1 (n + 1) → kb.It h' i2 l2 (m + 1) → IsPair h' s.heap.objs.size x y → h'.objs.size = s.heap.objs.size + 1 →
      (∀ c o, c ≠ z → c ≠ TO → c ≠ i1 → c ≠ i2 → s.heap.get? c = some o → h'.get? c = some o) → Q (.ref s.heap.objs.size) { s with heap := h' }) :
    wpAny (model prog w) A (Builtin.«zip.__next__» ⟨[.ref z], []⟩) (fun fin s' => ∃ v, fin = .done (.ret v) ∧ Q v s') E s := by
  show wpAny _ _ (field (.ref z) 2 >>= _) _ _ _
  refine wpAny_bind (wpAny_field hz rfl (x := .bool false) rfl ?_)
  show wpAny _ _ (field (.ref z) 3 >>= _) _ _ _
  refine wpAny_bind (wpAny_field hz rfl (x := .ref TI) rfl (wpAny_bind (wpAny_seqItems hTI rfl ?_)))
  show wpAny _ _ (Builtin.SmallTypes.ownedTupleIsFree (.ref z) >>= _) _ _ _
  refine wpAny_bind (is_free hz ?_)
  rw [if_pos rfl]
  refine wpAny_bind (wpAny_rule (wpAny_bind (wpAny_field hz rfl (x := .ref TO) rfl (wpAny_bind (wpAny_setField_rec hz (by simp) fun g1 z1 e1 => ?_)))))
  have z1 : Zo g1 z TI TO .ellipsis false := z1
  refine wpAny_bind ?_
  simp only [List.zipIdx_cons, List.zipIdx_nil, List.forIn_cons, List.forIn_nil]
  refine wpAny_bind (wpAny_bind (wpAny_onRaise ?_))
  have a1 : ka.It g1 i1 l1 n := Kd.it_at h1 fun o q => e1.extBut _ _ D.i1z q
  have b1 : ka.Sq g1 l1 xs := Kd.sq_at q1 fun o q => e1.extBut _ _ D.l1z q
  show wpAny _ _ (Builtin.SmallTypes.nextOf (.ref i1) >>= _) _ _ _
  refine wpAny_bind (nx_item a1 b1 hx fun g2 a2 e2 => wpAny_pure ?_)
  have t2 : IsPair g2 TO p0 p1 := e2.extBut _ _ D.TOi1 (e1.extBut _ _ D.TOz hTO)
  refine wpAny_bind (wpAny_seqItems t2 rfl (wpAny_bind (wpAny_updateSeq_pair t2 fun g3 t3 e3 => wpAny_bind (wpAny_letGo (wpAny_pure ?_)))))
  have t3 : IsPair g3 TO x p1 := t3
  refine wpAny_bind (wpAny_bind (wpAny_onRaise ?_))
  have a3 : kb.It g3 i2 l2 m := Kd.it_at h2 fun o q => e3.extBut _ _ D.TOi2.symm (e2.extBut _ _ D.i12.symm (e1.extBut _ _ D.i2z q))
  have b3 : kb.Sq g3 l2 ys := Kd.sq_at q2 fun o q => e3.extBut _ _ D.l2TO (e2.extBut _ _ D.l2i1 (e1.extBut _ _ D.l2z q))
  show wpAny _ _ (Builtin.SmallTypes.nextOf (.ref i2) >>= _) _ _ _
  refine wpAny_bind (nx_item a3 b3 hy fun g4 a4 e4 => wpAny_pure ?_)
  have t4 : IsPair g4 TO x p1 := e4.extBut _ _ D.TOi2 t3
  refine wpAny_bind (wpAny_seqItems t4 rfl (wpAny_bind (wpAny_updateSeq_pair t4 fun g5 t5 e5 => wpAny_bind (wpAny_letGo (wpAny_pure (wpAny_pure ?_))))))
  have t5 : IsPair g5 TO x y := t5
  refine wpAny_bind (wpAny_seqItems t5 rfl (wpAny_bind (wpAny_newTuple ?_)))
  have sz : g5.objs.size = s.heap.objs.size := e5.1.trans (e4.1.trans (e3.1.trans (e2.1.trans e1.1)))
  have z5 : Zo g5 z TI TO .ellipsis false := e5.extBut _ _ D.TOz.symm (e4.extBut _ _ D.i2z.symm (e3.extBut _ _ D.TOz.symm (e2.extBut _ _ D.i1z.symm z1)))
  have kp : ∀ c o, c ≠ z → c ≠ TO → c ≠ i1 → c ≠ i2 → s.heap.get? c = some o → g5.get? c = some o := fun c o c1 c2 c3 c4 q =>
    e5.extBut _ _ c2 (e4.extBut _ _ c4 (e3.extBut _ _ c2 (e2.extBut _ _ c3 (e1.extBut _ _ c1 q))))
  have k1 : ka.It g5 i1 l1 (n + 1) := Kd.it_at a2 fun o q => e5.extBut _ _ D.TOi1.symm (e4.extBut _ _ D.i12 (e3.extBut _ _ D.TOi1.symm q))
  have k2 : kb.It g5 i2 l2 (m + 1) := Kd.it_at a4 fun o q => e5.extBut _ _ D.TOi2.symm q
  have zl : z < g5.objs.size := Heap.lt_size z5
  show wpAny _ _ (Builtin.SmallTypes.ownedTupleHandOut (.ref z) (.ref g5.objs.size) >>= _) _ _ _
  refine wpAny_bind ?_
  unfold Builtin.SmallTypes.ownedTupleHandOut
  have z6 : Zo (g5.push { cls := .type "tuple", data := .seq #[x, y] }) z TI TO .ellipsis false := Heap.get?_push_of_some _ z5
  refine wpAny_bind (wpAny_setField_rec z6 (by simp) fun g7 z7 e7 => wpAny_setField_rec (show Zo g7 z TI TO (rawInt g5.objs.size) false from z7) (by simp) fun g8 z8 e8 => wpAny_pure ⟨_, rfl, ?_⟩)
  have up : ∀ c o, c ≠ z → g5.get? c = some o → g8.get? c = some o := fun c o c1 q => e8.extBut _ _ c1 (e7.extBut _ _ c1 (Heap.get?_push_of_some _ q))
  have t8 : IsPair g8 g5.objs.size x y := e8.extBut _ _ (Nat.ne_of_gt zl) (e7.extBut _ _ (Nat.ne_of_gt zl) (Heap.get?_push_size _ rfl))
  have s8 : g8.objs.size = g5.objs.size + 1 := by rw [e8.1, e7.1, Heap.size_push]
  have z8 : Zo g8 z TI TO (rawInt g5.objs.size) false := z8
  show Q (.ref g5.objs.size) _
  rw [sz] at z8 t8 s8 ⊢
  exact hQ g8 z8 (up _ _ D.TOz t5) (Kd.it_at k1 fun o q => up _ o D.i1z q) (Kd.it_at k2 fun o q => up _ o D.i2z q) t8 s8 fun c o c1 c2 c3 c4 q => up c o c1 (kp c o c1 c2 c3 c4 q)
theorem free_end {ka kb : Kd} {z TI TO i1 i2 l1 l2 : Addr} {n m : Nat} {xs ys : Array Value} {p0 p1 : Value} {Q : PySem.Fin → Shared → Prop} (hh : A.handled = none) (D : ZipApart z TI TO i1 i2 l1 l2)
    (hz : Zo s.heap z TI TO .none false) (hTI : IsPair s.heap TI (.ref i1) (.ref i2)) (hTO : IsPair s.heap TO p0 p1)
    (h1 : ka.It s.heap i1 l1 n) (h2 : kb.It s.heap i2 l2 m) (q1 : ka.Sq s.heap l1 xs) (q2 : kb.Sq s.heap l2 ys) (hend : xs[n]? = none ∨ ys[m]? = none)
    (hE : ∀ h' e, (∀ c o, c ≠ z → c ≠ TO → c ≠ i1 → c ≠ i2 → s.heap.get? c = some o → h'.get? c = some o) → (∃ o, h'.get? e = some o ∧ o.cls = .type "StopIteration") → E (.ref e) { s with heap := h' }) :
    wpAny (model prog w) A (Builtin.«zip.__next__» ⟨[.ref z], []⟩) Q E s := by
  show wpAny _ _ (field (.ref z) 2 >>= _) _ _ _
  refine wpAny_bind (wpAny_field hz rfl (x := .bool false) rfl ?_)
  show wpAny _ _ (field (.ref z) 3 >>= _) _ _ _
  refine wpAny_bind (wpAny_field hz rfl (x := .ref TI) rfl (wpAny_bind (wpAny_seqItems hTI rfl ?_)))
  show wpAny _ _ (Builtin.SmallTypes.ownedTupleIsFree (.ref z) >>= _) _ _ _
  refine wpAny_bind (is_free hz ?_)
  rw [if_pos rfl]
  refine wpAny_bind (wpAny_rule (wpAny_bind (wpAny_field hz rfl (x := .ref TO) rfl (wpAny_bind (wpAny_setField_rec hz (by simp) fun g1 z1 e1 => ?_)))))
  have z1 : Zo g1 z TI TO .ellipsis false := z1
  refine wpAny_bind ?_
  simp only [List.zipIdx_cons, List.zipIdx_nil, List.forIn_cons, List.forIn_nil]
  refine wpAny_bind (wpAny_bind (wpAny_onRaise ?_))
  have a1 : ka.It g1 i1 l1 n := Kd.it_at h1 fun o q => e1.extBut _ _ D.i1z q
  have b1 : ka.Sq g1 l1 xs := Kd.sq_at q1 fun o q => e1.extBut _ _ D.l1z q
  show wpAny _ _ (Builtin.SmallTypes.nextOf (.ref i1) >>= _) _ _ _
  cases hx : xs[n]? with
  | none =>
    refine wpAny_bind (nx_end hh a1 b1 hx fun g2 e e2 ⟨oe, he, hc⟩ => ?_)
    have z2 : Zo g2 z TI TO .ellipsis false := e2 _ _ D.i1z.symm z1
    have ne : e ≠ z := fun q => by rw [q, z2] at he; cases he; simp at hc
    exact wpAny_setField_rec z2 (by simp) fun g3 _ e3 => hE g3 e (fun c o c1 _ c3 _ q => e3.extBut _ _ c1 (e2 _ _ c3 (e1.extBut _ _ c1 q))) ⟨oe, e3.extBut _ _ ne he, hc⟩
  | some x =>
    have hy : ys[m]? = none := hend.resolve_left fun q => by rw [hx] at q; cases q
    refine wpAny_bind (nx_item a1 b1 hx fun g2 a2 e2 => wpAny_pure ?_)
    have t2 : IsPair g2 TO p0 p1 := e2.extBut _ _ D.TOi1 (e1.extBut _ _ D.TOz hTO)
    refine wpAny_bind (wpAny_seqItems t2 rfl (wpAny_bind (wpAny_updateSeq_pair t2 fun g3 t3 e3 => wpAny_bind (wpAny_letGo (wpAny_pure ?_)))))
    refine wpAny_bind (wpAny_bind (wpAny_onRaise ?_))
    have a3 : kb.It g3 i2 l2 m := Kd.it_at h2 fun o q => e3.extBut _ _ D.TOi2.symm (e2.extBut _ _ D.i12.symm (e1.extBut _ _ D.i2z q))
    have b3 : kb.Sq g3 l2 ys := Kd.sq_at q2 fun o q => e3.extBut _ _ D.l2TO (e2.extBut _ _ D.l2i1 (e1.extBut _ _ D.l2z q))
    show wpAny _ _ (Builtin.SmallTypes.nextOf (.ref i2) >>= _) _ _ _
    refine wpAny_bind (nx_end hh a3 b3 hy fun g4 e e4 ⟨oe, he, hc⟩ => ?_)
    have z4 : Zo g4 z TI TO .ellipsis false := e4 _ _ D.i2z.symm (e3.extBut _ _ D.TOz.symm (e2.extBut _ _ D.i1z.symm z1))
    have ne : e ≠ z := fun q => by rw [q, z4] at he; cases he; simp at hc
    exact wpAny_setField_rec z4 (by simp) fun g5 _ e5 => hE g5 e (fun c o c1 c2 c3 c4 q => e5.extBut _ _ c1 (e4 _ _ c4 (e3.extBut _ _ c2 (e2.extBut _ _ c3 (e1.extBut _ _ c1 q))))) ⟨oe, e5.extBut _ _ ne he, hc⟩
end
end PKZ
namespace PKZ
open PySem PySem.Spec PyProof.Rows L2
/-- the pairs that were drawn, at their places -/
structure Prs (xs ys : Array Value) (lo : Addr) (h : Heap) (as : List Addr) : Prop where
  rise : as.Pairwise (· < ·)
  above : ∀ a ∈ as, lo ≤ a
  there : ∀ a ∈ as, a < h.objs.size
  at_ : ∀ (j : Nat) (a : Addr), as[j]? = some a → ∃ x y, xs[j]? = some x ∧ ys[j]? = some y ∧ IsPair h a x y
/-- a zip of two, i pairs drawn -/
structure ZSt (ka kb : Kd) (z TI TO i1 i2 l1 l2 : Addr) (xs ys : Array Value) (i : Nat) (h : Heap) : Prop where
  ti : IsPair h TI (.ref i1) (.ref i2)
  to : ∃ a b, IsPair h TO a b
  it1 : ka.It h i1 l1 i
  it2 : kb.It h i2 l2 i
  sq1 : ka.Sq h l1 xs
  sq2 : kb.Sq h l2 ys
  zo : Zo h z TI TO .none false ∨ ∃ (T0 : Addr) (o0 : Obj) (bb : Bool), Zo h z TI TO (rawInt T0) bb ∧ h.get? T0 = some o0 ∧ T0 ≠ z ∧ T0 ≠ TO ∧ T0 ≠ i1 ∧ T0 ≠ i2
section
variable {prog : Program} {w : World} {A : Around} {E : Value → Shared → Prop} {s : Shared} {ka kb : Kd} {z TI TO i1 i2 l1 l2 : Addr} {xs ys : Array Value} {i : Nat}
theorem ZSt.zip {h : Heap} (Z : ZSt ka kb z TI TO i1 i2 l1 l2 xs ys i h) : ∃ o, h.get? z = some o ∧ o.cls = .type "zip" := by
  rcases Z.zo with q | ⟨T0, o0, bb, q, _⟩
  · exact ⟨_, q, rfl⟩
  · exact ⟨_, q, rfl⟩
theorem ZSt.type {h : Heap} (Z : ZSt ka kb z TI TO i1 i2 l1 l2 xs ys i h) {s : Shared} (e : s.heap = h) : s.TypeIs (.ref z) "zip" := by
  obtain ⟨o, q, c⟩ := Z.zip
  exact ⟨o, by rw [e]; exact q, c⟩
theorem ZSt.keep {h h' : Heap} (Z : ZSt ka kb z TI TO i1 i2 l1 l2 xs ys i h) {S : Addr} (hS : S ≠ z ∧ S ≠ TI ∧ S ≠ TO ∧ S ≠ i1 ∧ S ≠ i2 ∧ S ≠ l1 ∧ S ≠ l2) (k : ∀ b o, b ≠ S → h.get? b = some o → h'.get? b = some o) (kS : ∀ o, h.get? S = some o → ∃ o', h'.get? S = some o') :
    ZSt ka kb z TI TO i1 i2 l1 l2 xs ys i h' := by
  obtain ⟨a, b, c, d, e, f, g⟩ := hS
  refine ⟨k _ _ b.symm Z.ti, ?_, Kd.it_at Z.it1 fun o q => k _ _ d.symm q, Kd.it_at Z.it2 fun o q => k _ _ e.symm q, Kd.sq_at Z.sq1 fun o q => k _ _ f.symm q, Kd.sq_at Z.sq2 fun o q => k _ _ g.symm q, ?_⟩
  · obtain ⟨u, v, q⟩ := Z.to
    exact ⟨u, v, k _ _ c.symm q⟩
  · rcases Z.zo with q | ⟨T0, o0, bb, q, q0, n1⟩
    · exact .inl (k _ _ a.symm q)
    · by_cases e0 : T0 = S
      · subst e0
        obtain ⟨o', q'⟩ := kS _ q0
        exact .inr ⟨T0, o', bb, k _ _ a.symm q, q', n1⟩
      · exact .inr ⟨T0, o0, bb, k _ _ a.symm q, k _ _ e0 q0, n1⟩
/-- a pair is drawn -/
theorem zst_item {x y : Value} {Q : Option Value → Shared → Prop} (D : ZipApart z TI TO i1 i2 l1 l2) (Z : ZSt ka kb z TI TO i1 i2 l1 l2 xs ys i s.heap) (hx : xs[i]? = some x) (hy : ys[i]? = some y)
    (hQ : ∀ h', ZSt ka kb z TI TO i1 i2 l1 l2 xs ys (i + 1) h' → IsPair h' s.heap.objs.size x y → h'.objs.size = s.heap.objs.size + 1 →
      (∀ c o, c ≠ z → c ≠ TO → c ≠ i1 → c ≠ i2 → s.heap.get? c = some o → h'.get? c = some o) → Q (some (.ref s.heap.objs.size)) { s with heap := h' }) :
    wpAny (model prog w) A (pyNext (.ref z)) Q E s := by
  have hT := Z.type (s := s) rfl
  obtain ⟨u, v, hTO⟩ := Z.to
  have zl : z < s.heap.objs.size := by obtain ⟨o, q, _⟩ := Z.zip; exact Heap.lt_size q
  have TOl : TO < s.heap.objs.size := Heap.lt_size hTO
  have i1l : i1 < s.heap.objs.size := by obtain ⟨o, q, _⟩ := Kd.it_get Z.it1; exact Heap.lt_size q
  have i2l : i2 < s.heap.objs.size := by obtain ⟨o, q, _⟩ := Kd.it_get Z.it2; exact Heap.lt_size q
  unfold pyNext
  refine wpAny_bind (wpAny_attempt (wpAny_callSpecial?_slot (name := Str.ofString "__next__") hT F.slot_zip_next (wpAny_call_entry F.slot_zip_next hT F.entry_zip_next ?_ (F.args_zip_next_1 _))))
  rcases Z.zo with q | ⟨T0, o0, bb, q, q0, n1, n2, n3, n4⟩
  · exact free_item D q Z.ti hTO Z.it1 Z.it2 Z.sq1 Z.sq2 hx hy fun h' c1 c2 c3 c4 c5 c6 c7 => wpAny_pure (hQ h' ⟨c7 _ _ D.TIz D.TITO D.TIi1 D.TIi2 Z.ti, ⟨_, _, c2⟩, c3, c4, Kd.sq_at Z.sq1 fun o p => c7 _ _ D.l1z D.l1TO D.l1i1 D.l1i2 p, Kd.sq_at Z.sq2 fun o p => c7 _ _ D.l2z D.l2TO D.l2i1 D.l2i2 p,
      .inr ⟨_, _, _, c1, c5, Nat.ne_of_gt zl, Nat.ne_of_gt TOl, Nat.ne_of_gt i1l, Nat.ne_of_gt i2l⟩⟩ c5 c6 c7)
  · exact held_item D q q0 Z.ti Z.it1 Z.it2 Z.sq1 Z.sq2 hx hy fun h' c1 c3 c4 c5 c6 c7 => wpAny_pure (hQ h' ⟨c7 _ _ D.TIz D.TIi1 D.TIi2 Z.ti, ⟨_, _, c7 _ _ D.TOz D.TOi1 D.TOi2 hTO⟩, c3, c4, Kd.sq_at Z.sq1 fun o p => c7 _ _ D.l1z D.l1i1 D.l1i2 p, Kd.sq_at Z.sq2 fun o p => c7 _ _ D.l2z D.l2i1 D.l2i2 p,
      .inr ⟨T0, o0, true, c1, c7 _ _ n1 n3 n4 q0, n1, n2, n3, n4⟩⟩ c5 c6 fun c o d1 _ d3 d4 p => c7 c o d1 d3 d4 p)
/-- one of the two is at its end -/
theorem zst_done {Q : Option Value → Shared → Prop} (hh : A.handled = none) (D : ZipApart z TI TO i1 i2 l1 l2) (Z : ZSt ka kb z TI TO i1 i2 l1 l2 xs ys i s.heap) (hend : xs[i]? = none ∨ ys[i]? = none)
    (hQ : ∀ h', (∀ c o, c ≠ z → c ≠ TO → c ≠ i1 → c ≠ i2 → s.heap.get? c = some o → h'.get? c = some o) → Q none { s with heap := h' }) : wpAny (model prog w) A (pyNext (.ref z)) Q E s := by
  have hT := Z.type (s := s) rfl
  obtain ⟨u, v, hTO⟩ := Z.to
  have stop : ∀ h' e, (∀ c o, c ≠ z → c ≠ TO → c ≠ i1 → c ≠ i2 → s.heap.get? c = some o → h'.get? c = some o) → (∃ o, h'.get? e = some o ∧ o.cls = .type "StopIteration") →
      wpAny (model prog w) A (do if (← isInstance (.ref e) (.type "StopIteration")) = true then pure none else throw (.ref e)) Q E { s with heap := h' } := fun h' e k ⟨o, ho, hc⟩ =>
    wpAny_bind (wpAny_isInstance (T := "StopIteration") (b := true) ⟨o, ho, hc⟩ isSubtype_stop (wpAny_pure (hQ _ k)))
  unfold pyNext
  refine wpAny_bind (wpAny_attempt (wpAny_callSpecial?_slot (name := Str.ofString "__next__") hT F.slot_zip_next (wpAny_call_entry F.slot_zip_next hT F.entry_zip_next ?_ (F.args_zip_next_1 _))))
  rcases Z.zo with q | ⟨T0, o0, bb, q, q0, n1, n2, n3, n4⟩
  · exact free_end hh D q Z.ti hTO Z.it1 Z.it2 Z.sq1 Z.sq2 hend stop
  · exact held_end hh D q q0 Z.ti Z.it1 Z.it2 Z.sq1 Z.sq2 hend fun h' e k => stop h' e fun c o d1 _ d3 d4 p => k c o d1 d3 d4 p
theorem zl_loop {S lo : Addr} (hh : A.handled = none) (D : ZipApart z TI TO i1 i2 l1 l2) (hS : S ≠ z ∧ S ≠ TI ∧ S ≠ TO ∧ S ≠ i1 ∧ S ≠ i2 ∧ S ≠ l1 ∧ S ≠ l2) (lowz : z < lo) (lowTO : TO < lo) (low1 : i1 < lo) (low2 : i2 < lo) (lowS : S < lo)
    (hn : min xs.size ys.size ≤ sizeLine) (res : Value) {h₁ : Heap} {R : Result → Shared → Prop}
    (hR : ∀ (h' : Heap) (acc : Array Value) (c : Nat) (as : List Addr), (∀ b o, b ≠ S → b ≠ z → b ≠ TO → b ≠ i1 → b ≠ i2 → h₁.get? b = some o → h'.get? b = some o) → h'.get? S = some { cls := .type "list", dict := none, data := .seq acc c, slots := #[] } → as.length = min xs.size ys.size → Prs xs ys lo h' as →
      acc.toList = as.map Value.ref → R (.ok (.ret res)) { s with heap := h' }) :
    ∀ (k i : Nat) (h : Heap) (c : Nat) (acc : Array Value) (as : List Addr), min xs.size ys.size - i = k → i ≤ min xs.size ys.size → ZSt ka kb z TI TO i1 i2 l1 l2 xs ys i h → (∀ b o, b ≠ S → b ≠ z → b ≠ TO → b ≠ i1 → b ≠ i2 → h₁.get? b = some o → h.get? b = some o) →
      h.get? S = some { cls := .type "list", dict := none, data := .seq acc c, slots := #[] } → acc.toList = as.map Value.ref → as.length = i → Prs xs ys lo h as → lo ≤ h.objs.size →
      codeAny (model prog w) A (.builtin "list.extend.loop" ⟨[.ref S, .ref z, res], []⟩) R { s with heap := h } := by
  intro k
  induction k with
  | zero =>
    intro i h c acc as hk hi Z kp hSo ha hl G hlo
    have hin : i = min xs.size ys.size := by omega
    refine codeAny_builtin F.entry_extend_loop ?_
    (rw [Around.under_plainId F.plain_extend_loop])
    show wpAny _ A.in1 (pyNext (.ref z) >>= _) _ _ _
    have hend : xs[i]? = none ∨ ys[i]? = none := by
      rcases Nat.le_total xs.size ys.size with q | q
      · exact .inl (Array.getElem?_eq_none (by omega))
      · exact .inr (Array.getElem?_eq_none (by omega))
    refine wpAny_bind (zst_done (s := { s with heap := h }) (A := A.in1) hh D Z hend fun h' e => wpAny_pure (hR h' acc c as (fun b o b1 b2 b3 b4 b5 q => e b o b2 b3 b4 b5 (kp b o b1 b2 b3 b4 b5 q)) (e S _ hS.1 hS.2.2.1 hS.2.2.2.1 hS.2.2.2.2.1 hSo) (by omega) ⟨G.rise, G.above, fun a q => ?_, fun j a q => ?_⟩ ha))
    · obtain ⟨j, hj, rfl⟩ := List.getElem_of_mem q
      obtain ⟨x, y, _, _, p⟩ := G.at_ j _ (List.getElem?_eq_getElem hj)
      have lo_a := G.above _ (List.getElem_mem hj)
      exact Heap.lt_size (e _ _ (Nat.ne_of_gt (Nat.lt_of_lt_of_le lowz lo_a)) (Nat.ne_of_gt (Nat.lt_of_lt_of_le lowTO lo_a)) (Nat.ne_of_gt (Nat.lt_of_lt_of_le low1 lo_a)) (Nat.ne_of_gt (Nat.lt_of_lt_of_le low2 lo_a)) p)
    · obtain ⟨x, y, e1, e2, p⟩ := G.at_ j a q
      have lo_a := G.above _ (List.mem_of_getElem? q)
      exact ⟨x, y, e1, e2, e _ _ (Nat.ne_of_gt (Nat.lt_of_lt_of_le lowz lo_a)) (Nat.ne_of_gt (Nat.lt_of_lt_of_le lowTO lo_a)) (Nat.ne_of_gt (Nat.lt_of_lt_of_le low1 lo_a)) (Nat.ne_of_gt (Nat.lt_of_lt_of_le low2 lo_a)) p⟩
  | succ k ih =>
    intro i h c acc as hk hi Z kp hSo ha hl G hlo
    have ix : i < xs.size := by omega
    have iy : i < ys.size := by omega
    have hsz : acc.size = i := by rw [← Array.length_toList, ha, List.length_map, hl]
    refine codeAny_builtin F.entry_extend_loop ?_
    (rw [Around.under_plainId F.plain_extend_loop])
    show wpAny _ A.in1 (pyNext (.ref z) >>= _) _ _ _
    refine wpAny_bind (zst_item (s := { s with heap := h }) (A := A.in1) D Z (Array.getElem?_eq_getElem ix) (Array.getElem?_eq_getElem iy) fun h' Z' p sz e => ?_)
    dsimp only at p sz e ⊢
    have hS' := e S _ hS.1 hS.2.2.1 hS.2.2.2.1 hS.2.2.2.2.1 hSo
    have up : ∀ b o, b ≠ S → h'.get? b = some o → (h'.update S (Obj.mapSeq (·.push (Value.ref h.objs.size)))).get? b = some o := fun b o hb q => (Heap.get?_update_other _ _ (Ne.symm hb)).trans q
    have upS : ∀ o, h'.get? S = some o → ∃ o', (h'.update S (Obj.mapSeq (·.push (Value.ref h.objs.size)))).get? S = some o' := fun o q => ⟨_, Heap.get?_update_self _ hS' rfl⟩
    have Sl : S < h.objs.size := Heap.lt_size hSo
    have far : ∀ a, lo ≤ a → a ≠ z ∧ a ≠ TO ∧ a ≠ i1 ∧ a ≠ i2 ∧ a ≠ S := fun a q => ⟨Nat.ne_of_gt (Nat.lt_of_lt_of_le lowz q), Nat.ne_of_gt (Nat.lt_of_lt_of_le lowTO q), Nat.ne_of_gt (Nat.lt_of_lt_of_le low1 q), Nat.ne_of_gt (Nat.lt_of_lt_of_le low2 q), Nat.ne_of_gt (Nat.lt_of_lt_of_le lowS q)⟩
    have us : (h'.update S (Obj.mapSeq (·.push (Value.ref h.objs.size)))).objs.size = h'.objs.size := Heap.size_update ..
    show wpAny _ A.in1 (updateSeq S (·.push (Value.ref h.objs.size)) >>= _) _ _ _
    refine wpAny_bind (wpAny_updateSeq hS' rfl (wpAny_pure ⟨plainId_quiet F.plain_extend_loop _, ih (i + 1) _ _ (acc.push (Value.ref h.objs.size)) (as ++ [h.objs.size]) (by omega) (by omega) (Z'.keep hS up upS) (fun b o b1 b2 b3 b4 b5 q => up b o b1 (e b o b2 b3 b4 b5 (kp b o b1 b2 b3 b4 b5 q)))
      (Heap.get?_update_self _ hS' rfl) (by rw [Array.toList_push, ha, List.map_append]; rfl) (by rw [List.length_append, hl]; rfl) ⟨?_, ?_, ?_, ?_⟩ ?_⟩) ?_)
    · refine List.pairwise_append.mpr ⟨G.rise, List.pairwise_singleton _ _, fun a q b q2 => ?_⟩
      rw [List.mem_singleton.mp q2]
      exact G.there a q
    · intro a q
      rcases List.mem_append.mp q with q | q
      · exact G.above a q
      · rw [List.mem_singleton.mp q]; exact hlo
    · intro a q
      rw [us, sz]
      rcases List.mem_append.mp q with q | q
      · exact Nat.lt_succ_of_lt (G.there a q)
      · rw [List.mem_singleton.mp q]; exact Nat.lt_succ_self _
    · intro j b q
      by_cases hj : j < as.length
      · rw [List.getElem?_append_left hj] at q
        obtain ⟨x, y, e1, e2, e3⟩ := G.at_ j b q
        obtain ⟨f1, f2, f3, f4, f5⟩ := far b (G.above b (List.mem_of_getElem? q))
        exact ⟨x, y, e1, e2, up b _ f5 (e b _ f1 f2 f3 f4 e3)⟩
      · have hj2 : j = as.length := by
          have := (List.getElem?_eq_some_iff.mp q).1
          rw [List.length_append] at this
          have : j < as.length + 1 := this
          omega
        subst hj2
        have : h.objs.size = b := by simpa using q
        subst this
        exact ⟨xs[i], ys[i], by rw [hl]; exact Array.getElem?_eq_getElem ix, by rw [hl]; exact Array.getElem?_eq_getElem iy, up _ _ (Nat.ne_of_gt Sl) p⟩
    · rw [us, sz]; exact Nat.le_succ_of_le hlo
    · rw [hsz]; omega
theorem zip_nolen : typeLookup (.type "zip") "__len__" = pure none := by
  rw [typeLookup_type, builtinLookup_eq_fast]; kernel_rfl
theorem zip_nohint : typeLookup (.type "zip") "__length_hint__" = pure none := by
  rw [typeLookup_type, builtinLookup_eq_fast]; kernel_rfl
/-- list(zip(..)), S the new list -/
theorem zl_call {Q : Value → Shared → Prop} (hh : A.handled = none) (D : ZipApart z TI TO i1 i2 l1 l2) (Z : ZSt ka kb z TI TO i1 i2 l1 l2 xs ys 0 s.heap) (lTI : TI < s.heap.objs.size) (l1l : l1 < s.heap.objs.size) (l2l : l2 < s.heap.objs.size)
    (hn : min xs.size ys.size ≤ sizeLine)
    (hQ : ∀ (h' : Heap) (acc : Array Value) (c : Nat) (as : List Addr), (∀ b o, b ≠ z → b ≠ TO → b ≠ i1 → b ≠ i2 → s.heap.get? b = some o → h'.get? b = some o) → h'.get? s.heap.objs.size = some { cls := .type "list", dict := none, data := .seq acc c, slots := #[] } →
      as.length = min xs.size ys.size → Prs xs ys (s.heap.objs.size + 1) h' as → acc.toList = as.map Value.ref → Q (.ref s.heap.objs.size) { s with heap := h' }) :
    wpAny (model prog w) A (call (.type "list") [.ref z]) Q E s := by
  have zl : z < s.heap.objs.size := by obtain ⟨o, q, _⟩ := Z.zip; exact Heap.lt_size q
  have TOl : TO < s.heap.objs.size := by obtain ⟨_, _, q⟩ := Z.to; exact Heap.lt_size q
  have i1l : i1 < s.heap.objs.size := by obtain ⟨o, q, _⟩ := Kd.it_get Z.it1; exact Heap.lt_size q
  have i2l : i2 < s.heap.objs.size := by obtain ⟨o, q, _⟩ := Kd.it_get Z.it2; exact Heap.lt_size q
  refine callType_codes (Q₁ := fun obj s₁ => obj = .ref s.heap.objs.size ∧ s₁ = { s with heap := s.heap.push { cls := .type "list", data := .seq #[] } }) F.called_list (F.typeCall_list_1 _) F.entry_list_init (code_list_new _ ⟨rfl, rfl⟩) fun obj s₁ h₁ => ?_
  obtain ⟨rfl, rfl⟩ := h₁
  have hS0 : (s.heap.push { cls := .type "list", data := .seq #[] }).get? s.heap.objs.size = some { cls := .type "list", data := .seq #[] } := Heap.get?_push_size _ rfl
  have hS : s.heap.objs.size ≠ z ∧ s.heap.objs.size ≠ TI ∧ s.heap.objs.size ≠ TO ∧ s.heap.objs.size ≠ i1 ∧ s.heap.objs.size ≠ i2 ∧ s.heap.objs.size ≠ l1 ∧ s.heap.objs.size ≠ l2 :=
    ⟨Nat.ne_of_gt zl, Nat.ne_of_gt lTI, Nat.ne_of_gt TOl, Nat.ne_of_gt i1l, Nat.ne_of_gt i2l, Nat.ne_of_gt l1l, Nat.ne_of_gt l2l⟩
  refine ⟨⟨_, hS0, rfl⟩, F.args_list_init_2 _ _, ?_⟩
  generalize hs : s.heap.objs.size = S at hS0 hS hQ ⊢
  show wpAny _ _ (do let old ← Builtin.List.listItems (.ref S); Builtin.List.listUpdate (.ref S) (fun _ => #[]); letGo old.toList.reverse; Builtin.List.listExtendWith (.ref S) (.ref z) .none) _ _ _
  unfold Builtin.List.listItems
  refine wpAny_bind (wpAny_bind (wpAny_seqItems hS0 rfl (wpAny_pure ?_)))
  show wpAny _ _ (updateSeq S (fun _ => #[]) >>= fun _ => letGo (#[] : Array Value).toList.reverse >>= fun _ => Builtin.List.listExtendWith (.ref S) (.ref z) .none) _ _ _
  refine wpAny_bind (wpAny_updateSeq hS0 rfl (wpAny_bind (wpAny_letGo ?_)))
  have hS1 := Heap.get?_update_self (Obj.mapSeq (fun _ => (#[] : Array Value))) hS0 rfl
  have up1 : ∀ b o, b ≠ S → (s.heap.push { cls := .type "list", data := .seq #[] }).get? b = some o → ((s.heap.push { cls := .type "list", data := .seq #[] }).update S (Obj.mapSeq (fun _ => (#[] : Array Value)))).get? b = some o := fun b o hb q => (Heap.get?_update_other _ _ (Ne.symm hb)).trans q
  have Z1 : ZSt ka kb z TI TO i1 i2 l1 l2 xs ys 0 (s.heap.push { cls := .type "list", data := .seq #[] }) := Z.keep hS (fun b o _ q => Heap.get?_push_of_some _ q) fun o q => ⟨_, hS0⟩
  have Z2 := Z1.keep hS up1 fun o q => ⟨_, hS1⟩
  have base : ∀ b o, b ≠ S → b ≠ z → b ≠ TO → b ≠ i1 → b ≠ i2 → s.heap.get? b = some o → ((s.heap.push { cls := .type "list", data := .seq #[] }).update S (Obj.mapSeq (fun _ => (#[] : Array Value)))).get? b = some o := fun b o b1 _ _ _ _ q => up1 b o b1 (Heap.get?_push_of_some _ q)
  have sz1 : ((s.heap.push { cls := .type "list", data := .seq #[] }).update S (Obj.mapSeq (fun _ => (#[] : Array Value)))).objs.size = S + 1 := by rw [Heap.size_update, Heap.size_push, hs]
  generalize (s.heap.push { cls := .type "list", data := .seq #[] }).update S (Obj.mapSeq (fun _ => (#[] : Array Value))) = g at Z2 hS1 base sz1 ⊢
  unfold Builtin.List.listExtendWith
  refine wpAny_bind (wpAny_typeOf (T := "zip") (Z2.type rfl) ?_)
  have n1 : Builtin.List.listSameRef (.ref S) (.ref z) = false := by simp [Builtin.List.listSameRef, hS.1]
  have n2 : (Value.type "zip" == Value.type "list") = false := by decide
  have n3 : (Value.type "zip" == Value.type "tuple") = false := by decide
  simp only [n1, n2, n3, Bool.or_false, Bool.false_eq_true, if_false]
  have itr : ∀ {M : Around} {E' : Value → Shared → Prop} {Q' : Value → Shared → Prop} {s' : Shared}, s'.heap = g → Q' (.ref z) s' → wpAny (model prog w) M (pyIter (.ref z)) Q' E' s' := fun {M E' Q' s'} e q => by
    refine wpAny_pyIter_slot (Z2.type e) F.slot_zip_iter (wpAny_call_entry F.slot_zip_iter (Z2.type e) F.entry_zip_iter ?_ (F.args_zip_iter_1 _))
    show wpAny _ _ (ret (.ref z)) _ _ s'
    exact wpAny_pure ⟨_, rfl, "zip", _, Z2.type e, F.slot_zip_next.lookup, q⟩
  refine wpAny_bind (itr rfl (wpAny_bind (wpAny_holding ?_)))
  unfold Builtin.List.listLengthHint
  refine wpAny_bind (wpAny_specialOf (Z2.type rfl) zip_nolen ?_)
  show wpAny _ _ (specialOf (Value.ref z) (Str.ofString "__length_hint__") >>= _) _ _ _
  refine wpAny_bind (wpAny_specialOf (Z2.type rfl) zip_nohint (wpAny_pure ?_))
  rw [Bool.true_or, if_pos rfl]
  refine wpAny_bind (wpAny_rule (wpAny_bind ?_))
  show wpAny _ _ (updateSeq S (·.push .none) >>= fun _ => updateSeq S (·.pop)) _ _ _
  have hS2 := Heap.get?_update_self (Obj.mapSeq (·.push Value.none)) hS1 rfl
  refine wpAny_bind (wpAny_updateSeq hS1 rfl (wpAny_updateSeq (hz := by seq_fits) hS2 rfl ?_))
  have hS3 := Heap.get?_update_self (Obj.mapSeq (·.pop)) hS2 rfl
  have up3 : ∀ b o, b ≠ S → g.get? b = some o → ((g.update S (Obj.mapSeq (·.push Value.none))).update S (Obj.mapSeq (·.pop))).get? b = some o := fun b o hb q => (Heap.get?_update_other _ _ (Ne.symm hb)).trans ((Heap.get?_update_other _ _ (Ne.symm hb)).trans q)
  have sz3 : ((g.update S (Obj.mapSeq (·.push Value.none))).update S (Obj.mapSeq (·.pop))).objs.size = S + 1 := by rw [Heap.size_update, Heap.size_update, sz1]
  refine wpAny_pure ⟨plainId_quiet F.plain_extend_loop _, ?_⟩
  refine zl_loop (A := A.in1) (s := s) (h₁ := s.heap) (lo := S + 1) hh D hS (Nat.lt_succ_of_lt (hs ▸ zl)) (Nat.lt_succ_of_lt (hs ▸ TOl)) (Nat.lt_succ_of_lt (hs ▸ i1l)) (Nat.lt_succ_of_lt (hs ▸ i2l)) (Nat.lt_succ_self _) hn .none (fun h' acc c as k1 k2 k3 k4 k5 => ⟨rfl, hQ h' acc c as (fun b o b2 b3 b4 b5 q => ?_) k2 k3 k4 k5⟩)
    _ 0 _ _ #[] [] rfl (Nat.zero_le _) (Z2.keep hS up3 fun o q => ⟨_, hS3⟩) (fun b o b1 b2 b3 b4 b5 q => up3 b o b1 (base b o b1 b2 b3 b4 b5 q)) hS3 rfl rfl ⟨List.Pairwise.nil, (fun _ q => nomatch q), (fun _ q => nomatch q), fun j a q => by simp at q⟩ (by rw [sz3]; exact Nat.le_refl _)
  have := Heap.lt_size q
  exact k1 b o (Nat.ne_of_lt (hs ▸ this)) b2 b3 b4 b5 q
end
end PKZ
namespace PKZ
open PySem PySem.Spec PyProof.Rows L2
def Kd.nm : Kd → String
  | .l => "list_iterator"
  | .t => "tuple_iterator"
abbrev itO (kd : Kd) (a : Addr) : Obj := { cls := .type kd.nm, data := .fields #[.ref a, .int 0 0] }
abbrev zg1 (ka : Kd) (h : Heap) (a : Addr) : Heap := h.push (itO ka a)
abbrev zg2 (ka kb : Kd) (h : Heap) (a b : Addr) : Heap := (zg1 ka h a).push (itO kb b)
abbrev zg3 (ka kb : Kd) (h : Heap) (a b : Addr) : Heap := (zg2 ka kb h a b).push { cls := .type "tuple", data := .seq #[.ref h.objs.size, .ref (zg1 ka h a).objs.size] }
abbrev zg4 (ka kb : Kd) (h : Heap) (a b : Addr) : Heap := (zg3 ka kb h a b).push { cls := .type "tuple", data := .seq #[.none, .none] }
abbrev zg5 (ka kb : Kd) (h : Heap) (a b : Addr) : Heap := (zg4 ka kb h a b).push { cls := .type "zip", data := .fields #[.none, .bool false, .bool false, .ref (zg2 ka kb h a b).objs.size, .ref (zg3 ka kb h a b).objs.size] }
theorem Kd.sq_push {kd : Kd} {h : Heap} {a : Addr} {xs : Array Value} {o : Obj} (q : kd.Sq h a xs) : kd.Sq (h.push o) a xs := Kd.sq_at q fun _ e => Heap.get?_push_of_some _ e
theorem Kd.sq_lt {kd : Kd} {h : Heap} {a : Addr} {xs : Array Value} (q : kd.Sq h a xs) : a < h.objs.size := by
  cases kd with
  | l => obtain ⟨o, e, _⟩ := q; exact Heap.lt_size e
  | t => obtain ⟨o, e, _⟩ := q; exact Heap.lt_size e
theorem pyIter_kd {prog : Program} {w : World} {A : Around} {E : Value → Shared → Prop} {s : Shared} {kd : Kd} {a : Addr} {xs : Array Value} {Q : Value → Shared → Prop} (q : kd.Sq s.heap a xs)
    (h : Q (.ref s.heap.objs.size) { s with heap := s.heap.push (itO kd a) }) : wpAny (model prog w) A (pyIter (.ref a)) Q E s := by
  cases kd with
  | l => exact wpAny_pyIter_list q h
  | t => exact wpAny_pyIter_tuple q h
theorem meets_zg (ka kb : Kd) (a b : Addr) (xs ys : Array Value) :
    Meets (Builtin.«zip.__new__» ⟨[.type "zip", .ref a, .ref b], []⟩) (fun _ R s => ka.Sq s.heap a xs ∧ kb.Sq s.heap b ys ∧ R (.ok (.ret (.ref (zg4 ka kb s.heap a b).objs.size))) { s with heap := zg5 ka kb s.heap a b }) :=
  .of_wp fun prog w A R s h => by
    obtain ⟨hp, g, d, tk, os⟩ := s
    obtain ⟨h1, h2, h⟩ := h
    have hsub := sub_zip
    have p1 : ka.Sq (Shared.heap ⟨hp, g, d, tk, os⟩) a xs := h1
    have p2 : kb.Sq (Shared.heap ⟨hp.push (itO ka a), g, d, tk, os⟩) b ys := Kd.sq_push h2
    wp_walk using pyIter_kd p1, pyIter_kd p2
    exact ⟨_, rfl, h⟩
section
variable {prog : Program} {w : World} {A : Around} {E : Value → Shared → Prop} {s : Shared}
/-- zip(a, b) -/
theorem call_zg {ka kb : Kd} {a b : Addr} {xs ys : Array Value} {Q : Value → Shared → Prop} (h1 : ka.Sq s.heap a xs) (h2 : kb.Sq s.heap b ys)
    (hQ : ∀ h', ZSt ka kb (s.heap.objs.size + 4) (s.heap.objs.size + 2) (s.heap.objs.size + 3) s.heap.objs.size (s.heap.objs.size + 1) a b xs ys 0 h' → Zo h' (s.heap.objs.size + 4) (s.heap.objs.size + 2) (s.heap.objs.size + 3) .none false → h'.objs.size = s.heap.objs.size + 5 →
      (∀ c o, s.heap.get? c = some o → h'.get? c = some o) → Q (.ref (s.heap.objs.size + 4)) { s with heap := h' }) :
    wpAny (model prog w) A (call (.type "zip") [.ref a, .ref b]) Q E s := by
  refine callType_new F.called_zip (by decide) (F.typeCall_zip_2 _ _) (F.newCall_zip_2 _ _) (fun obj => F.args_object_init_3 obj _ _) F.entry_zip_new (meets_zg ka kb a b xs ys) ⟨h1, h2, ?_⟩
  have z1 : (zg1 ka s.heap a).objs.size = s.heap.objs.size + 1 := Heap.size_push ..
  have z2 : (zg2 ka kb s.heap a b).objs.size = s.heap.objs.size + 2 := by rw [Heap.size_push, z1]
  have z3 : (zg3 ka kb s.heap a b).objs.size = s.heap.objs.size + 3 := by rw [Heap.size_push, z2]
  have z4 : (zg4 ka kb s.heap a b).objs.size = s.heap.objs.size + 4 := by rw [Heap.size_push, z3]
  have z5 : (zg5 ka kb s.heap a b).objs.size = s.heap.objs.size + 5 := by rw [Heap.size_push, z4]
  have kp : ∀ c o, s.heap.get? c = some o → (zg5 ka kb s.heap a b).get? c = some o := fun c o e =>
    Heap.get?_push_of_some _ (Heap.get?_push_of_some _ (Heap.get?_push_of_some _ (Heap.get?_push_of_some _ (Heap.get?_push_of_some _ e))))
  have o5 : (zg5 ka kb s.heap a b).get? (zg4 ka kb s.heap a b).objs.size = some _ := Heap.get?_push_size _ rfl
  have o4 : (zg5 ka kb s.heap a b).get? (zg3 ka kb s.heap a b).objs.size = some _ := Heap.get?_push_of_some _ (Heap.get?_push_size _ rfl)
  have o3 : (zg5 ka kb s.heap a b).get? (zg2 ka kb s.heap a b).objs.size = some _ := Heap.get?_push_of_some _ (Heap.get?_push_of_some _ (Heap.get?_push_size _ rfl))
  have o2 : (zg5 ka kb s.heap a b).get? (zg1 ka s.heap a).objs.size = some (itO kb b) := Heap.get?_push_of_some _ (Heap.get?_push_of_some _ (Heap.get?_push_of_some _ (Heap.get?_push_size _ rfl)))
  have o1 : (zg5 ka kb s.heap a b).get? s.heap.objs.size = some (itO ka a) := Heap.get?_push_of_some _ (Heap.get?_push_of_some _ (Heap.get?_push_of_some _ (Heap.get?_push_of_some _ (Heap.get?_push_size _ rfl))))
  have it : ∀ (kd : Kd) (i c : Addr), (zg5 ka kb s.heap a b).get? i = some (itO kd c) → kd.It (zg5 ka kb s.heap a b) i c 0 := fun kd i c e => by
    cases kd with
    | l => exact ⟨_, e, rfl, rfl⟩
    | t => exact ⟨_, e, rfl, rfl⟩
  rw [z2, z3, z4] at o5
  rw [z1, z2] at o3
  rw [z3] at o4
  rw [z1] at o2
  show _ ∧ _
  rw [z4]
  exact ⟨⟨_, o5, rfl⟩, hQ _ ⟨o3, ⟨_, _, o4⟩, it _ _ _ o1, it _ _ _ o2, Kd.sq_at h1 fun o e => kp _ _ e, Kd.sq_at h2 fun o e => kp _ _ e, .inl o5⟩ o5 z5 kp⟩
end
/-- the heap has grown, some of the new objects are tracked -/
theorem inv_grow {X : Cx} {pins : List (Addr × Obj)} {σ : L2.St} {H H' : Hp} {s : Shared} {h' : Heap} {tk : Nat} (I : Inv X pins σ H s) (hk : ∀ b o, s.heap.get? b = some o → h'.get? b = some o) (kp : ∀ b u, H b = some u → H' b = some u)
    (nn : ∀ b o, s.heap.get? b = some o → H b = none → H' b = none) (hok : ∀ b u, H' b = some u → H b = some u ∨ ObjOk X.prog X.w H' h' b u) : Inv X pins σ H' { s with heap := h', toks := tk } := by
  refine I.call' (ch := []) rfl ⟨fun b o q _ _ _ => hk b o q, fun b o q _ _ _ => ⟨o.slots, hk b o q⟩, fun b o q n _ => nn b o q n, fun b o q _ => ⟨o, hk b o q⟩, fun b xs q => kp b _ q, fun b o u q => kp b _ q, fun b ps q => ⟨#[], by rw [kp b _ q]; simp⟩⟩ (fun b u q => ?_) I.bare fun b z => nomatch z
  rcases hok b u q with e | e
  · exact (I.hok b u e).stay (fun d v _ y => hk d v y) (fun d y => kp d _ y) fun d xs y => kp d _ y
  · exact e
/-- pairs tracked at their places -/
def putP : Hp → List Addr → List V → List V → Hp
  | H, a :: as, x :: xs, y :: ys => putP (upd H a (.tup [x, y])) as xs ys
  | H, _, _, _ => H
theorem putP_off {b : Addr} : ∀ (as : List Addr) (xs ys : List V) (H : Hp), b ∉ as → putP H as xs ys b = H b
  | [], _, _, _, _ => rfl
  | _ :: _, [], _, _, _ => rfl
  | _ :: _, _ :: _, [], _, _ => rfl
  | a :: as, x :: xs, y :: ys, H, h => by
    show putP (upd H a (.tup [x, y])) as xs ys b = H b
    rw [putP_off as xs ys _ (fun z => h (List.mem_cons_of_mem _ z)), upd_ne (fun z => h (by rw [z]; exact List.mem_cons_self))]
theorem putP_at : ∀ (as : List Addr) (xs ys : List V) (H : Hp), as.length ≤ xs.length → as.length ≤ ys.length → as.Nodup → ∀ (j : Nat) (a : Addr), as[j]? = some a → ∃ x y, xs[j]? = some x ∧ ys[j]? = some y ∧ putP H as xs ys a = some (.tup [x, y])
  | [], _, _, _, _, _, _, _, _, e => by simp at e
  | _ :: _, [], _, _, h, _, _, _, _, _ => by simp at h
  | _ :: _, _ :: _, [], _, _, h, _, _, _, _ => by simp at h
  | a :: as, x :: xs, y :: ys, H, h1, h2, hn, 0, b, e => by
    have e : a = b := by simpa using e
    subst e
    refine ⟨x, y, rfl, rfl, ?_⟩
    show putP (upd H a (.tup [x, y])) as xs ys a = _
    rw [putP_off as xs ys _ (List.nodup_cons.mp hn).1, upd_same]
  | a :: as, x :: xs, y :: ys, H, h1, h2, hn, j + 1, b, e => by
    obtain ⟨u, v, e1, e2, e3⟩ := putP_at as xs ys (upd H a (.tup [x, y])) (Nat.le_of_succ_le_succ h1) (Nat.le_of_succ_le_succ h2) (List.nodup_cons.mp hn).2 j b (by simpa using e)
    exact ⟨u, v, by simpa using e1, by simpa using e2, e3⟩
theorem refs_vals : ∀ as : List Addr, Vals (as.map V.ref) (as.map Value.ref)
  | [] => .nil
  | _ :: as => .cons rfl (refs_vals as)
def Sq2 (K : PySem.W.Frag) (H : Hp) (a : Addr) (xs : List V) : Prop := SqL K H a xs ∨ SqT K H a xs
theorem sq_of {X : Cx} {pins : List (Addr × Obj)} {σ : L2.St} {H : Hp} {s : Shared} {a : Addr} {xs : List V} (I : Inv X pins σ H s) (q : Sq2 X.K H a xs) : ∃ (kd : Kd) (its : List Value), Vals xs its ∧ kd.Sq s.heap a its.toArray := by
  rcases q with q | q
  · obtain ⟨its, rv, p, _⟩ := I.list q
    exact ⟨.l, its, rv, p.isList⟩
  · obtain ⟨its, rv, p, _⟩ := I.tuple q
    exact ⟨.t, its, rv, p⟩
def rListZip (K : PySem.W.Frag) : List V → Hp → VK → Prop := fun vs H Q => ∃ (a b : Addr) (xs ys : List V), vs = [.ref a, .ref b] ∧ Sq2 K H a xs ∧ Sq2 K H b ys ∧ min xs.length ys.length ≤ sizeLine ∧
  ∀ (H' : Hp) (p : Addr) (ts : List Addr), (∀ b o, H b = some o → H' b = some o) → H p = none → (∀ t ∈ ts, H t = none) → ts.length = min xs.length ys.length → H' p = some (.lst (ts.map V.ref)) →
    (∀ (j : Nat) (t : Addr), ts[j]? = some t → ∃ x y, xs[j]? = some x ∧ ys[j]? = some y ∧ H' t = some (.tup [x, y])) → Q (.ref p) H'
def tListZip (K : PySem.W.Frag) (ta : TA) : TE := fun σ H Q => ta σ H fun vs H1 => rListZip K vs H1 Q
/-- list(zip(e, e2)) -/
theorem pe_listZip {X : Cx} {e e2 : Expr} {ta : TA} {p p2 pos pos2 : Pos} (hc : X.calm = true) (hg : Gl X "list") (hm : X.mg "list" = none) (hv : bootBuiltins "list" = some (.type "list")) (hg2 : Gl X "zip") (hm2 : X.mg "zip" = none) (ha : PA X [e, e2] ta)
    (hs : starEach [.Call (.Name "zip" p2) [e, e2] [] pos2] X.env = (false, eval (.Call (.Name "zip" p2) [e, e2] [] pos2) X.env) :: starEach [] X.env := by rfl)
    (hs2 : starEach [e, e2] X.env = (false, eval e X.env) :: starEach [e2] X.env := by rfl) (hpl : (backTo pos2 (starEach [e2] X.env)).any (·.1) = false := by rfl) :
    PE X (.Call (.Name "list" p) [.Call (.Name "zip" p2) [e, e2] [] pos2] [] pos) (tListZip X.K ta) := by
  refine ⟨fun pins s σ H Q I hq => ?_⟩
  refine wpAny_Call_Name_kw (ld_blt I hg hm hv (PyProof.Rows.callWith_type1 ?_ hs rfl))
  rw [hs]
  show wpAny _ _ (spliced ((false, eval (.Call (.Name "zip" p2) [e, e2] [] pos2) X.env) :: backTo pos (starEach [] X.env))) _ _ s
  refine Calls.spliced_cons (Call_ (ld_blt I hg2 hm2 PyProof.Rows.boot_zip (PyProof.Rows.callWith_type1 (thn (ha.run pos2 pins s σ H _ I hq) fun us s1 ⟨vs, H1, I1, r1, q1⟩ => ?_) hs2 hpl)))
  obtain ⟨a, b, xs, ys, rfl, qa, qb, hmin, q⟩ := q1
  obtain ⟨u, us, rfl, ru, rr⟩ : ∃ u us', us = u :: us' ∧ RelV (V.ref a) u ∧ Vals [V.ref b] us' := by cases r1 with | cons r t => exact ⟨_, _, rfl, r, t⟩
  obtain ⟨u2, rfl, ru2⟩ : ∃ u2, us = [u2] ∧ RelV (V.ref b) u2 := by cases rr with | cons r t => cases t; exact ⟨_, rfl, r⟩
  obtain rfl : u = Value.ref a := ru
  obtain rfl : u2 = Value.ref b := ru2
  obtain ⟨ka, ia, va, sa⟩ := sq_of I1 qa
  obtain ⟨kb, ib, vb, sb⟩ := sq_of I1 qb
  have la := va.length
  have lb := vb.length
  have mn : min ia.toArray.size ib.toArray.size = min xs.length ys.length := by rw [List.size_toArray, List.size_toArray, la, lb]
  refine call_zg sa sb fun g Z zo sz kp => Calls.spliced_nil ?_
  have hal := Kd.sq_lt sa
  have hbl := Kd.sq_lt sb
  refine zl_call (s := { s1 with heap := g }) (I1.ok.hd hc) (PySem.W.ktu_apart s1.heap.objs.size a b hal hbl) Z (Heap.lt_size Z.ti) (Nat.lt_of_lt_of_le hal (by show s1.heap.objs.size ≤ g.objs.size; rw [sz]; exact Nat.le_add_right _ _)) (Nat.lt_of_lt_of_le hbl (by show s1.heap.objs.size ≤ g.objs.size; rw [sz]; exact Nat.le_add_right _ _)) (by rw [mn]; exact hmin) fun h' acc c as k1 k2 k3 k4 k5 => ?_
  dsimp only at k1 k2 k3 k4 k5 ⊢
  have hS : s1.heap.objs.size ≤ g.objs.size := by rw [sz]; exact Nat.le_add_right _ _
  have hk : ∀ b o, s1.heap.get? b = some o → h'.get? b = some o := fun b o e => by
    have lt := Heap.lt_size e
    exact k1 b o (Nat.ne_of_lt (Nat.lt_of_lt_of_le lt (Nat.le_add_right _ _))) (Nat.ne_of_lt (Nat.lt_of_lt_of_le lt (Nat.le_add_right _ _))) (Nat.ne_of_lt lt) (Nat.ne_of_lt (Nat.lt_of_lt_of_le lt (Nat.le_add_right _ _))) (kp _ _ e)
  have nS : H1 g.objs.size = none := I1.hok.fresh hS
  have nas : ∀ t ∈ as, H1 t = none := fun t ht => I1.hok.fresh (Nat.le_trans hS (Nat.le_of_lt (k4.above t ht)))
  have nd : as.Nodup := List.Pairwise.imp (fun {x y} (h : x < y) => Nat.ne_of_lt h) k4.rise
  have Sn : g.objs.size ∉ as := fun z => Nat.lt_irrefl _ (k4.above _ z)
  have lx : as.length ≤ xs.length := by rw [k3, mn]; exact Nat.min_le_left _ _
  have ly : as.length ≤ ys.length := by rw [k3, mn]; exact Nat.min_le_right _ _
  have at_ := putP_at as xs ys (upd H1 g.objs.size (.lst (as.map V.ref))) lx ly nd
  have off : ∀ b, b ∉ as → b ≠ g.objs.size → putP (upd H1 g.objs.size (.lst (as.map V.ref))) as xs ys b = H1 b := fun b h1 h2 => by rw [putP_off as xs ys _ h1, upd_ne h2]
  have eS : putP (upd H1 g.objs.size (.lst (as.map V.ref))) as xs ys g.objs.size = some (.lst (as.map V.ref)) := by rw [putP_off as xs ys _ Sn, upd_same]
  have kp2 : ∀ b u, H1 b = some u → putP (upd H1 g.objs.size (.lst (as.map V.ref))) as xs ys b = some u := fun b u e => by
    rw [off b (fun z => by rw [nas b z] at e; cases e) (fun z => by rw [z, nS] at e; cases e)]
    exact e
  refine ⟨.ref g.objs.size, _, inv_grow (tk := s1.toks) I1 hk kp2 (fun b o e n => ?_) (fun b u e => ?_), rfl, q _ _ as kp2 nS nas (by rw [k3, mn]) eS at_⟩
  · have lt := Heap.lt_size e
    rw [off b (fun z => absurd (Nat.lt_of_lt_of_le lt (Nat.le_trans hS (Nat.le_of_lt (k4.above b z)))) (Nat.lt_irrefl _)) (Nat.ne_of_lt (Nat.lt_of_lt_of_le lt hS))]
    exact n
  · by_cases hb : b ∈ as
    · right
      obtain ⟨j, hj, rfl⟩ := List.getElem_of_mem hb
      obtain ⟨x, y, e1, e2, e3⟩ := at_ j _ (List.getElem?_eq_getElem hj)
      rw [e3] at e
      cases e
      obtain ⟨vx, vy, f1, f2, f3⟩ := k4.at_ j _ (List.getElem?_eq_getElem hj)
      obtain ⟨wx, g1, r1⟩ := va.get e1
      obtain ⟨wy, g2, r2⟩ := vb.get e2
      have h1 : vx = wx := Option.some.inj (f1.symm.trans (by simpa using g1))
      have h2 : vy = wy := Option.some.inj (f2.symm.trans (by simpa using g2))
      subst h1 h2
      exact ⟨by show 2 ≤ sizeLine; decide, [vx, vy], .cons r1 (.cons r2 .nil), ⟨_, f3, rfl, _, rfl⟩⟩
    · by_cases hb2 : b = g.objs.size
      · right
        rw [hb2] at e ⊢
        rw [eS] at e
        cases e
        refine ⟨by rw [List.length_map, k3, mn]; exact hmin, acc.toList, c, by rw [k5]; exact refs_vals as, ?_⟩
        rw [Array.toArray_toList]
        exact k2
      · left
        rw [off b hb hb2] at e
        exact e
end PKZ
namespace PKZ
open PySem PySem.Spec PyProof.Rows L2
def SqV (kd : Kd) (K : PySem.W.Frag) (H : Hp) (a : Addr) (xs : List V) : Prop := match kd with
  | .l => SqL K H a xs
  | .t => SqT K H a xs
theorem sq_kd {X : Cx} {pins : List (Addr × Obj)} {σ : L2.St} {H : Hp} {s : Shared} {kd : Kd} {a : Addr} {xs : List V} (I : Inv X pins σ H s) (q : SqV kd X.K H a xs) : ∃ its : List Value, Vals xs its ∧ kd.Sq s.heap a its.toArray := by
  cases kd with
  | l => obtain ⟨its, rv, p, _⟩ := I.list q; exact ⟨its, rv, p.isList⟩
  | t => obtain ⟨its, rv, p, _⟩ := I.tuple q; exact ⟨its, rv, p⟩
/-- pairs of the items of two sequences -/
def ItP (K : PySem.W.Frag) (ka kb : Kd) (a b : Addr) (xs ys : List V) : It :=
  ⟨fun i H => SqV ka K H a xs ∧ SqV kb K H b ys ∧ i < xs.length ∧ i < ys.length,
    fun i H v H' => ∃ T x y, v = .ref T ∧ H T = none ∧ H' = upd H T (.tup [x, y]) ∧ xs[i]? = some x ∧ ys[i]? = some y,
    fun i H => SqV ka K H a xs ∧ SqV kb K H b ys ∧ (xs.length ≤ i ∨ ys.length ≤ i)⟩
theorem turn_zip {P : Program} {w : World} {K : PySem.W.Frag} {elts : List Expr} {kk : Nat} {tpos : Pos} {ka kb : Kd} {a b z TI TO i1 i2 : Addr} {xs ys : List V} (D : ZipApart z TI TO i1 i2 a b) :
    Turn P w K (.Tuple elts kk tpos) (ItP K ka kb a b xs ys) [z, TI, TO, i1, i2] z (fun i h => Zo h z TI TO .none false ∧ IsPair h TI (.ref i1) (.ref i2) ∧ (∃ x y, IsPair h TO x y) ∧ ka.It h i1 a i ∧ kb.It h i2 b i) where
  mem := List.mem_cons_self
  obj := fun i h st c hc => by
    obtain ⟨q1, q2, ⟨x, y, q3⟩, q4, q5⟩ := st
    simp only [List.mem_cons, List.not_mem_nil, or_false] at hc
    rcases hc with e | e | e | e | e
    · rw [e]; exact ⟨_, q1, fun v q => nomatch q⟩
    · rw [e]; exact ⟨_, q2, fun v q => nomatch q⟩
    · rw [e]; exact ⟨_, q3, fun v q => nomatch q⟩
    · rw [e]; exact Kd.it_get q4
    · rw [e]; exact Kd.it_get q5
  keep := fun i h h' st k => by
    obtain ⟨q1, q2, ⟨x, y, q3⟩, q4, q5⟩ := st
    exact ⟨k z (by simp) _ q1, k TI (by simp) _ q2, ⟨x, y, k TO (by simp) _ q3⟩, Kd.it_at q4 fun o q => k i1 (by simp) o q, Kd.it_at q5 fun o q => k i2 (by simp) o q⟩
  item := by
    intro X hP hw hK hc i pins s σ H E I hf st hg
    subst hP hw hK
    obtain ⟨q1, q2, ⟨x0, y0, q3⟩, q4, q5⟩ := st
    obtain ⟨sx, sy, lx, ly⟩ := hg
    obtain ⟨ia, va, sa⟩ := sq_kd I sx
    obtain ⟨ib, vb, sb⟩ := sq_kd I sy
    obtain ⟨u, hu, ru⟩ := va.get (List.getElem?_eq_getElem lx)
    obtain ⟨u2, hu2, ru2⟩ := vb.get (List.getElem?_eq_getElem ly)
    have zl : z < s.heap.objs.size := Heap.lt_size q1
    have hT : s.TypeIs (.ref z) "zip" := ⟨_, q1, rfl⟩
    unfold pyNext
    refine wpAny_bind (wpAny_attempt (wpAny_callSpecial?_slot (name := Str.ofString "__next__") hT F.slot_zip_next (wpAny_call_entry F.slot_zip_next hT F.entry_zip_next ?_ (F.args_zip_next_1 _))))
    refine free_item D q1 q2 q3 q4 q5 sa sb (x := u) (y := u2) (by simpa using hu) (by simpa using hu2) fun h' c1 c2 c3 c4 c5 c6 c7 => wpAny_pure ?_
    refine ⟨_, rfl, wpAny_letOwnedTupleGo_zip (s := { s with heap := h' }) c1 fun g d1 d2 => ?_⟩
    have t2 : g.get? s.heap.objs.size = some { cls := .type "tuple", data := .seq #[u, u2] } := (d2.2 _ (Nat.ne_of_gt zl)).trans c5
    have new : ObjOk X.prog X.w (upd H s.heap.objs.size (.tup [xs[i], ys[i]])) g s.heap.objs.size (.tup [xs[i], ys[i]]) := ⟨by show 2 ≤ sizeLine; decide, [u, u2], .cons ru (.cons ru2 .nil), ⟨_, t2, rfl, _, rfl⟩⟩
    have away : ∀ c o, c ∉ [z, TI, TO, i1, i2] → s.heap.get? c = some o → g.get? c = some o := fun c o hb q => by
      simp only [List.mem_cons, List.not_mem_nil, or_false, not_or] at hb
      exact (d2.2 c hb.1).trans (c7 c o hb.1 hb.2.2.1 hb.2.2.2.1 hb.2.2.2.2 q)
    have I1 : Inv X pins σ (upd H s.heap.objs.size (.tup [xs[i], ys[i]])) { s with heap := g } := I.turnedNew (t' := s.toks) (ch := [z, TI, TO, i1, i2]) away hf (Nat.le_refl _) new
    refine ⟨.ref s.heap.objs.size, _, I1, rfl, ⟨_, xs[i], ys[i], rfl, I.hok.fresh (Nat.le_refl _), rfl, List.getElem?_eq_getElem lx, List.getElem?_eq_getElem ly⟩, ⟨d1, (d2.2 _ D.TIz).trans (c7 _ _ D.TIz D.TITO D.TIi1 D.TIi2 q2), ⟨_, _, (d2.2 _ D.TOz).trans c2⟩, Kd.it_at c3 fun o q => (d2.2 _ D.i1z).trans q, Kd.it_at c4 fun o q => (d2.2 _ D.i2z).trans q⟩, fun c hc => ?_⟩
    have lt : c < s.heap.objs.size := by
      simp only [List.mem_cons, List.not_mem_nil, or_false] at hc
      rcases hc with e | e | e | e | e
      · rw [e]; exact zl
      · rw [e]; exact Heap.lt_size q2
      · rw [e]; exact Heap.lt_size q3
      · rw [e]; obtain ⟨o, p, _⟩ := Kd.it_get q4; exact Heap.lt_size p
      · rw [e]; obtain ⟨o, p, _⟩ := Kd.it_get q5; exact Heap.lt_size p
    rw [upd_ne (Nat.ne_of_lt lt)]
    exact (hf c hc).1
  done := by
    intro X hP hw hK hc i pins s σ H E I hf st hg
    subst hP hw hK
    obtain ⟨q1, q2, ⟨x0, y0, q3⟩, q4, q5⟩ := st
    obtain ⟨sx, sy, hend⟩ := hg
    obtain ⟨ia, va, sa⟩ := sq_kd I sx
    obtain ⟨ib, vb, sb⟩ := sq_kd I sy
    have la := va.length
    have lb := vb.length
    have he : ia.toArray[i]? = none ∨ ib.toArray[i]? = none := by
      rcases hend with q | q
      · exact .inl (by simp; omega)
      · exact .inr (by simp; omega)
    have hT : s.TypeIs (.ref z) "zip" := ⟨_, q1, rfl⟩
    unfold pyNext
    refine wpAny_bind (wpAny_attempt (wpAny_callSpecial?_slot (name := Str.ofString "__next__") hT F.slot_zip_next (wpAny_call_entry F.slot_zip_next hT F.entry_zip_next ?_ (F.args_zip_next_1 _))))
    refine free_end (I.ok.hd hc) D q1 q2 q3 q4 q5 sa sb he fun h' e k ⟨o, ho, hc2⟩ => ?_
    refine wpAny_bind (wpAny_isInstance (T := "StopIteration") (b := true) ⟨o, ho, hc2⟩ isSubtype_stop (wpAny_pure ⟨rfl, I.turnedL (t' := s.toks) (ch := [z, TI, TO, i1, i2]) (fun c o hb q => ?_) hf⟩))
    simp only [List.mem_cons, List.not_mem_nil, or_false, not_or] at hb
    exact k c o hb.1 hb.2.2.1 hb.2.2.2.1 hb.2.2.2.2 q
  self := fun A i s Q E st h => wpAny_pyIter_zip st.1 h
def iZipP (K : PySem.W.Frag) (ta : TA) : TI := fun σ H R => ta σ H fun vs H1 => ∃ (ka kb : Kd) (a b : Addr) (xs ys : List V), vs = [.ref a, .ref b] ∧ SqV ka K H1 a xs ∧ SqV kb K H1 b ys ∧ R (ItP K ka kb a b xs ys) H1
/-- for x, y in zip(e, e2), lists and tuples -/
theorem pi_zipP {X : Cx} {e e2 : Expr} {ta : TA} {p pos tpos : Pos} {elts : List Expr} {kk : Nat} (hg : Gl X "zip") (hm : X.mg "zip" = none) (ha : PA X [e, e2] ta)
    (hs : starEach [e, e2] X.env = (false, eval e X.env) :: starEach [e2] X.env := by rfl) (hpl : (backTo pos (starEach [e2] X.env)).any (·.1) = false := by rfl) :
    PI X (.Tuple elts kk tpos) (.Call (.Name "zip" p) [e, e2] [] pos) (iZipP X.K ta) := by
  refine ⟨fun pins s σ H R I h => ?_⟩
  refine Call_ (ld_blt I hg hm PyProof.Rows.boot_zip (PyProof.Rows.callWith_type1 (thn (ha.run pos pins s σ H _ I h) fun us s1 ⟨vs, H1, I1, r1, q1⟩ => ?_) hs hpl))
  obtain ⟨ka, kb, a, b, xs, ys, rfl, sx, sy, q⟩ := q1
  obtain ⟨u, u2, rfl, ru, ru2⟩ : ∃ u u2, us = [u, u2] ∧ RelV (V.ref a) u ∧ RelV (V.ref b) u2 := by
    cases r1 with
    | cons r t => cases t with
      | cons r2 t => cases t; exact ⟨_, _, rfl, r, r2⟩
  obtain rfl : u = Value.ref a := ru
  obtain rfl : u2 = Value.ref b := ru2
  obtain ⟨ia, va, sa⟩ := sq_kd I1 sx
  obtain ⟨ib, vb, sb⟩ := sq_kd I1 sy
  refine call_zg sa sb fun g Z zo sz kp => wpAny_pyIter_zip (s := { s1 with heap := g }) zo ?_
  have I2 : Inv X pins σ H1 { s1 with heap := g } := I1.kept (t' := s1.toks) kp
  refine ⟨s1.heap.objs.size + 4, [s1.heap.objs.size + 4, s1.heap.objs.size + 2, s1.heap.objs.size + 3, s1.heap.objs.size, s1.heap.objs.size + 1], _, _, H1, rfl, I2, turn_zip (PySem.W.ktu_apart s1.heap.objs.size a b (Kd.sq_lt sa) (Kd.sq_lt sb)), ⟨zo, Z.ti, Z.to, Z.it1, Z.it2⟩, fun c hc => ?_, q⟩
  have le : s1.heap.objs.size ≤ c := by
    simp only [List.mem_cons, List.not_mem_nil, or_false] at hc
    rcases hc with e | e | e | e | e
    · rw [e]; exact Nat.le_add_right _ _
    · rw [e]; exact Nat.le_add_right _ _
    · rw [e]; exact Nat.le_add_right _ _
    · rw [e]; exact Nat.le_refl _
    · rw [e]; exact Nat.le_add_right _ _
  exact I1.fpOk le (I1.hok.fresh le)
theorem walk_zipP {K : PySem.W.Frag} {ka kb : Kd} {a b : Addr} {xs ys : List V} {n : Nat} (hn : n = min xs.length ys.length) : Walk (ItP K ka kb a b xs ys) n (fun H => SqV ka K H a xs ∧ SqV kb K H b ys) (YPair (fun i => xs[i]?) (fun i => ys[i]?)) := by
  subst hn
  refine ⟨fun i _ hi q => ⟨q.1, q.2, by omega, by omega⟩, fun _ q => ⟨q.1, q.2, by omega⟩, fun i H v H' _ q y => ?_⟩
  obtain ⟨T, x, y, h1, h2, h3, h4, h5⟩ := y
  exact ⟨T, x, y, h1, h2, h3, h4, h5⟩
end PKZ
namespace PKZ
open PySem PySem.Spec PyProof.Rows L2
/-! t[::-1] of a tuple; xs.extend(t) -/
theorem adjust_back (n : Nat) : Builtin.Slice.sliceAdjust none none (-1) (n : Int) = ((n : Int) - 1, -1) := by
  unfold Builtin.Slice.sliceAdjust
  simp
theorem places_back (n : Nat) : Builtin.Slice.slicePlaces ((n : Int) - 1) (-1) (-1) = n := by
  unfold Builtin.Slice.slicePlaces
  rw [if_neg (by decide), show (- -1 : Int) = 1 by decide, Int.ediv_one]
  split <;> omega
theorem fm_congr {α β : Type} {f g : α → Option β} : ∀ {l : List α}, (∀ x ∈ l, f x = g x) → l.filterMap f = l.filterMap g
  | [], _ => rfl
  | x :: r, h => by
    have e := h x List.mem_cons_self
    have ih := fm_congr (l := r) fun y hy => h y (List.mem_cons_of_mem _ hy)
    cases q : f x with
    | none => rw [List.filterMap_cons_none q, List.filterMap_cons_none (e ▸ q), ih]
    | some y => rw [List.filterMap_cons_some q, List.filterMap_cons_some (e ▸ q), ih]
theorem pick_back (xs : List Value) : (((List.range xs.length).filterMap fun (k : Nat) => xs.toArray[((xs.length : Int) - 1 + (k : Int) * (-1)).toNat]?)) = xs.reverse := by
  have e : (List.range xs.length).filterMap (fun (k : Nat) => xs.toArray[((xs.length : Int) - 1 + (k : Int) * (-1)).toNat]?) = (List.range xs.length).filterMap fun k => xs.reverse.toArray[0 + k]? := by
    refine fm_congr fun k hk => ?_
    have hk := List.mem_range.mp hk
    have : ((xs.length : Int) - 1 + (k : Int) * (-1)).toNat = xs.length - 1 - k := by omega
    rw [this]
    simp [List.getElem?_reverse hk]
  have p := pick_run xs.reverse.toArray 0 xs.length
  rw [List.filterMap_map] at p
  rw [e]
  refine p.trans ?_
  rw [List.drop_zero]
  exact List.take_of_length_le (by rw [List.length_reverse]; exact Nat.le_refl _)
section
variable {prog : Program} {w : World} {A : Around} {E : Value → Shared → Prop} {s : Shared}
theorem applied_back {sl : Addr} {t : Tok} {n : Nat} {Q : Int × Int × Nat → Shared → Prop} (hs : s.heap.IsSliceOf sl .none .none (.int (-1) t)) (h : Q ((n : Int) - 1, -1, n) s) : wpAny (model prog w) A (Builtin.Slice.sliceApplied (.ref sl) (pure (n : Int))) Q E s := by
  obtain ⟨os, hos, hcs, hds⟩ := id hs
  unfold Builtin.Slice.sliceApplied Builtin.Slice.sliceFields
  refine wpAny_bind (wpAny_bind (wpAny_field hos hds (x := .none) rfl (wpAny_bind (wpAny_field hos hds (x := .none) rfl (wpAny_bind (wpAny_field hos hds (x := .int (-1) t) rfl (wpAny_pure ?_)))))))
  refine wpAny_bind (HT.slicePart_ (o := some (-1)) (.int _ _) ?_)
  show wpAny _ _ (if ((-1 : Int) == 0) = true then _ else _) _ _ s
  rw [if_neg (by decide)]
  refine wpAny_bind (HT.slicePart_ .none (wpAny_bind (HT.slicePart_ .none (wpAny_bind (wpAny_pure ?_)))))
  show wpAny _ _ (match Builtin.Slice.sliceAdjust none none (-1) (n : Int) with | (lo, hi) => pure (lo, (-1 : Int), Builtin.Slice.slicePlaces lo hi (-1))) _ _ s
  rw [adjust_back]
  show wpAny _ _ (pure ((n : Int) - 1, (-1 : Int), Builtin.Slice.slicePlaces ((n : Int) - 1) (-1) (-1))) _ _ s
  rw [places_back]
  exact wpAny_pure h
theorem tuple_back {t sl : Addr} {its : List Value} {tk : Tok} {Q : Value → Shared → Prop} (ht : PyProof.Rows.IsTup s.heap t its.toArray) (hs : s.heap.IsSliceOf sl .none .none (.int (-1) tk)) (hz : its.length ≤ sizeLine)
    (h : Q (.ref s.heap.objs.size) { s with heap := s.heap.push { cls := .type "tuple", data := .seq its.reverse.toArray } }) : wpAny (model prog w) A (getItem (.ref t) (.ref sl)) Q E s := by
  have fit : sizeOk (.seq its.reverse.toArray) := by
    show its.reverse.toArray.size ≤ sizeLine
    rw [List.size_toArray, List.length_reverse]; exact hz
  obtain ⟨os, hos, hcs, hds⟩ := id hs
  unfold getItem
  try with_reducible refine wpAny_holding ?_
  first | refine wpAny_bind (wpAny_pure ?_) | skip
  refine wpAny_bind (wpAny_sequenceKey ht.typeIs (by decide) (wpAny_bind (wpAny_callSpecial?_slot (name := Str.ofString "__getitem__") ht.typeIs PyProof.Rows.slot_tuple_getitem (wpAny_call_entry PyProof.Rows.slot_tuple_getitem ht.typeIs entry_tuple_getitem ?_ (args_tuple_getitem _ _)))))
  show wpAny _ _ (Builtin.Tuple.tupleItemsOf (.ref t) >>= _) _ _ s
  refine wpAny_bind (tupleItemsOf_ ht (wpAny_bind (wpAny_typeOf (T := "slice") ⟨os, hos, hcs⟩ ?_)))
  rw [if_pos (by decide)]
  refine wpAny_bind (applied_back hs ?_)
  have no : ¬ ((((its.toArray.size : Int) - 1) == 0 && (-1 : Int) == 1 && its.toArray.size == its.toArray.size) = true) := by simp
  show wpAny _ _ (if ((((its.toArray.size : Int) - 1) == 0 && (-1 : Int) == 1 && its.toArray.size == its.toArray.size)) = true then _ else _) _ _ s
  rw [if_neg no]
  have pk : ((List.range its.toArray.size).filterMap fun (k : Nat) => its.toArray[((its.toArray.size : Int) - 1 + (k : Int) * (-1)).toNat]?).toArray = its.reverse.toArray := by
    rw [List.size_toArray, pick_back]
  rw [pk]
  first
    | exact wpAny_bind (m := Builtin.Tuple.tupleExact _) (wpAny_newObj_type (wpAny_pure ⟨_, rfl, wpAny_pure h⟩) fit)
    | exact wpAny_bind (m := Builtin.Tuple.tupleExact _) (wpAny_newObj_type (wpAny_bind (wpAny_pure (wpAny_pure ⟨_, rfl, wpAny_pure h⟩))) fit)
    | exact wpAny_bind (wpAny_bind (m := Builtin.Tuple.tupleExact _) (wpAny_newObj_type (wpAny_pure (wpAny_pure ⟨_, rfl, wpAny_pure h⟩)) fit))
    | exact wpAny_bind (wpAny_bind (m := Builtin.Tuple.tupleExact _) (wpAny_newObj_type (wpAny_pure ⟨_, rfl, wpAny_pure h⟩) fit))
end
def tRevT (K : PySem.W.Frag) (te : TE) : TE := fun σ H Q => te σ H fun x H1 => ∃ a xs, x = .ref a ∧ SqT K H1 a xs ∧ ∀ p, H1 p = none → Q (.ref p) (upd H1 p (.tup xs.reverse))
/-- t[::-1] of a tuple -/
theorem pe_revT {X : Cx} {e : Expr} {te : TE} {k : Nat} {p1 p2 p3 pos : Pos} (he : PE X e te) : PE X (.Subscript e (.Slice none none (some (.UnaryOp .USub (.Constant (.int 1) k p1) p2)) p3) pos) (tRevT X.K te) := by
  refine ⟨fun pins s σ H Q I h => Subscript_ (thn (he.run pins s σ H _ I h) fun v s1 ⟨x, H1, I1, r1, q1⟩ => ?_)⟩
  obtain ⟨a, xs, ex, hx, q⟩ := q1
  subst ex
  cases r1
  have hst : PO X (some (.UnaryOp .USub (.Constant (.int 1) k p1) p2)) (tPart (tUn (rU fun i => .int (-i)) (tC (.int 1)))) := po_some (pe_un un_neg pe_int)
  refine wpAny_Slice (thn (po_none.run pins s1 σ H1 (fun o H2 => o = none ∧ H2 = H1) I1 ⟨rfl, rfl⟩) fun vl s2 ⟨l, H2, I2, pl, el, e2⟩ => ?_)
  subst el e2
  refine thn (po_none.run pins s2 σ H2 (fun o H3 => o = none ∧ H3 = H2) I2 ⟨rfl, rfl⟩) fun vu s3 ⟨u, H3, I3, pu, eu, e3⟩ => ?_
  subst eu e3
  refine thn (hst.run pins s3 σ H3 (fun o H4 => o = some (-1) ∧ H4 = H3) I3 ⟨1, rfl, -1, rfl, rfl, rfl⟩) fun vs s4 ⟨o, H4, I4, ps, eo, e4⟩ => ?_
  subst eo e4
  have I5 : Inv X pins σ H4 { s4 with heap := s4.heap.push { cls := .type "slice", data := .fields #[vl, vu, vs] } } := I4.kept (t' := s4.toks) fun b ob q => Heap.get?_push_of_some _ q
  cases pl
  cases pu
  cases ps
  obtain ⟨its, r, ht, hz⟩ := I5.tuple hx
  have hlen := r.length
  refine tail_any (ops := [.ref a, .ref s4.heap.objs.size]) ht.typeIs (PyProof.Rows.slot_tuple_getitem.lookup) (tuple_back ht (Heap.IsSliceOf.new ..) (by omega) ?_) (by with_unfolding_all rfl)
  refine ⟨.ref _, _, I5.laid (t' := s4.toks) (o := .tup xs.reverse) (fun b ob q => Heap.get?_push_of_some _ q) (Nat.le_refl _) ?_, rfl, q _ (I5.hok.fresh (Nat.le_refl _))⟩
  exact ⟨by rw [List.length_reverse]; exact hz, _, r.reverse, IsTup.new _ _⟩
/-- a list is extended by a tuple -/
theorem extend_meets (l b : Addr) (xs ys : Array Value) (n m : Nat) (od : Option Addr) (os : Array (Option Value)) (long : ¬ (!xs.isEmpty && Builtin.List.listTooLong (xs.size + ys.size)) = true) (hx : xs.size ≤ sizeLine) (hxy : (xs ++ ys).size ≤ sizeLine + 1) :
    Meets (Builtin.«list.extend» ⟨[.ref l, .ref b], []⟩) (fun _ R s => s.heap.get? l = some { cls := .type "list", dict := none, data := .seq xs n, slots := #[] } ∧ s.heap.get? b = some { cls := .type "tuple", dict := od, data := .seq ys m, slots := os } ∧
      R (.ok (.ret Value.none)) { s with heap := s.heap.update l (Obj.mapSeq (· ++ ys)) }) :=
  .of_wp fun prog w A R s h => by
    obtain ⟨hp, g, d, tk, o⟩ := s
    obtain ⟨hl, hb, h⟩ := h
    have f1 := AutoSeq1.idx_int
    have f2 := AutoSeq1.sub_tuple_tuple
    have f3 := AutoSeq1.sub_list_list
    have f4 := AutoSeq1.sub_tuple_list
    wp_walk using (wpAny_updateSeq hl rfl (hz := hx) (_hz' := hxy)), wpAny_loadPart' hl, wpAny_loadPart' hb
    exact ⟨_, rfl, h⟩
def rExtT (K : PySem.W.Frag) : V → List V → Hp → VK → Prop := fun x vs H Q => ∃ l b xs zs, x = .ref l ∧ vs = [.ref b] ∧ H l = some (.lst xs) ∧ SqT K H b zs ∧ xs.length + zs.length ≤ sizeLine ∧ Q .non (upd H l (.lst (xs ++ zs)))
theorem mt_extendT {X : Cx} : MtM X "list.extend" (rExtT X.K) := by
  intro pins s σ H x vs v us Q I rx rv h
  obtain ⟨l, b, xs, zs, rfl, rfl, hH, hB, hz, q⟩ := h
  cases rx
  obtain ⟨u, rfl, ru⟩ := rv.one
  cases ru
  obtain ⟨z, its, n, r, hl, e⟩ := I.lstM hH
  obtain ⟨its2, r2, ⟨o, ho, hc, n2, hd⟩, _⟩ := I.tuple hB
  obtain ⟨oc, od, odt, osl⟩ := o
  cases hc
  cases hd
  have l2 := r2.length
  have hsz : its.toArray.size + its2.toArray.size ≤ sizeLine := by rw [List.size_toArray, List.size_toArray]; omega
  have long : ¬ (!its.toArray.isEmpty && Builtin.List.listTooLong (its.toArray.size + its2.toArray.size)) = true := by
    rw [notLongL hsz, Bool.and_false]
    exact Bool.false_ne_true
  refine call_meets F.slot_list_extend ⟨_, e, rfl⟩ F.entry_list_extend (F.args_list_extend_2 _ _) (extend_meets l b its.toArray its2.toArray n n2 od osl long (by rw [List.size_toArray]; omega) (by rw [Array.size_append]; omega)) ⟨e, ho, ?_⟩
  refine ⟨.non, _, I.lset (its' := its ++ its2) hH e (by simp) (r.append r2) ?_, rfl, q⟩
  rw [List.length_append]
  omega
end PKZ
namespace PKZ
open PySem PySem.Spec PyProof.Rows L2
/-! dict(zip(e, e2)) -/
theorem zip_nokeys : typeLookup (.type "zip") "keys" = pure none := by
  rw [typeLookup_type, builtinLookup_eq_fast]; kernel_rfl
theorem zip_nogetattr : typeLookup (.type "zip") "__getattr__" = pure none := by
  rw [typeLookup_type, builtinLookup_eq_fast]; kernel_rfl
theorem zip_getattribute : entryFor table "zip.__getattribute__" = some Builtin.«object.__getattribute__» :=
  entryFor_alias (id' := "object.__getattribute__") (by kernel_rfl) (by decide +kernel) (by decide +kernel) (by kernel_rfl)
set_option maxRecDepth 8000 in
theorem zip_miss (a : Addr) (vs : Array Value) (u : Tok) :
    Meets (Builtin.«object.__getattribute__» ⟨[.ref a, .str "keys" u], []⟩) (fun A R s => s.heap.get? a = some { cls := .type "zip", dict := none, data := .fields vs, slots := #[] } ∧ raisesAttr (.ref a) "keys" A R s) :=
  Meets.of_wp fun prog w A R s hs => by
    obtain ⟨hp, g, d, tk, os⟩ := s
    obtain ⟨hx, hs⟩ := hs
    have hT : (⟨hp, g, d, tk, os⟩ : Shared).TypeIs (.ref a) "zip" := ⟨_, hx, rfl⟩
    have hmiss := zip_nokeys
    have hname : (["__module__", "__name__", "__qualname__", "__doc__", "__annotations__"] : List Str).contains "keys" = false := by decide +kernel
    have hsz : ("keys" : Str).length + 100 ≤ sizeLine := by first | size_fits | decide +kernel
    unfold Builtin.«object.__getattribute__»
    repeat (any_goals (first | assumption | wp_step))
    try simp only [hname, Bool.false_eq_true, if_false]
    repeat (any_goals (first | assumption | wp_step))
    exact wpAny_raiseAttrError hs.1 hs.2 (attrMsg_fits (by decide +kernel) hsz)
section
variable {prog : Program} {w : World} {A : Around} {E : Value → Shared → Prop}
set_option maxRecDepth 8000 in
theorem zip_has_no_keys {s : Shared} {a : Addr} {vs : Array Value} {Q : Option Value → Shared → Prop} (hx : s.heap.get? a = some { cls := .type "zip", dict := none, data := .fields vs, slots := #[] }) (hA : A.handled = none)
    (h : ∀ h' tk, (∀ b ob, s.heap.get? b = some ob → h'.get? b = some ob) → Q none { s with heap := h', toks := tk }) : wpAny (model prog w) A (getAttr? (.ref a) "keys") Q E s := by
  obtain ⟨hp, g, d, tk, os⟩ := s
  have hT : ∀ tk', (⟨hp, g, d, tk', os⟩ : Shared).TypeIs (.ref a) "zip" := fun _ => ⟨_, hx, rfl⟩
  have f1 := sub_AttributeError
  have f3 := PySem.F.slot_zip_getattribute.lookup
  have f4 := PySem.F.slot_zip_getattribute.bind (.ref a)
  have f5 := zip_nogetattr
  unfold getAttr? getAttrBy? getAttrBy
  repeat (any_goals (first | assumption | exact hT _ | ((with_reducible show wpAny _ _ (call (Value.builtin "zip.__getattribute__") _ _) _ _ _); refine call_meets PySem.F.slot_zip_getattribute (hT _) zip_getattribute (PySem.F.args_zip_getattribute_2 _ _) (zip_miss _ _ _) ⟨hx, hA, fun h' tk' e hx' => ?_⟩) | wp_step))
  obtain ⟨t', u', he⟩ := hx'.there
  show wpAny _ _ (getattributeRaised _ _ _ _ _ _ _) _ _ _
  unfold getattributeRaised
  repeat (any_goals (first | assumption | wp_step))
  all_goals first | exact h _ _ hx'.keeps | (dsimp only; repeat (any_goals (first | assumption | exact h _ _ hx'.keeps | wp_step)))
end
end PKZ
namespace PKZ
open PySem PySem.Spec PyProof.Rows L2
section
variable {prog : Program} {w : World} {A : Around} {E : Value → Shared → Prop} {ka kb : Kd} {z TI TO i1 i2 l1 l2 S : Addr} {xs ys : Array Value}
theorem dz_loop {R : Result → Shared → Prop} {res : Value} (hh : A.handled = none) (D : ZipApart z TI TO i1 i2 l1 l2) (hS : S ≠ z ∧ S ≠ TI ∧ S ≠ TO ∧ S ≠ i1 ∧ S ≠ i2 ∧ S ≠ l1 ∧ S ≠ l2) :
    ∀ (rest : List (Key × Value)) (i : Nat) (acc : List (Key × Value)) (ix : Int) (t : Tok) (s : Shared), (∀ (j : Nat) (q : Key × Value), rest[j]? = some q → ∃ u, xs[i + j]? = some u ∧ ys[i + j]? = some q.2 ∧ keyIs q.1 u = true) →
      min xs.size ys.size = i + rest.length → acc.length + rest.length ≤ sizeLine → ZSt ka kb z TI TO i1 i2 l1 l2 xs ys i s.heap → s.heap.DictOf (mixKind prog w) S acc →
      (∀ h' tk, h'.DictOf (mixKind prog w) S (merged acc rest) → (∀ b o, b ≠ S → b ≠ z → b ≠ TO → b ≠ i1 → b ≠ i2 → s.heap.get? b = some o → h'.get? b = some o) → R (.ok (.ret res)) { s with heap := h', toks := tk }) →
      codeAny (model prog w) A (.builtin "dict.update.loop" ⟨[.ref S, .ref z, .int ix t, res], []⟩) R s
  | [], i, acc, ix, t, s, hp, hn, hl, Z, hd, hR => by
    refine codeAny_builtin ud_entry ?_
    (rw [Around.under_plainId ud_plain])
    show wpAny _ A.in1 (pyNext (.ref z) >>= _) _ _ s
    have hend : xs[i]? = none ∨ ys[i]? = none := by
      have hn : min xs.size ys.size = i := hn
      rcases Nat.le_total xs.size ys.size with q | q
      · exact .inl (Array.getElem?_eq_none (by omega))
      · exact .inr (Array.getElem?_eq_none (by omega))
    refine wpAny_bind (zst_done (A := A.in1) hh D Z hend fun h' e => ?_)
    show wpAny _ A.in1 (Builtin.Dict.addKeywords S [] >>= _) _ _ _
    refine wpAny_bind (wpAny_pure (wpAny_pure (hR h' s.toks (hd.at fun o q => e _ o hS.1 hS.2.2.1 hS.2.2.2.1 hS.2.2.2.2.1 q) fun b o _ b2 b3 b4 b5 q => e b o b2 b3 b4 b5 q)))
  | p :: rest, i, acc, ix, t, s, hp, hn, hl, Z, hd, hR => by
    obtain ⟨u, hu, hv, hk⟩ := hp 0 p rfl
    rw [List.length_cons] at hn hl
    refine codeAny_builtin ud_entry ?_
    (rw [Around.under_plainId ud_plain])
    show wpAny _ A.in1 (pyNext (.ref z) >>= _) _ _ s
    refine wpAny_bind (zst_item (A := A.in1) D Z (by simpa using hu) (by simpa using hv) fun h1 Z1 pr sz e => ?_)
    have hd1 : h1.DictOf (mixKind prog w) S acc := hd.at fun o q => e _ o hS.1 hS.2.2.1 hS.2.2.2.1 hS.2.2.2.2.1 q
    show wpAny _ A.in1 (holding [Value.ref s.heap.objs.size] _ >>= _) _ _ _
    refine wpAny_bind (wpAny_holding (wpAny_bind (wpAny_tryCatch ?_)))
    unfold Builtin.Dict.pairItems
    refine wpAny_bind (wpAny_typeOf (T := "tuple") ⟨_, pr, rfl⟩ ?_)
    rw [if_pos (by first | decide | rfl | simp)]
    refine wpAny_bind (wpAny_seqItems pr rfl (wpAny_pure ?_))
    show wpAny _ A.in1 (holding [u, p.2] (dictSet S u p.2)) _ _ _
    refine wpAny_holding (wpAny_dictSet_pairs (knd := mixKind prog w) (k := p.1) hk hd1 (fun h2 hd2 e2 => ?_) (by omega))
    have kS : ∀ o, h1.get? S = some o → ∃ o', h2.get? S = some o' := fun o q => let ⟨q', _, _, hq, _⟩ := hd2; ⟨q', hq⟩
    refine wpAny_pure ⟨plainId_quiet ud_plain _, dz_loop hh D hS rest (i + 1) (stored acc p.1 p.2) (ix + 1) 0 _ (fun j q' h => ?_) (by omega) ?_ (Z1.keep hS (fun b o hb q => e2.extBut b o hb q) kS) hd2 fun h' tk hd' k => ?_⟩
    · obtain ⟨u', a1, a2, a3⟩ := hp (j + 1) q' (by simpa using h)
      exact ⟨u', by rw [show i + 1 + j = i + (j + 1) by omega]; exact a1, by rw [show i + 1 + j = i + (j + 1) by omega]; exact a2, a3⟩
    · have := stored_length_le acc p.1 p.2
      omega
    · exact hR h' tk hd' fun b o b1 b2 b3 b4 b5 q => k b o b1 b2 b3 b4 b5 (e2.extBut b o b1 (e b o b2 b3 b4 b5 q))
theorem dz_call {s : Shared} {prs : List (Key × Value)} {Q : Value → Shared → Prop} (hh : A.handled = none) (D : ZipApart z TI TO i1 i2 l1 l2) (Z : ZSt ka kb z TI TO i1 i2 l1 l2 xs ys 0 s.heap) (zo : Zo s.heap z TI TO .none false)
    (lTI : TI < s.heap.objs.size) (l1l : l1 < s.heap.objs.size) (l2l : l2 < s.heap.objs.size) (hp : ∀ (j : Nat) (q : Key × Value), prs[j]? = some q → ∃ u, xs[j]? = some u ∧ ys[j]? = some q.2 ∧ keyIs q.1 u = true) (hn : min xs.size ys.size = prs.length) (hl : prs.length ≤ sizeLine)
    (hQ : ∀ h' tk, h'.DictOf (mixKind prog w) s.heap.objs.size (merged [] prs) → (∀ b o, b ≠ z → b ≠ TO → b ≠ i1 → b ≠ i2 → s.heap.get? b = some o → h'.get? b = some o) → Q (.ref s.heap.objs.size) { s with heap := h', toks := tk }) :
    wpAny (model prog w) A (call (.type "dict") [.ref z]) Q E s := by
  have zl : z < s.heap.objs.size := Heap.lt_size zo
  have TOl : TO < s.heap.objs.size := by obtain ⟨_, _, q⟩ := Z.to; exact Heap.lt_size q
  have i1l : i1 < s.heap.objs.size := by obtain ⟨o, q, _⟩ := Kd.it_get Z.it1; exact Heap.lt_size q
  have i2l : i2 < s.heap.objs.size := by obtain ⟨o, q, _⟩ := Kd.it_get Z.it2; exact Heap.lt_size q
  refine callType_codes (Q₁ := fun obj s₁ => obj = .ref s.heap.objs.size ∧ s₁ = { s with heap := s.heap.push { cls := .type "dict", data := .dict #[] } }) PySem.F.kt_called_dict (PySem.F.kt_typeCall_dict_1 _) PySem.F.entry_dict_init (kt_code_dict_new _ ⟨rfl, rfl⟩) fun obj s₁ h₁ => ?_
  obtain ⟨rfl, rfl⟩ := h₁
  refine ⟨⟨_, Heap.get?_push_size _ rfl, rfl⟩, PySem.F.args_dict_init_2 _ _, ?_⟩
  have hnew : (s.heap.push { cls := .type "dict", data := .dict #[] }).DictOf (mixKind prog w) s.heap.objs.size [] := Heap.DictOf.new s.heap
  unfold Builtin.«dict.__init__»
  refine wpAny_bind ?_
  unfold Builtin.Dict.selfAndRest
  refine wpAny_bind (wpAny_notOrdered_dict hnew.typeIs ?_)
  show wpAny _ _ (pure (s.heap.objs.size, [Value.ref z])) _ _ _
  refine wpAny_pure ?_
  show wpAny _ _ (Builtin.Dict.updateFrom "dict.__init__" s.heap.objs.size (.ref z) [] .none) _ _ _
  unfold Builtin.Dict.updateFrom
  have kp : ∀ b o, s.heap.get? b = some o → (s.heap.push { cls := .type "dict", data := .dict #[] }).get? b = some o := fun b o e => Heap.get?_push_of_some _ e
  refine wpAny_bind (wpAny_typeOf (T := "zip") ⟨_, kp _ _ zo, rfl⟩ ?_)
  rw [if_pos (by first | decide | rfl | simp)]
  refine wpAny_bind (zip_has_no_keys (kp _ _ zo) hh fun h1 tk1 k1 => ?_)
  simp only [Option.isNone_none, if_true]
  refine wpAny_bind (wpAny_rule ?_)
  have k2 : ∀ b o, s.heap.get? b = some o → h1.get? b = some o := fun b o e => k1 b o (kp b o e)
  refine wpAny_bind (wpAny_pyIter_zip (k2 _ _ zo) ?_)
  refine wpAny_pure ⟨plainId_quiet ud_plain _, ?_⟩
  have ne : ∀ b, b < s.heap.objs.size → s.heap.objs.size ≠ b := fun b h => Ne.symm (Nat.ne_of_lt h)
  refine dz_loop (w := w) (prog := prog) (A := A.in1) (s := ⟨h1, _, _, _, _⟩) (ka := ka) (kb := kb) (xs := xs) (ys := ys) hh D ⟨ne _ zl, ne _ lTI, ne _ TOl, ne _ i1l, ne _ i2l, ne _ l1l, ne _ l2l⟩ prs 0 [] _ _ (fun j q e => ?_) ?_ ?_ ?_ ?_ fun h' tk hd' k => ?_
  · obtain ⟨u, a1, a2, a3⟩ := hp j q e
    exact ⟨u, by rw [Nat.zero_add]; exact a1, by rw [Nat.zero_add]; exact a2, a3⟩
  · rw [Nat.zero_add]; exact hn
  · show 0 + prs.length ≤ sizeLine
    rw [Nat.zero_add]; exact hl
  · exact Z.keep ⟨ne _ zl, ne _ lTI, ne _ TOl, ne _ i1l, ne _ i2l, ne _ l1l, ne _ l2l⟩ (fun b o _ q => k2 b o q) fun o q => absurd (Heap.lt_size q) (Nat.lt_irrefl _)
  · exact hnew.at fun o q => k1 _ o q
  · exact ⟨rfl, hQ h' tk hd' fun b o b1 b2 b3 b4 q => k b o (Nat.ne_of_lt (Heap.lt_size q)) b1 b2 b3 b4 (k2 b o q)⟩
end
end PKZ
namespace PKZ
open PySem PySem.Spec PyProof.Rows L2
def rDictZip (K : PySem.W.Frag) : List V → Hp → VK → Prop := fun vs H Q => ∃ (a b : Addr) (ks : List Key) (ys : List V), vs = [.ref a, .ref b] ∧ Sq2 K H a (ks.map kV) ∧ Sq2 K H b ys ∧ min ks.length ys.length ≤ sizeLine ∧
  ∀ p, H p = none → Q (.ref p) (upd H p (.dK (mergeK [] (ks.zip ys))))
def tDictZip (K : PySem.W.Frag) (ta : TA) : TE := fun σ H Q => ta σ H fun vs H1 => rDictZip K vs H1 Q
theorem kv_zip {X : Cx} : ∀ {ks : List Key} {ys : List V} {ia ib : List Value}, Vals (ks.map kV) ia → Vals ys ib →
    ∃ prs : List (Key × Value), KV (ks.zip ys) prs ∧ min ia.length ib.length = prs.length ∧ ∀ (j : Nat) (q : Key × Value), prs[j]? = some q → ∃ u, ia[j]? = some u ∧ ib[j]? = some q.2 ∧ keyIs q.1 u = true
  | [], ys, ia, ib, va, vb => by
    cases va
    exact ⟨[], by rw [List.zip_nil_left]; exact .nil, by simp, fun j q e => by simp at e⟩
  | k :: ks, [], ia, ib, va, vb => by
    cases vb
    exact ⟨[], by rw [List.zip_nil_right]; exact .nil, by simp, fun j q e => by simp at e⟩
  | k :: ks, y :: ys, ia, ib, va, vb => by
    rw [List.map_cons] at va
    cases va with
    | cons r t => cases vb with
      | cons r2 t2 =>
        rename_i u us u2 us2
        obtain ⟨prs, k1, k2, k3⟩ := kv_zip (X := X) t t2
        refine ⟨(k, u2) :: prs, ?_, ?_, fun j q e => ?_⟩
        · rw [List.zip_cons_cons]
          exact .cons ⟨rfl, r2⟩ k1
        · rw [List.length_cons, List.length_cons, List.length_cons, ← k2]
          omega
        · cases j with
          | zero =>
            have e' : (k, u2) = q := Option.some.inj e
            subst e'
            exact ⟨u, rfl, rfl, kV_is (P := X.prog) (w := X.w) r⟩
          | succ j =>
            obtain ⟨b, e1, e2, e3⟩ := k3 j q (by simpa using e)
            exact ⟨b, by simpa using e1, by simpa using e2, e3⟩
/-- dict(zip(e, e2)) -/
theorem pe_dictZip {X : Cx} {e e2 : Expr} {ta : TA} {p p2 pos pos2 : Pos} (hc : X.calm = true) (hg : Gl X "dict") (hm : X.mg "dict" = none) (hv : bootBuiltins "dict" = some (.type "dict")) (hg2 : Gl X "zip") (hm2 : X.mg "zip" = none) (ha : PA X [e, e2] ta)
    (hs : starEach [.Call (.Name "zip" p2) [e, e2] [] pos2] X.env = (false, eval (.Call (.Name "zip" p2) [e, e2] [] pos2) X.env) :: starEach [] X.env := by rfl)
    (hs2 : starEach [e, e2] X.env = (false, eval e X.env) :: starEach [e2] X.env := by rfl) (hpl : (backTo pos2 (starEach [e2] X.env)).any (·.1) = false := by rfl) :
    PE X (.Call (.Name "dict" p) [.Call (.Name "zip" p2) [e, e2] [] pos2] [] pos) (tDictZip X.K ta) := by
  refine ⟨fun pins s σ H Q I hq => ?_⟩
  refine wpAny_Call_Name_kw (ld_blt I hg hm hv (PyProof.Rows.callWith_type1 ?_ hs rfl))
  rw [hs]
  show wpAny _ _ (spliced ((false, eval (.Call (.Name "zip" p2) [e, e2] [] pos2) X.env) :: backTo pos (starEach [] X.env))) _ _ s
  refine Calls.spliced_cons (Call_ (ld_blt I hg2 hm2 PyProof.Rows.boot_zip (PyProof.Rows.callWith_type1 (thn (ha.run pos2 pins s σ H _ I hq) fun us s1 ⟨vs, H1, I1, r1, q1⟩ => ?_) hs2 hpl)))
  obtain ⟨a, b, ks, ys, rfl, qa, qb, hmin, q⟩ := q1
  obtain ⟨u, us, rfl, ru, rr⟩ : ∃ u us', us = u :: us' ∧ RelV (V.ref a) u ∧ Vals [V.ref b] us' := by cases r1 with | cons r t => exact ⟨_, _, rfl, r, t⟩
  obtain ⟨u2, rfl, ru2⟩ : ∃ u2, us = [u2] ∧ RelV (V.ref b) u2 := by cases rr with | cons r t => cases t; exact ⟨_, rfl, r⟩
  obtain rfl : u = Value.ref a := ru
  obtain rfl : u2 = Value.ref b := ru2
  obtain ⟨ka, ia, va, sa⟩ := sq_of I1 qa
  obtain ⟨kb, ib, vb, sb⟩ := sq_of I1 qb
  have la := va.length
  rw [List.length_map] at la
  have lb := vb.length
  obtain ⟨prs, rel, hl, hpr⟩ := kv_zip (X := X) va vb
  have hlen : prs.length ≤ sizeLine := by rw [← hl, ← la, ← lb]; exact hmin
  refine call_zg sa sb fun g Z zo sz kp => Calls.spliced_nil ?_
  have hal := Kd.sq_lt sa
  have hbl := Kd.sq_lt sb
  have hS : s1.heap.objs.size ≤ g.objs.size := by rw [sz]; exact Nat.le_add_right _ _
  refine dz_call (s := { s1 with heap := g }) (prs := prs) (I1.ok.hd hc) (PySem.W.ktu_apart s1.heap.objs.size a b hal hbl) Z zo (Heap.lt_size Z.ti) (Nat.lt_of_lt_of_le hal hS) (Nat.lt_of_lt_of_le hbl hS) (fun j q e => ?_) (by rw [List.size_toArray, List.size_toArray]; exact hl) hlen fun h' tk hd' k => ?_
  · obtain ⟨u, e1, e2, e3⟩ := hpr j q e
    exact ⟨u, by simpa using e1, by simpa using e2, e3⟩
  · dsimp only at hd' k ⊢
    have hk : ∀ b o, s1.heap.get? b = some o → h'.get? b = some o := fun b o e => by
      have lt := Heap.lt_size e
      exact k b o (Nat.ne_of_lt (Nat.lt_of_lt_of_le lt (Nat.le_add_right _ _))) (Nat.ne_of_lt (Nat.lt_of_lt_of_le lt (Nat.le_add_right _ _))) (Nat.ne_of_lt lt) (Nat.ne_of_lt (Nat.lt_of_lt_of_le lt (Nat.le_add_right _ _))) (kp _ _ e)
    have nS : H1 g.objs.size = none := I1.hok.fresh hS
    have hm : (g.objs.size == sysModules) = false := beq_eq_false_iff_ne.mpr (Nat.ne_of_gt (Nat.lt_of_lt_of_le I1.big hS))
    have hz : (mergeK [] (ks.zip ys)).length ≤ sizeLine := by
      refine Nat.le_trans (length_mergeK _ []) ?_
      rw [List.length_nil, Nat.zero_add, rel.length]
      exact hlen
    exact ⟨.ref g.objs.size, upd H1 g.objs.size (.dK (mergeK [] (ks.zip ys))), I1.laid (t' := tk) hk hS (show ObjOk X.prog X.w _ _ _ (.dK (mergeK [] (ks.zip ys))) from ⟨hz, hm, merged [] prs, KV.merge rel .nil, hd'⟩), rfl, q _ nS⟩
end PKZ
/-! del xs[-m:], m from 1 to the length: the list's last m items go -/
namespace L2.PKR
open PySem PySem.Spec PyProof.Rows
theorem keep_first {sel : Nat → Bool} {a : Nat} : ∀ (its : List Value) (j : Nat), (∀ k, k < j + its.length → sel k = decide (a ≤ k)) →
    (its.zipIdx j).filterMap (fun p => if sel p.2 = true then none else some p.1) = its.take (a - j)
  | [], _, _ => by simp
  | x :: r, j, h => by
    have ih := keep_first r (j + 1) (fun k hk => h k (by rw [List.length_cons]; omega))
    have e := h j (by rw [List.length_cons]; omega)
    rw [List.zipIdx_cons]
    by_cases q : a ≤ j
    · rw [decide_eq_true q] at e
      rw [List.filterMap_cons_none (by simp only [e, if_true]), ih, show a - (j + 1) = 0 by omega, show a - j = 0 by omega, List.take_zero, List.take_zero]
    · rw [decide_eq_false q] at e
      rw [List.filterMap_cons_some (b := x) (by simp only [e]; rfl), ih, show a - j = (a - (j + 1)) + 1 by omega, List.take_succ_cons]
theorem tail_bounds {m n : Nat} (h : m ≤ n) (h0 : 0 < m) : sliceBounds (some (-(m : Int))) none none n = (((n - m : Nat) : Int), (n : Int), 1) := by
  simp only [sliceBounds, Option.getD_none]
  have h1 : (-(m : Int)) < 0 := by omega
  simp only [h1, if_true, show (1 : Int) > 0 by decide]
  congr 1
  omega
section
variable {prog : Program} {w : World} {A : Around} {E : Value → Shared → Prop} {s : Shared}
theorem del_tail {l sl : Addr} {its : List Value} {n m : Nat} {vl : Value} {Q : Unit → Shared → Prop} (e : s.heap.get? l = some { cls := .type "list", data := .seq its.toArray n }) (hs : s.heap.IsSliceOf sl vl .none .none)
    (pl : IsPart vl (some (-(m : Int)))) (h0 : 0 < m) (hm : m ≤ its.length) (hz : its.length ≤ sizeLine)
    (h : ∀ f : Array Value → Array Value, f its.toArray = (its.take (its.length - m)).toArray → Q () { s with heap := s.heap.update l (Obj.mapSeq f) }) : wpAny (model prog w) A (delItem (.ref l) (.ref sl)) Q E s := by
  have hl : s.heap.IsList l its.toArray := PySem.IsL.isList e
  obtain ⟨os, hos, hcs, hds⟩ := id hs
  have ty : s.TypeIs (.ref sl) "slice" := ⟨os, hos, hcs⟩
  refine wpAny_delItem_slot hl.typeIs (by decide) F.slot_list_delitem (wpAny_call_entry F.slot_list_delitem hl.typeIs F.entry_list_delitem ?_ (F.args_list_delitem_2 _ _))
  show wpAny _ _ (Builtin.List.listSubscript? (.ref sl) >>= _) _ _ s
  unfold Builtin.List.listSubscript?
  refine wpAny_bind (wpAny_bind (wpAny_specialOf ty slice_no_index ?_))
  simp only [Option.isNone_none, if_true]
  refine wpAny_pure ?_
  show wpAny _ _ (typeOf (.ref sl) >>= _) _ _ s
  refine wpAny_bind (wpAny_typeOf ty ?_)
  first | (rw [if_neg (by decide)]) | (refine PySem.W.KFB.if_not (by decide) ?_)
  rw [listSliceParts_eq]
  refine wpAny_bind (wpAny_bind (wpAny_field hos hds (x := .none) rfl (wpAny_bind (wpAny_listPart .none ?_)))); rw [if_neg (show ¬ ((rawPart none == rawInt 0) = true) from Bool.false_ne_true)]
  refine wpAny_bind (wpAny_field hos hds (x := vl) rfl (wpAny_bind (wpAny_listPart pl (wpAny_bind (wpAny_field hos hds (x := .none) rfl (wpAny_bind (wpAny_listPart .none (wpAny_pure ?_))))))))
  unfold Builtin.List.listItems
  refine wpAny_bind (wpAny_bind (wpAny_seqItems e rfl (wpAny_pure ?_)))
  refine wpAny_bind (wpAny_of_eq ((sliceIndices_raw (some (-(m : Int))) none none its.toArray.size (by simp)).trans (congrArg (pure : Int × Int × Int → Sem (Int × Int × Int)) (tail_bounds (n := its.toArray.size) (by simpa using hm) h0))) ?_)
  refine wpAny_bind (wpAny_rule ?_)
  have lt : its.toArray.size = its.length := List.size_toArray
  show wpAny _ _ (updateSeq l _ >>= _) _ _ _
  refine wpAny_bind (wpAny_updateSeq (hz := by rw [lt]; exact hz) (_hz' := ?fit) e rfl (wpAny_bind (wpAny_letGo (wpAny_pure ⟨.none, rfl, h _ (congrArg List.toArray ?same)⟩))))
  case fit =>
    rw [List.size_toArray]
    exact Nat.le_succ_of_le (Nat.le_trans (List.length_filterMap_le _ _) (by rw [List.length_zipIdx]; exact hz))
  case same =>
    refine (keep_first (a := its.length - m) its 0 fun k hk => ?_)
    show (if (1 : Int) > 0 then (decide (((its.toArray.size - m : Nat) : Int) ≤ (k : Int)) && decide ((k : Int) < (its.toArray.size : Int)) && (((k : Int) - ((its.toArray.size - m : Nat) : Int)) % 1 == 0)) else _) = _
    rw [if_pos (by decide), lt, Int.emod_one]
    have k2 : (k : Int) < (its.length : Int) := by omega
    rw [decide_eq_true k2, Bool.and_true]
    by_cases q : its.length - m ≤ k
    · rw [decide_eq_true q, decide_eq_true (show ((its.length - m : Nat) : Int) ≤ (k : Int) by omega)]; rfl
    · rw [decide_eq_false q, decide_eq_false (show ¬ ((its.length - m : Nat) : Int) ≤ (k : Int) by omega)]; rfl
end
def tDelTail (to ti : TE) : TS := fun D σ H => to σ H fun x H1 => ti σ H1 fun y H2 => ∃ (l : Addr) (xs : List V) (m : Nat), x = .ref l ∧ y = .int (-(m : Int)) ∧ H2 l = some (.lst xs) ∧ 0 < m ∧ m ≤ xs.length ∧ D.nx σ (upd H2 l (.lst (xs.take (xs.length - m))))
theorem ps_delTail {X : Cx} {o i : Expr} {to ti : TE} {p2 tpos pos : Pos} (ho : PE X o to) (hi : PE X i ti) : PS X (.Delete [.Subscript o (.Slice (some i) none none p2) tpos] pos) (tDelTail to ti) := by
  refine ⟨fun pins s σ H D I h => wpAny_Delete (wpAny_deleteEach_cons (wpAny_delete_Subscript (thn (ho.run pins s σ H _ I h) fun u s1 ⟨x, H1, I1, rx, q1⟩ => wpAny_Slice ?_)))⟩
  rw [evalPart_some]
  refine thn (hi.run pins s1 σ H1 _ I1 q1) fun v s2 ⟨y, H2, I2, ry, l, xs, m, ex, ey, hH, h0, hm, q2⟩ => ?_
  subst ex ey
  cases (show u = Value.ref l from rx)
  obtain ⟨t, rfl⟩ := (show ∃ t, v = Value.int (-(m : Int)) t from ry)
  rw [evalPart_none]
  refine wpAny_pure (wpAny_pure ?_)
  have I3 : Inv X pins σ H2 { s2 with heap := s2.heap.push { cls := .type "slice", data := .fields #[.int (-(m : Int)) t, .none, .none] } } := I2.kept (t' := s2.toks) fun b ob z => Heap.get?_push_of_some _ z
  obtain ⟨hz, its, n, r, hl, e⟩ := I3.lstM hH
  refine del_tail (m := m) e (Heap.IsSliceOf.new ..) (.int _ _) h0 (by omega) (by omega) fun f hf => wpAny_deleteEach_nil ⟨σ, _, I3.lset (its' := its.take (its.length - m)) (t' := s2.toks) hH e hf (by rw [← hl]; exact r.take _) (by rw [List.length_take]; omega), q2⟩
end L2.PKR
/-! What runs leaves every suspended generator alone that it could not have woken: shown by a run where those would come to nothing -/
namespace GenF
open PySem
def noGen (fs : List Frame) : Bool := fs.all fun F => match F with | .ret .. => true | .gen .. => false
def noGenE : End → Prop
  | .ret _ => True
  | .susp _ _ _ _ _ _ fs => noGen fs = true
def NoG : GenState → Prop
  | .suspended _ _ _ _ fs _ => noGen fs = true
  | _ => True
def IsSusp : GenState → Prop
  | .suspended .. => True
  | _ => False
/-- suspended where it was, but with nothing behind it -/
def pz : GenState → GenState
  | .suspended _ l c p fs cl => .suspended (fun _ => .unsupported "") l c p fs cl
  | x => x
abbrev Zs := Nat → Option GenState
def mixA (Z : Zs) (a : Array GenState) : Array GenState := a.mapIdx fun i x => (Z i).getD x
def mix (Z : Zs) (s : Shared) : Shared := { s with gens := mixA Z s.gens }
structure Good (Z : Zs) (a : Array GenState) : Prop where
  held : ∀ i x, Z i = some x → a[i]? = some (pz x) ∧ IsSusp x
  free : ∀ i x, Z i = none → a[i]? = some x → NoG x
theorem mixA_get {Z : Zs} {a : Array GenState} {i : Nat} : (mixA Z a)[i]? = a[i]?.map fun x => (Z i).getD x := by
  unfold mixA; rw [Array.getElem?_mapIdx]
theorem mixA_free {Z : Zs} {a : Array GenState} {i : Nat} (h : Z i = none) : (mixA Z a)[i]? = a[i]? := by
  rw [mixA_get, h]; simp
theorem mixA_held {Z : Zs} {a : Array GenState} {i : Nat} {x : GenState} (g : Good Z a) (h : Z i = some x) : (mixA Z a)[i]? = some x := by
  rw [mixA_get, (g.held i x h).1, h]; rfl
theorem mixA_size {Z : Zs} {a : Array GenState} : (mixA Z a).size = a.size := by unfold mixA; simp
theorem mixA_set {Z : Zs} {a : Array GenState} {g : Nat} {x : GenState} (h : Z g = none) : mixA Z (a.setIfInBounds g x) = (mixA Z a).setIfInBounds g x := by
  apply Array.ext_getElem?
  intro i
  rw [mixA_get, Array.getElem?_setIfInBounds, Array.getElem?_setIfInBounds, mixA_get, mixA_size]
  by_cases e : g = i
  · subst e
    rw [if_pos rfl, if_pos rfl, h]
    split <;> rfl
  · rw [if_neg e, if_neg e]
theorem mixA_push {Z : Zs} {a : Array GenState} {x : GenState} (h : Z a.size = none) : mixA Z (a.push x) = (mixA Z a).push x := by
  apply Array.ext_getElem?
  intro i
  rw [mixA_get, Array.getElem?_push, Array.getElem?_push, mixA_get, mixA_size]
  by_cases e : i = a.size
  · subst e
    rw [if_pos rfl, if_pos rfl]
    simp [h]
  · rw [if_neg e, if_neg e]
theorem Good.none_of {Z : Zs} {a : Array GenState} {i : Nat} {x : GenState} (g : Good Z a) (h : a[i]? = some x) (n : ∀ k l c p fs cl, x ≠ .suspended k l c p fs cl) : Z i = none := by
  cases e : Z i with
  | none => rfl
  | some y =>
    obtain ⟨h1, h2⟩ := g.held i y e
    rw [h] at h1
    cases y with
    | suspended k l c p fs cl => exact absurd (Option.some.inj h1) (n _ _ _ _ _ _)
    | _ => exact h2.elim
theorem Good.none_size {Z : Zs} {a : Array GenState} (g : Good Z a) : Z a.size = none := by
  cases e : Z a.size with
  | none => rfl
  | some y =>
    have h1 := (g.held _ y e).1
    rw [Array.getElem?_eq_none (Nat.le_refl _)] at h1
    cases h1
theorem Good.set {Z : Zs} {a : Array GenState} {i : Nat} {x : GenState} (g : Good Z a) (h : Z i = none) (n : NoG x) : Good Z (a.setIfInBounds i x) := by
  refine ⟨fun j y e => ⟨?_, (g.held j y e).2⟩, fun j y e q => ?_⟩
  · have : i ≠ j := fun q => by rw [q, e] at h; cases h
    rw [Array.getElem?_setIfInBounds, if_neg this]
    exact (g.held j y e).1
  · rw [Array.getElem?_setIfInBounds] at q
    by_cases q' : i = j
    · rw [if_pos q'] at q
      split at q
      · cases q; exact n
      · cases q
    · rw [if_neg q'] at q
      exact g.free j y e q
theorem Good.push {Z : Zs} {a : Array GenState} {x : GenState} (g : Good Z a) (n : NoG x) : Good Z (a.push x) := by
  refine ⟨fun j y e => ⟨?_, (g.held j y e).2⟩, fun j y e q => ?_⟩
  · have h1 := (g.held j y e).1
    rw [Array.getElem?_push, if_neg, h1]
    intro q
    rw [q, Array.getElem?_eq_none (Nat.le_refl _)] at h1
    cases h1
  · rw [Array.getElem?_push] at q
    split at q
    · cases q; exact n
    · exact g.free j y e q
theorem mix_set {Z : Zs} {s : Shared} {g : Nat} {x : GenState} (h : Z g = none) : mix Z (s.setGen g x) = (mix Z s).setGen g x := by
  show ({ s with gens := mixA Z (s.gens.setIfInBounds g x) } : Shared) = { s with gens := (mixA Z s.gens).setIfInBounds g x }
  rw [mixA_set h]
theorem noGen_split {fs : List Frame} (h : noGen fs = true) : splitAtGen fs = none := by
  induction fs with
  | nil => rfl
  | cons F r ih =>
    have h2 : noGen r = true := by
      unfold noGen at h ⊢; rw [List.all_cons, Bool.and_eq_true] at h; exact h.2
    cases F with
    | ret k hh g l c p kp => simp [splitAtGen, ih h2]
    | gen g k l c p => simp [noGen] at h
theorem noGen_cons {F : Frame} {fs : List Frame} (h : noGen (F :: fs) = true) : noGen fs = true := by
  unfold noGen at h ⊢; rw [List.all_cons, Bool.and_eq_true] at h; exact h.2
theorem noGen_app {a b : List Frame} (ha : noGen a = true) (hb : noGen b = true) : noGen (a ++ b) = true := by
  unfold noGen at *; rw [List.all_append, ha, hb]; rfl
theorem noG_end {e : End} (h : noGenE e) : NoG e.genState := by
  cases e with
  | ret r => trivial
  | susp v g l k c p fs => exact h
theorem runs_unsup {M : Model} {m : String} : ∀ {Γ : Ctx} {p : Pos} {t : Sem PySem.Fin} {fs : List Frame} {s s' : Shared} {e : End}, Runs M Γ p t fs s e s' → t = .unsupported m → False := by
  intro Γ p t fs s s' e h
  induction h <;> intro q <;> first | (cases q; done) | (rename_i ih _; exact ih q) | (rename_i ih; exact ih q) | skip
theorem runs_mix {M : Model} {Γ : Ctx} {p : Pos} {t : Sem PySem.Fin} {fs : List Frame} {s s' : Shared} {e : End} (h : Runs M Γ p t fs s e s') :
    ∀ Z : Zs, Good Z s.gens → noGen fs = true → Good Z s'.gens ∧ noGenE e ∧ Runs M Γ p t fs (mix Z s) e (mix Z s') := by
  induction h with
  | done => exact fun Z g n => ⟨g, trivial, .done⟩
  | raise => exact fun Z g n => ⟨g, trivial, .raise⟩
  | again q _ ih => exact fun Z g n => let ⟨a, b, c⟩ := ih Z g n; ⟨a, b, .again q c⟩
  | rule _ ih => exact fun Z g n => let ⟨a, b, c⟩ := ih Z g n; ⟨a, b, .rule c⟩
  | «at» _ ih => exact fun Z g n => let ⟨a, b, c⟩ := ih Z g n; ⟨a, b, .at c⟩
  | load q _ ih => exact fun Z g n => let ⟨a, b, c⟩ := ih Z g n; ⟨a, b, .load q c⟩
  | update q _ ih => exact fun Z g n => let ⟨a, b, c⟩ := ih Z g n; ⟨a, b, .update q c⟩
  | loadIfAlive _ ih => exact fun Z g n => let ⟨a, b, c⟩ := ih Z g n; ⟨a, b, .loadIfAlive c⟩
  | point _ ih => exact fun Z g n => let ⟨a, b, c⟩ := ih Z g n; ⟨a, b, .point c⟩
  | alloc _ ih => exact fun Z g n => let ⟨a, b, c⟩ := ih Z g n; ⟨a, b, .alloc c⟩
  | fresh _ ih => exact fun Z g n => let ⟨a, b, c⟩ := ih Z g n; ⟨a, b, .fresh c⟩
  | ask _ ih => exact fun Z g n => let ⟨a, b, c⟩ := ih Z g n; ⟨a, b, .ask c⟩
  | choose q _ ih => exact fun Z g n => let ⟨a, b, c⟩ := ih Z g n; ⟨a, b, .choose q c⟩
  | os _ ih => exact fun Z g n => let ⟨a, b, c⟩ := ih Z g n; ⟨a, b, .os c⟩
  | handled _ ih => exact fun Z g n => let ⟨a, b, c⟩ := ih Z g n; ⟨a, b, .handled c⟩
  | stack _ ih => exact fun Z g n => let ⟨a, b, c⟩ := ih Z g n; ⟨a, b, .stack c⟩
  | thread _ ih => exact fun Z g n => let ⟨a, b, c⟩ := ih Z g n; ⟨a, b, .thread c⟩
  | «yield» => exact fun Z g n => ⟨g, rfl, .yield⟩
  | @genState g0 st Γ p k s e s' q _ ih =>
    intro Z g n
    obtain ⟨a, b, c⟩ := ih Z g n
    cases ez : Z g0 with
    | none => exact ⟨a, b, .genState ((mixA_free ez).trans q) c⟩
    | some y =>
      have h1 := (g.held g0 y ez)
      rw [q] at h1
      refine ⟨a, b, .genState (st := y) (mixA_held g ez) ?_⟩
      rw [Option.some.inj h1.1] at c
      cases y with
      | suspended k l c p fs cl => exact c
      | _ => exact h1.2.elim
  | @newGen Γ p k s e s' c _ ih =>
    intro Z g n
    obtain ⟨a, b, r⟩ := ih Z (g.push trivial) n
    refine ⟨a, b, .newGen ?_⟩
    have e1 : (mix Z s).gens.size = s.gens.size := mixA_size
    rw [e1]
    have e2 : ({ (mix Z s) with gens := (mix Z s).gens.push (GenState.fresh c) } : Shared) = mix Z { s with gens := s.gens.push (GenState.fresh c) } := by
      show ({ s with gens := (mixA Z s.gens).push _ } : Shared) = { s with gens := mixA Z (s.gens.push _) }
      rw [mixA_push g.none_size]
    rw [e2]; exact r
  | call _ _ ih1 ih2 =>
    intro Z g n
    obtain ⟨a, _, r⟩ := ih1 Z g rfl
    obtain ⟨a2, b2, r2⟩ := ih2 Z a rfl
    exact ⟨a2, b2, .call r r2⟩
  | callSusp _ ih1 =>
    intro Z g n
    obtain ⟨a, b, r⟩ := ih1 Z g rfl
    exact ⟨a, noGen_app b rfl, .callSusp r⟩
  | @resumeFresh Γ p g0 l k s c e₁ s₁ e s' q _ qu _ ih1 ih2 =>
    intro Z g n
    have hz := g.none_of q (by intros; exact fun q => nomatch q)
    obtain ⟨a, b, r⟩ := ih1 Z (g.set hz trivial) rfl
    obtain ⟨a2, b2, r2⟩ := ih2 Z (a.set hz (noG_end b)) rfl
    rw [mix_set hz] at r r2
    exact ⟨a2, b2, .resumeFresh ((mixA_free hz).trans q) r qu r2⟩
  | @resumeSuspended Γ p g0 rr l k s k₀ l₀ c₀ p₀ fs cl e₁ s₁ e s' q r1 qu _ ih1 ih2 =>
    intro Z g n
    cases ez : Z g0 with
    | some y =>
      have h1 := (g.held g0 y ez)
      rw [q] at h1
      cases y with
      | suspended k l c p fs cl =>
        have hh := Option.some.inj h1.1
        cases hh
        exact (runs_unsup r1 rfl).elim
      | _ => exact h1.2.elim
    | none =>
      obtain ⟨a, b, r⟩ := ih1 Z (g.set ez trivial) (g.free g0 _ ez q)
      obtain ⟨a2, b2, r2⟩ := ih2 Z (a.set ez (noG_end b)) rfl
      rw [mix_set ez] at r r2
      exact ⟨a2, b2, .resumeSuspended ((mixA_free ez).trans q) r qu r2⟩
  | resumeJustStarted q v _ ih =>
    intro Z g n
    have hz := g.none_of q (by intros; exact fun q => nomatch q)
    obtain ⟨a, b, r⟩ := ih Z g rfl
    exact ⟨a, b, .resumeJustStarted ((mixA_free hz).trans q) v r⟩
  | resumeThrowFresh q _ ih =>
    intro Z g n
    have hz := g.none_of q (by intros; exact fun q => nomatch q)
    obtain ⟨a, b, r⟩ := ih Z (g.set hz trivial) rfl
    rw [mix_set hz] at r
    exact ⟨a, b, .resumeThrowFresh ((mixA_free hz).trans q) r⟩
  | resumeRunning q _ ih =>
    intro Z g n
    have hz := g.none_of q (by intros; exact fun q => nomatch q)
    obtain ⟨a, b, r⟩ := ih Z g rfl
    exact ⟨a, b, .resumeRunning ((mixA_free hz).trans q) r⟩
  | resumeFinished q _ ih =>
    intro Z g n
    have hz := g.none_of q (by intros; exact fun q => nomatch q)
    obtain ⟨a, b, r⟩ := ih Z g rfl
    exact ⟨a, b, .resumeFinished ((mixA_free hz).trans q) r⟩
  | segRet _ _ ih1 ih2 =>
    intro Z g n
    obtain ⟨a, b, r⟩ := ih1 Z g rfl
    obtain ⟨a2, b2, r2⟩ := ih2 Z a (noGen_cons n)
    exact ⟨a2, b2, .segRet r r2⟩
  | segGen _ _ ih1 ih2 =>
    intro Z g n
    simp [noGen] at n
  | segSuspOut q _ ih1 =>
    intro Z g n
    obtain ⟨a, b, r⟩ := ih1 Z g rfl
    exact ⟨a, noGen_app b n, .segSuspOut q r⟩
  | segSuspGen q _ _ _ ih1 ih2 =>
    intro Z g n
    rw [noGen_split n] at q
    cases q
/-- what a state is with every generator that is suspended in it barred -/
def barred (s : Shared) : Shared := { s with gens := s.gens.map pz }
def zs (s : Shared) : Zs := fun i => match s.gens[i]? with
  | some (.suspended k l c p fs cl) => some (.suspended k l c p fs cl)
  | _ => none
theorem zs_some {s : Shared} {i : Nat} {x : GenState} (h : s.gens[i]? = some x) (k : IsSusp x) : zs s i = some x := by
  unfold zs; rw [h]; cases x with
  | suspended => rfl
  | _ => exact k.elim
theorem zs_inv {s : Shared} {i : Nat} {x : GenState} (h : zs s i = some x) : s.gens[i]? = some x ∧ IsSusp x := by
  unfold zs at h
  cases e : s.gens[i]? with
  | none => rw [e] at h; cases h
  | some y =>
    rw [e] at h
    cases y with
    | suspended => cases h; exact ⟨rfl, trivial⟩
    | _ => cases h
theorem good_barred (s : Shared) : Good (zs s) (barred s).gens := by
  refine ⟨fun i x h => ?_, fun i x h q => ?_⟩
  · obtain ⟨a, b⟩ := zs_inv h
    refine ⟨?_, b⟩
    show (s.gens.map pz)[i]? = _
    rw [Array.getElem?_map, a]; rfl
  · have q' : (s.gens.map pz)[i]? = some x := q
    rw [Array.getElem?_map] at q'
    cases e : s.gens[i]? with
    | none => rw [e] at q'; cases q'
    | some y =>
      rw [e] at q'
      cases q'
      cases y with
      | suspended => rw [zs_some e trivial] at h; cases h
      | _ => trivial
theorem mix_barred (s : Shared) : mix (zs s) (barred s) = s := by
  show ({ s with gens := mixA (zs s) (s.gens.map pz) } : Shared) = s
  have : mixA (zs s) (s.gens.map pz) = s.gens := by
    apply Array.ext_getElem?
    intro i
    rw [mixA_get, Array.getElem?_map]
    cases e : s.gens[i]? with
    | none => rfl
    | some y =>
      cases y with
      | suspended => rw [zs_some e trivial]; rfl
      | fresh => simp [zs, e, pz]
      | running => simp [zs, e, pz]
      | finished => simp [zs, e, pz]
  rw [this]
end GenF
namespace GenF
open PySem
variable {M : Model} {Z : Zs}
theorem wpCode_mix {Γ : Ctx} {R : Result → Shared → Prop} {p : Pos} {s : Shared} (g : Good Z s.gens) (h : wpCode M Γ R p s) :
    wpCode M Γ (fun r s' => ∃ s1, s' = mix Z s1 ∧ Good Z s1.gens ∧ R r s1) p (mix Z s) := by
  obtain ⟨r, s1, h1, h2⟩ := h
  obtain ⟨a, b, c⟩ := runs_mix h1 Z g rfl
  exact ⟨r, mix Z s1, c, s1, rfl, a, h2⟩
theorem wakes_mix {Γ : Ctx} {p : Pos} {g0 : Nat} {r : Resume} {s s' : Shared} {res : GenResult} (g : Good Z s.gens) (h : Wakes M Γ p g0 r s res s') :
    Good Z s'.gens ∧ Wakes M Γ p g0 r (mix Z s) res (mix Z s') := by
  unfold Wakes at h ⊢
  cases q : s.gens[g0]? with
  | none => rw [q] at h; exact h.elim
  | some x =>
    rw [q] at h
    cases x with
    | fresh c =>
      have hz := g.none_of q (by intros; exact fun q => nomatch q)
      rw [show (mix Z s).gens[g0]? = _ from (mixA_free hz).trans q]
      cases r with
      | throw x =>
        obtain ⟨h1, h2⟩ := h
        subst h2
        exact ⟨g.set hz trivial, h1, by rw [mix_set hz]⟩
      | send v =>
        cases v with
        | none =>
          obtain ⟨e1, s1, h1, h2, h3, h4⟩ := h
          obtain ⟨a, b, c⟩ := runs_mix h1 Z (g.set hz trivial) rfl
          rw [mix_set hz] at c
          subst h4
          exact ⟨a.set hz (noG_end b), e1, mix Z s1, c, h2, h3, by rw [mix_set hz]⟩
        | _ =>
          obtain ⟨h1, h2⟩ := h
          subst h2
          exact ⟨g, h1, rfl⟩
    | suspended k l c p0 fs cl =>
      cases ez : Z g0 with
      | some y =>
        obtain ⟨e1, s1, h1, _⟩ := h
        have h2 := (g.held g0 y ez)
        rw [q] at h2
        cases y with
        | suspended k l c p fs cl =>
          have hh := Option.some.inj h2.1
          cases hh
          exact (runs_unsup h1 rfl).elim
        | _ => exact h2.2.elim
      | none =>
        rw [show (mix Z s).gens[g0]? = _ from (mixA_free ez).trans q]
        obtain ⟨e1, s1, h1, h2, h3, h4⟩ := h
        obtain ⟨a, b, c⟩ := runs_mix h1 Z (g.set ez trivial) (g.free g0 _ ez q)
        rw [mix_set ez] at c
        subst h4
        exact ⟨a.set ez (noG_end b), e1, mix Z s1, c, h2, h3, by rw [mix_set ez]⟩
    | running =>
      have hz := g.none_of q (by intros; exact fun q => nomatch q)
      rw [show (mix Z s).gens[g0]? = _ from (mixA_free hz).trans q]
      obtain ⟨h1, h2⟩ := h
      subst h2
      exact ⟨g, h1, rfl⟩
    | finished =>
      have hz := g.none_of q (by intros; exact fun q => nomatch q)
      rw [show (mix Z s).gens[g0]? = _ from (mixA_free hz).trans q]
      obtain ⟨h1, h2⟩ := h
      subst h2
      exact ⟨g, h1, rfl⟩
theorem wp_mix {α : Type} {Γ : Ctx} {Q : α → Pos → Shared → Prop} {E : Value → Pos → Shared → Prop} (t : Sem α) : ∀ {p : Pos} {s : Shared}, Good Z s.gens → Sem.wp M Γ t Q E p s →
    Sem.wp M Γ t (fun a p' s' => ∃ s1, s' = mix Z s1 ∧ Good Z s1.gens ∧ Q a p' s1) (fun e p' s' => ∃ s1, s' = mix Z s1 ∧ Good Z s1.gens ∧ E e p' s1) p (mix Z s) := by
  induction t with
  | pure a => intro p s g h; exact ⟨s, rfl, g, h⟩
  | raise e => intro p s g h; exact ⟨s, rfl, g, h⟩
  | unsupported => intro p s g h; exact h.elim
  | finish => intro p s g h; exact h.elim
  | rule tag k ih => intro p s g h; exact ih () g h
  | «at» p' k ih => intro p s g h; exact ih () g h
  | load a part k ih => intro p s g h; obtain ⟨o, h1, h2⟩ := h; exact ⟨o, h1, ih o g h2⟩
  | update a part f k ih => intro p s g h; obtain ⟨h1, h2⟩ := h; exact ⟨h1, ih () (s := { s with heap := s.heap.update a f }) g h2⟩
  | alloc o k ih => intro p s g h; exact ih _ (s := { s with heap := s.heap.push o }) g h
  | loadIfAlive a k ih => intro p s g h; exact ih _ g h
  | point l k ih => intro p s g h; exact ih () g h
  | register => intro p s g h; exact h.elim
  | fresh k ih => intro p s g h; exact ih _ (s := { s with toks := s.toks + 1 }) g h
  | ask k ih => intro p s g h; exact ih _ g h
  | choose src n k ih => intro p s g h; obtain ⟨h1, h2⟩ := h; exact ⟨h1, ih _ (s := { s with drawn := s.drawn.bump src }) g h2⟩
  | os q l k ih => intro p s g h; exact ih _ (s := { s with os := (Os.step s.os q).fst }) g h
  | call c hh gg l k ih =>
    intro p s g h
    rw [Sem.wp_call] at h ⊢
    obtain ⟨r, s1, h1, h2⟩ := wpCode_mix g h
    obtain ⟨s2, e, g2, h3⟩ := h2
    subst e
    exact ⟨r, _, h1, ih r g2 h3⟩
  | handled own k ih => intro p s g h; exact ih _ g h
  | newGen c k ih =>
    intro p s g h
    have := ih s.gens.size (s := { s with gens := s.gens.push (GenState.fresh c) }) (g.push trivial) h
    show Sem.wp M Γ (k (mix Z s).gens.size) _ _ p { (mix Z s) with gens := (mix Z s).gens.push (GenState.fresh c) }
    have e1 : (mix Z s).gens.size = s.gens.size := mixA_size
    rw [e1]
    have e2 : ({ (mix Z s) with gens := (mix Z s).gens.push (GenState.fresh c) } : Shared) = mix Z { s with gens := s.gens.push (GenState.fresh c) } := by
      show ({ s with gens := (mixA Z s.gens).push _ } : Shared) = { s with gens := mixA Z (s.gens.push _) }
      rw [mixA_push g.none_size]
    rw [e2]; exact this
  | genState g0 k ih =>
    intro p s g h
    obtain ⟨st, q, h2⟩ := h
    have c := ih st.seen g h2
    cases ez : Z g0 with
    | none => exact ⟨st, (mixA_free ez).trans q, c⟩
    | some y =>
      have h1 := (g.held g0 y ez)
      rw [q] at h1
      refine ⟨y, mixA_held g ez, ?_⟩
      rw [Option.some.inj h1.1] at c
      cases y with
      | suspended k l c p fs cl => exact c
      | _ => exact h1.2.elim
  | resume g0 r l k ih =>
    intro p s g h
    rw [Sem.wp_resume] at h ⊢
    obtain ⟨res, s1, h1, h2⟩ := h
    obtain ⟨a, b⟩ := wakes_mix g h1
    exact ⟨res, mix Z s1, b, ih res a h2⟩
  | «yield» => intro p s g h; exact h.elim
  | stack k ih => intro p s g h; exact ih _ g h
  | fork => intro p s g h; exact h.elim
  | thread k ih => intro p s g h; exact ih _ g h
  | await => intro p s g h; exact h.elim
/-- what runs from a state with its suspended generators barred runs from the state, and they are as they were -/
theorem wpAny_kept {α : Type} {A : Around} {t : Sem α} {Q : α → Shared → Prop} {E : Value → Shared → Prop} {s : Shared} (h : wpAny M A t Q E (barred s)) :
    wpAny M A t (fun a s' => ∃ s1, s' = mix (zs s) s1 ∧ Good (zs s) s1.gens ∧ Q a s1) (fun e s' => ∃ s1, s' = mix (zs s) s1 ∧ Good (zs s) s1.gens ∧ E e s1) s := by
  intro Γ p i
  have := wp_mix (Z := zs s) t (good_barred s) (h Γ p i)
  rw [mix_barred] at this
  exact this
theorem bare_pz {x : GenState} (h : x.bare = true) : (pz x).bare = true := by cases x <;> exact h
theorem bare_barred {s : Shared} (h : PyProof.Rows.AllBare s.gens) : PyProof.Rows.AllBare (barred s).gens := by
  intro y hy
  obtain ⟨x, hx, e⟩ := Array.mem_map.mp (show y ∈ s.gens.map pz from hy)
  rw [← e]; exact bare_pz (h x hx)
theorem bare_mix {s s1 : Shared} (h : PyProof.Rows.AllBare s.gens) (h1 : PyProof.Rows.AllBare s1.gens) : PyProof.Rows.AllBare (mix (zs s) s1).gens := by
  intro y hy
  obtain ⟨i, hi⟩ := Array.getElem?_of_mem hy
  rw [show (mix (zs s) s1).gens[i]? = _ from mixA_get] at hi
  cases e : s1.gens[i]? with
  | none => rw [e] at hi; cases hi
  | some x =>
    rw [e] at hi
    cases ez : zs s i with
    | none => rw [ez] at hi; cases hi; exact h1 _ (Array.mem_of_getElem? e)
    | some z => rw [ez] at hi; cases hi; exact h _ (Array.mem_of_getElem? (zs_inv ez).1)
theorem mix_gen {s s1 : Shared} {g : Nat} {x : GenState} (h : s.gens[g]? = some x) (k : IsSusp x) (g1 : Good (zs s) s1.gens) : (mix (zs s) s1).gens[g]? = some x :=
  mixA_held g1 (zs_some h k)
end GenF
/-! a generator that sleeps, as its consumer sees it -/
namespace GenF
open PySem PySem.Spec PyProof.Rows GenW L2
/-- the heap below n -/
def cutH (h : Heap) (n : Nat) : Heap := { h with objs := h.objs.extract 0 n }
theorem cutH_get {h : Heap} {n b : Nat} (hb : b < n) : (cutH h n).get? b = h.get? b := by
  have e : (h.objs.extract 0 n)[b]? = h.objs[b]? := by
    rw [Array.getElem?_extract]
    simp only [Nat.sub_zero, Nat.zero_add]
    by_cases q : b < h.objs.size
    · rw [if_pos (by omega)]
    · rw [if_neg (by omega), Array.getElem?_eq_none (by omega)]
  unfold Heap.get? cutH
  rw [e]
theorem cutH_size {h : Heap} {n : Nat} (hn : n ≤ h.objs.size) : (cutH h n).objs.size = n := by
  show (h.objs.extract 0 n).size = n
  rw [Array.size_extract]; omega
theorem cutH_of {h : Heap} {n b : Nat} {o : Obj} (e : (cutH h n).get? b = some o) : b < n ∧ h.get? b = some o := by
  have lt : b < n := by
    refine Nat.lt_of_lt_of_le (Heap.lt_size e) ?_
    show (h.objs.extract 0 n).size ≤ n
    rw [Array.size_extract]; omega
  exact ⟨lt, by rw [← cutH_get lt]; exact e⟩
/-- what the frame at F owns: itself, and what stands under x -/
def OwnF (x : Str) (h : Heap) (F b : Addr) : Prop := b = F ∨ ∃ m, h.Ns F m ∧ m x = some (.ref b)
theorem OwnF.at {x : Str} {h h' : Heap} {F b : Addr} (k : ∀ o, h.get? F = some o → h'.get? F = some o) (ex : ∃ o, h.get? F = some o) (q : OwnF x h' F b) : OwnF x h F b := by
  rcases q with q | ⟨m, ⟨o, es, ep, ho, r⟩, hm⟩
  · exact .inl q
  · obtain ⟨o', e'⟩ := ex
    have e2 := k o' e'
    rw [ho] at e2
    cases e2
    exact .inr ⟨m, ⟨o, es, ep, e', r⟩, hm⟩
/-- the tuples of H -/
def tupsOf (H : Hp) : Hp := fun b => match H b with
  | some (.tup xs) => some (.tup xs)
  | some (.frz _ (.tup xs)) => some (.tup xs)
  | _ => none
theorem tupsOf_inv {H : Hp} {b : Addr} {u : HO} (e : tupsOf H b = some u) : ∃ xs, u = .tup xs ∧ Rd H b (.tup xs) := by
  unfold tupsOf at e
  cases q : H b with
  | none => rw [q] at e; cases e
  | some v =>
    rw [q] at e
    cases v with
    | tup xs => cases e; exact ⟨xs, rfl, .inl q⟩
    | frz o v =>
      cases v with
      | tup xs => cases e; exact ⟨xs, rfl, .inr ⟨o, q⟩⟩
      | _ => cases e
    | _ => cases e
theorem tupsOf_rd {H : Hp} {b : Addr} {xs : List V} (r : Rd H b (.tup xs)) : tupsOf H b = some (.tup xs) := by
  unfold tupsOf
  rcases r with r | ⟨o, r⟩ <;> rw [r]
theorem tupsOf_none {H : Hp} {b : Addr} (e : H b = none) : tupsOf H b = none := by unfold tupsOf; rw [e]
/-- all tuples of H stand in H' -/
def TK (H H' : Hp) : Prop := ∀ b xs, Rd H b (.tup xs) → Rd H' b (.tup xs)
theorem TK.refl (H : Hp) : TK H H := fun _ _ r => r
theorem TK.trans {H H1 H2 : Hp} (a : TK H H1) (b : TK H1 H2) : TK H H2 := fun c xs r => b c xs (a c xs r)
theorem TK.sq {K : PySem.W.Frag} {H H' : Hp} (t : TK H H') : ∀ a xs, SqT K (tupsOf H) a xs → SqT K H' a xs := fun a xs s => by
  rcases s with (s | ⟨o, s⟩) | s
  · obtain ⟨ys, e, r⟩ := tupsOf_inv s
    cases e
    exact .inl (t a xs r)
  · obtain ⟨ys, e, _⟩ := tupsOf_inv s
    cases e
  · exact .inr s
/-- a generator of the program's own, made by its consumer: what stands fixed -/
structure Gs where
  P : Program
  w : World
  K : PySem.W.Frag
  base : Heap
  A : Around
  stk : List Env
  F : Addr
  a : Addr
  g : Nat
  go : Obj
  x : Str
  H1 : Hp
  n : Nat
  it : Nat → V → Prop
abbrev Gs.M (G : Gs) : Model := model G.P G.w
/-- what its waking asks -/
structure Wk (G : Gs) (own : List (Addr × Obj)) (s : Shared) : Prop where
  bare : AllBare s.gens
  bs : ∀ b o, G.base.get? b = some o → s.heap.get? b = some o
  funs : s.heap.FunFrames G.base G.stk
  own : ∀ p ∈ own, s.heap.get? p.1 = some p.2
  data : ∀ b xs, Rd G.H1 b (.tup xs) → ObjOk G.P G.w G.H1 s.heap b (.tup xs)
/-- what a piece of its run leaves -/
structure Stp (G : Gs) (s s1 : Shared) : Prop where
  os : s1.os = s.os
  bare : AllBare s1.gens
  keep : ∀ b o, s.heap.get? b = some o → ¬ OwnF G.x s.heap G.F b → b ∉ frs G.stk → s1.heap.get? b = some o
  slot : ∀ b o, s.heap.get? b = some o → b ∈ frs G.stk → ∃ sl, s1.heap.get? b = some { o with slots := sl }
  there : ∀ b o, s.heap.get? b = some o → ∃ o', s1.heap.get? b = some o'
structure OwnOk (G : Gs) (s : Shared) (own : List (Addr × Obj)) (s1 : Shared) : Prop where
  at_ : ∀ p ∈ own, s1.heap.get? p.1 = some p.2 ∧ ∀ v, p.2.data ≠ .cell v
  new : ∀ p ∈ own, OwnF G.x s.heap G.F p.1 ∨ s.heap.objs.size ≤ p.1 ∨ p.1 = G.a
  all : ∀ b, OwnF G.x s1.heap G.F b → b ∈ own.map (·.1)
  a : (G.a, G.go) ∈ own
def GYp (G : Gs) : Protocol := fun n s v s1 kap => ∃ x own, n + 1 ≤ G.n ∧ G.it (G.n - (n + 1)) x ∧ RelV x v ∧ Stp G s s1 ∧ OwnOk G s own s1 ∧ ∀ sn, Wk G own sn → kap (.send .none) sn ∧ kap (.send (.bool true)) sn
def GRe (G : Gs) : GenEnd := fun n s r s1 => ((r = .ok (.ret .none) ∨ r = .ok .next) ∧ n = 0 ∧ Stp G s s1) ∨ ∃ e, r = .error e ∧ False
/-- it sleeps; i items are out; fp: its objects -/
def Slp (G : Gs) (i : Nat) (fp : List Addr) (s : Shared) : Prop := ∃ gs own, s.gens[G.g]? = some gs ∧ fp = own.map (·.1) ∧ (G.a, G.go) ∈ own ∧ (∀ p ∈ own, s.heap.get? p.1 = some p.2 ∧ ∀ v, p.2.data ≠ .cell v) ∧ (∀ b, OwnF G.x s.heap G.F b → b ∈ fp) ∧ (i = 0 ∨ IsSusp gs) ∧
  ∀ sn, Wk G own sn → gs.Goes G.M G.A.in1 (GRe G) (GYp G) (G.n - i) (.send .none) sn
theorem Slp.mem {G : Gs} {i : Nat} {fp : List Addr} {s : Shared} (h : Slp G i fp s) : G.a ∈ fp := by
  obtain ⟨gs, own, _, e, m, _⟩ := h
  rw [e]; exact List.mem_map.mpr ⟨_, m, rfl⟩
theorem Slp.memF {G : Gs} {i : Nat} {fp : List Addr} {s : Shared} (h : Slp G i fp s) : G.F ∈ fp := by
  obtain ⟨gs, own, _, e, m, _, q, _⟩ := h
  exact q _ (.inl rfl)
theorem Slp.obj {G : Gs} {i : Nat} {fp : List Addr} {s : Shared} (h : Slp G i fp s) : ∀ b ∈ fp, ∃ o, s.heap.get? b = some o ∧ ∀ v, o.data ≠ .cell v := by
  obtain ⟨gs, own, _, e, m, q, _⟩ := h
  intro b hb
  rw [e] at hb
  obtain ⟨p, hp, rfl⟩ := List.mem_map.mp hb
  exact ⟨p.2, q p hp⟩
/-- what keeps its objects, and it in the table, keeps its sleep -/
theorem Slp.keep {G : Gs} {i : Nat} {fp : List Addr} {s s' : Shared} (h : Slp G i fp s) (k : ∀ b ∈ fp, ∀ o, s.heap.get? b = some o → s'.heap.get? b = some o) (kg : s'.gens = s.gens ∨ (0 < i ∧ ∀ (g : Nat) (x : GenState), s.gens[g]? = some x → IsSusp x → s'.gens[g]? = some x)) : Slp G i fp s' := by
  have hF := h.memF
  obtain ⟨oF, eF, _⟩ := h.obj _ hF
  obtain ⟨gs, own, h1, h2, h3, h4, h5, h6, h7⟩ := h
  refine ⟨gs, own, ?_, h2, h3, fun p hp => ⟨k _ (by rw [h2]; exact List.mem_map.mpr ⟨p, hp, rfl⟩) _ (h4 p hp).1, (h4 p hp).2⟩, fun b hb => h5 b (hb.at (k _ hF) ⟨oF, eF⟩), h6, h7⟩
  rcases kg with kg | ⟨hi, kg⟩
  · rw [kg]; exact h1
  · rcases h6 with h6 | h6
    · omega
    · exact kg _ _ h1 h6
theorem funs_slots {base h h' : Heap} : ∀ {l : List Env}, h.FunFrames base l → (∀ b ∈ frs l, ∀ o, h.get? b = some o → ∃ sl, h'.get? b = some { o with slots := sl }) → h'.FunFrames base l
  | [], _, _ => trivial
  | env :: r, ⟨hk, ⟨L, o, hf, hn, ho, hd⟩, hr⟩, q => by
    have hL : L ∈ frs (env :: r) := by unfold frs; rw [List.filterMap_cons, hf]; exact List.mem_cons_self
    obtain ⟨sl, e⟩ := q L hL o ho
    refine ⟨hk, ⟨L, _, hf, hn, e, hd⟩, funs_slots hr fun b hb => q b ?_⟩
    unfold frs
    rw [List.filterMap_cons, hf]
    exact List.mem_cons_of_mem _ hb
/-- the consumer's context is of this generator's -/
structure GOk (G : Gs) (X : Cx) : Prop where
  eP : X.prog = G.P
  ew : X.w = G.w
  eK : X.K = G.K
  eb : X.base = G.base
  eA : X.A = G.A
  es : X.stack = G.stk
  hd : G.A.handled = none
  room : G.A.depth < recursionLimit
  gen : ∀ h : Heap, h.get? G.a = some G.go → h.IsGen G.a G.g
section
variable {G : Gs} {X : Cx} {pins : List (Addr × Obj)} {σ : L2.St} {H : Hp} {s s1 : Shared} {fp : List Addr} {i : Nat}
theorem wk_of (O : GOk G X) (I : Inv X pins σ H s) (t : TK G.H1 H) {own : List (Addr × Obj)} {gs : GenState} (ho : ∀ p ∈ own, s.heap.get? p.1 = some p.2) (hb : AllBare (s.setGen G.g gs).gens) : Wk G own (s.setGen G.g gs) := by
  refine ⟨hb, fun b o e => I.bk b o (by rw [O.eb]; exact e), ?_, ho, fun b xs r => ?_⟩
  · have := I.stack
    rw [O.eb, O.es] at this
    exact this
  · have := (t b xs r).ok I.hok
    rw [O.eP, O.ew] at this
    exact this
/-- behind a piece of its run -/
theorem inv_stp (O : GOk G X) (I : Inv X pins σ H s) (hf : ∀ b ∈ fp, FpOk X pins H b) (ho : ∀ b, OwnF G.x s.heap G.F b → b ∈ fp) (q : Stp G s s1) {h' : Heap} (k : ∀ b o, s1.heap.get? b = some o → h'.get? b = some o) {gs : GenState} (hg : gs.bare = true) :
    Inv X pins σ H { s1.setGen G.g gs with heap := h' } := by
  refine I.call' (ch := fp) q.os ⟨fun b o e n hb hx => k _ _ (q.keep b o e (fun z => hx (ho b z)) (by rw [← O.es]; exact hb)), fun b o e n hb hx => ?_, fun _ _ _ n _ => n, fun b o e hx => ?_, fun _ _ e => e, fun _ _ _ e => e, fun b ps e => ⟨#[], by rw [e]; simp⟩⟩ (fun b u e => ?_) (allBare_setGen q.bare hg) fun b hb => ?_
  · obtain ⟨sl, e1⟩ := q.slot b o e (by rw [← O.es]; exact hb)
    exact ⟨sl, k _ _ e1⟩
  · obtain ⟨o', e1⟩ := q.there b o e
    exact ⟨o', k _ _ e1⟩
  · refine (I.hok b u e).stay (fun c v hc z => k _ _ ?_) (fun _ z => z) fun _ _ z => z
    have tr : ∃ u, H c = some u := by
      rcases hc with rfl | hc
      · exact ⟨u, e⟩
      · exact ⟨_, hc⟩
    obtain ⟨u', tr⟩ := tr
    refine q.keep c v z (fun y => ?_) fun y => ?_
    · have := (hf c (ho c y)).1
      rw [this] at tr; cases tr
    · have := I.stkFree c (by rw [O.es]; exact y)
      rw [this] at tr; cases tr
  · obtain ⟨_, f1, _, f3, f4, f5⟩ := hf b hb
    exact ⟨f3, f1, f4, f5⟩
theorem next_item {E : Value → Shared → Prop} (O : GOk G X) (I : Inv X pins σ H s) (hf : ∀ b ∈ fp, FpOk X pins H b) (st : Slp G i fp s) (hi : i < G.n) (t : TK G.H1 H) :
    wpAny (model X.prog X.w) X.A (pyNext (.ref G.a)) (fun r s1 => ∃ u x fp', r = some u ∧ Inv X pins σ H s1 ∧ RelV x u ∧ G.it i x ∧ Slp G (i + 1) fp' s1 ∧ ∀ b ∈ fp', FpOk X pins H b) E s := by
  obtain ⟨gs, own, h1, h2, h3, h4, h5, h6, h7⟩ := st
  obtain ⟨m, hm⟩ : ∃ m, G.n - i = m + 1 := ⟨G.n - i - 1, by omega⟩
  rw [hm] at h7
  have hgl : G.g < s.gens.size := (Array.getElem?_eq_some_iff.mp h1).1
  have hA : X.A.handled = none := by rw [O.eA]; exact O.hd
  have hgo := h7 _ (wk_of (gs := .running) O I t (fun p hp => (h4 p hp).1) (allBare_setGen I.bare rfl))
  rw [← O.eA] at hgo
  have hgo' : gs.Goes (model X.prog X.w) X.A.in1 (fun n s₀ r s₁ => ((r = .ok (.ret .none) ∨ r = .ok .next) ∧ (n = 0 ∧ Stp G s₀ s₁)) ∨ ∃ e, r = .error e ∧ False) (GYp G) (m + 1) (.send .none) (s.setGen G.g .running) := by
    rw [O.eP, O.ew]; exact hgo
  refine wpAny_gsz (n := G.g + 1) hgl (next_genG hA I.nolimit (by rw [O.eA]; exact O.room) (O.gen _ (h4 _ h3).1) h1 hgo' (fun v s₁ gs' hbare hY => ?_) (fun s₁ hp h' hk => ?_) fun e s₁ he => he.elim)
  · intro hsz
    obtain ⟨x, own', hn, hx, rv, sp, oo, kap⟩ := hY
    have sp' : Stp G s s₁ := ⟨sp.os, sp.bare, sp.keep, sp.slot, sp.there⟩
    have I1 : Inv X pins σ H (s₁.setGen G.g gs') := inv_stp (h' := s₁.heap) O I hf h5 sp' (fun _ _ e => e) hbare
    have hg1 : G.g < s₁.gens.size := by
      have q : (s₁.setGen G.g gs').gens.size = s₁.gens.size := setGen_size _ _ _
      have hsz' : G.g + 1 ≤ (s₁.setGen G.g gs').gens.size := hsz
      omega
    have hwk := wk_of (own := own') (gs := gs') O I1 t (fun p hp => (oo.at_ p hp).1) (allBare_setGen I1.bare hbare)
    have sus : IsSusp gs' := by
      have q := (kap _ hwk).2
      cases gs' with
      | suspended => trivial
      | fresh c =>
        obtain ⟨q, _⟩ := q
        cases q
      | running => exact q.elim
      | finished => exact q.elim
    have hx' : G.it i x := by
      have e : G.n - (m + 1 - 1 + 1) = i := by omega
      rw [e] at hx; exact hx
    refine ⟨v, x, own'.map (·.1), rfl, I1, rv, hx', ⟨gs', own', setGen_at hg1, rfl, oo.a, oo.at_, fun b hb => oo.all b hb, .inr sus, fun sn hw => ?_⟩, fun b hb => ?_⟩
    · have e : G.n - (i + 1) = m := by omega
      have q := (kap sn hw).1
      rw [e, ← O.eA]
      rw [O.eP, O.ew] at q
      exact q
    · obtain ⟨p, hp, rfl⟩ := List.mem_map.mp hb
      rcases oo.new p hp with q | q | q
      · exact hf _ (h5 _ q)
      · exact I.fpOk q (I.hok.fresh q)
      · rw [q]
        exact hf _ (by rw [h2]; exact List.mem_map.mpr ⟨_, h3, rfl⟩)
  · intro _
    exact absurd hp.1 (Nat.succ_ne_zero m)
theorem next_done {E : Value → Shared → Prop} (O : GOk G X) (I : Inv X pins σ H s) (hf : ∀ b ∈ fp, FpOk X pins H b) (st : Slp G i fp s) (hi : i = G.n) (t : TK G.H1 H) :
    wpAny (model X.prog X.w) X.A (pyNext (.ref G.a)) (fun r s1 => r = none ∧ Inv X pins σ H s1) E s := by
  obtain ⟨gs, own, h1, h2, h3, h4, h5, h6, h7⟩ := st
  have hm : G.n - i = 0 := by omega
  rw [hm] at h7
  have hA : X.A.handled = none := by rw [O.eA]; exact O.hd
  have hgo := h7 _ (wk_of (gs := .running) O I t (fun p hp => (h4 p hp).1) (allBare_setGen I.bare rfl))
  rw [← O.eA] at hgo
  have hgo' : gs.Goes (model X.prog X.w) X.A.in1 (fun n s₀ r s₁ => ((r = .ok (.ret .none) ∨ r = .ok .next) ∧ (n = 0 ∧ Stp G s₀ s₁)) ∨ ∃ e, r = .error e ∧ False) (GYp G) 0 (.send .none) (s.setGen G.g .running) := by
    rw [O.eP, O.ew]; exact hgo
  refine next_genG hA I.nolimit (by rw [O.eA]; exact O.room) (O.gen _ (h4 _ h3).1) h1 hgo' (fun v s₁ gs' hbare hY => ?_) (fun s₁ hp h' hk => ?_) fun e s₁ he => he.elim
  · obtain ⟨x, own', hn, hx, rv, sp, oo, kap⟩ := hY
    have sp' : Stp G s s₁ := ⟨sp.os, sp.bare, sp.keep, sp.slot, sp.there⟩
    have I1 : Inv X pins σ H (s₁.setGen G.g gs') := inv_stp (h' := s₁.heap) O I hf h5 sp' (fun _ _ e => e) hbare
    have hwk := wk_of (own := own') (gs := gs') O I1 t (fun p hp => (oo.at_ p hp).1) (allBare_setGen I1.bare hbare)
    exact (kap _ hwk).1.elim
  · obtain ⟨_, sp⟩ := hp
    have sp' : Stp G s s₁ := ⟨sp.os, sp.bare, sp.keep, sp.slot, sp.there⟩
    exact ⟨rfl, inv_stp (gs := .finished) O I hf h5 sp' hk rfl⟩
end
end GenF
/-! for, and a list comprehension, over a generator of the program's own -/
namespace GenF
open PySem PySem.Spec PyProof.Rows GenW L2
def Itg (G : Gs) : It := ⟨fun i H => i < G.n ∧ TK G.H1 H, fun i H x H' => H' = H ∧ G.it i x, fun i H => i = G.n ∧ TK G.H1 H⟩
def PIEG (X : Cx) (pins : List (Addr × Obj)) (σ : L2.St) (R : It → Hp → Prop) (v : Value) (s2 : Shared) : Prop :=
  ∃ (G : Gs) (fp : List Addr) (H2 : Hp), v = .ref G.a ∧ GOk G X ∧ Inv X pins σ H2 s2 ∧ Slp G 0 fp s2 ∧ (∀ b ∈ fp, FpOk X pins H2 b) ∧ R (Itg G) H2
structure PIG (X : Cx) (iter : Expr) (wi : TI) : Prop where
  run : ∀ (pins : List (Addr × Obj)) (s : Shared) (σ : L2.St) (H : Hp) (R : It → Hp → Prop), Inv X pins σ H s → wi σ H R →
    wpAny (model X.prog X.w) X.A (eval iter X.env) (fun v s1 => wpAny (model X.prog X.w) X.A (pyIter v) (PIEG X pins σ R) X.xe s1) X.xe s
section
variable {X : Cx} {pins : List (Addr × Obj)} {σ : L2.St} {H : Hp} {s s1 : Shared}
theorem inv_gens {gs : Array GenState} (I : Inv X pins σ H s) (hb : AllBare gs) : Inv X pins σ H { s with gens := gs } :=
  ⟨I.ok, I.os, hb, I.base, I.loc, I.cell, I.free, I.freeC, I.pin, I.hok, I.len⟩
theorem inv_barred (I : Inv X pins σ H s) : Inv X pins σ H (barred s) := inv_gens I (bare_barred I.bare)
theorem inv_mix (hb : AllBare s.gens) (I : Inv X pins σ H s1) : Inv X pins σ H (mix (zs s) s1) := inv_gens I (bare_mix hb I.bare)
theorem sp_mix {D : Ends} {f : Flow} (hb : AllBare s.gens) (h : SP X pins D f s1) : SP X pins D f (mix (zs s) s1) := by
  cases f with
  | next => obtain ⟨σ', H', I, q⟩ := h; exact ⟨σ', H', inv_mix hb I, q⟩
  | brk => obtain ⟨σ', H', I, q⟩ := h; exact ⟨σ', H', inv_mix hb I, q⟩
  | cont => obtain ⟨σ', H', I, q⟩ := h; exact ⟨σ', H', inv_mix hb I, q⟩
  | ret u => obtain ⟨v, σ', H', I, r, q⟩ := h; exact ⟨v, σ', H', inv_mix hb I, r, q⟩
/-- what sleeps in the table sleeps on -/
def GKp (s s' : Shared) : Prop := ∀ (g : Nat) (x : GenState), s.gens[g]? = some x → IsSusp x → s'.gens[g]? = some x
theorem GKp.trans {s s' s'' : Shared} (a : GKp s s') (b : GKp s' s'') : GKp s s'' := fun g x e k => b g x (a g x e k) k
/-- a piece that raises nothing, run while generators sleep -/
theorem kept_run {α : Type} {A : Around} {t : Sem α} {Q Q' : α → Shared → Prop} {E E' : Value → Shared → Prop} {M : Model} (hE : ∀ e s, ¬ E e s) (h : wpAny M A t Q E (barred s)) (hQ : ∀ a s1, Q a s1 → GKp s (mix (zs s) s1) → Q' a (mix (zs s) s1)) : wpAny M A t Q' E' s := by
  refine wpAny_mono (wpAny_kept h) (fun a s' ⟨s1, e, g, q⟩ => ?_) fun e s' ⟨s1, _, _, q⟩ => (hE _ _ q).elim
  subst e
  exact hQ a s1 q fun n x hx k => mix_gen hx k g
theorem gen_go {G : Gs} {tg : Expr} {u : Value} {M : Model} {A : Around} {E : Value → Shared → Prop} {Q : Unit → Shared → Prop} (hg : s.heap.IsGen G.a G.g) (h : Q () s) : wpAny M A (letOwnedTupleGo tg (.ref G.a) u) Q E s := by
  obtain ⟨o, nm, qn, ho, hc, hd, _⟩ := hg
  exact go_of ho hc hd (by decide) h
theorem Slp.gen {G : Gs} {i : Nat} {fp : List Addr} (O : GOk G X) (st : Slp G i fp s) : s.heap.IsGen G.a G.g := by
  obtain ⟨gs, own, h1, h2, h3, h4, _⟩ := st
  exact O.gen _ (h4 _ h3).1
/-- behind a turn: its objects were pinned -/
theorem slp_on {G : Gs} {i : Nat} {fp : List Addr} {s' : Shared} {pins2 : List (Addr × Obj)} {σ' : L2.St} {H' : Hp} (hi : 0 < i) (st : Slp G i fp s) (fr : ∀ b ∈ fp, FpOk X pins H b) (I : Inv X (pins2 ++ pinsAt fp s.heap) σ' H' s') (k : GKp s s') :
    Slp G i fp s' ∧ ∀ b ∈ fp, FpOk X pins H' b := by
  have pin : ∀ b ∈ fp, ∀ o, s.heap.get? b = some o → s'.heap.get? b = some o ∧ H' b = none := fun b hb o e =>
    let z := I.pin (b, o) (List.mem_append_right _ (List.mem_append_right _ (mem_pinsAt hb e)))
    ⟨z.1, z.2.1⟩
  refine ⟨st.keep (fun b hb o e => (pin b hb o e).1) (.inr ⟨hi, k⟩), fun b hb => ?_⟩
  obtain ⟨o, e, _⟩ := st.obj b hb
  exact ⟨(pin b hb o e).2, (fr b hb).2⟩
end
section
variable {X : Cx}
theorem ps_forG {tg iter : Expr} {body : List Stmt} {wi : TI} {g : TG} {tb : TS} {pos : Pos} (hx : X.xe = fun _ _ => False) (hi : PIG X iter wi) (hg : PG X tg g) (hb : PSs X body tb)
    (hs : ∀ x, foldedSetIterable iter X.env x = pure x := by intro _; rfl) : PS X (.For tg iter body [] pos) (tFor wi g tb) := by
  refine ⟨fun pins s σ H D I h => ?_⟩
  have nx : ∀ e s, ¬ X.xe e s := fun e s z => by rw [hx] at z; exact z
  have nv : ∀ {α : Type} {t : Sem α} {Q : α → Shared → Prop} {E : Value → Shared → Prop} {s : Shared}, wpAny (model X.prog X.w) X.A t Q X.xe s → wpAny (model X.prog X.w) X.A t Q E s := fun q => wpAny_mono q (fun _ _ z => z) fun e s z => (nx e s z).elim
  refine wpAny_For (thn (hi.run pins s σ H _ I h) fun v s1 h1 => thn h1 fun itv s2 h2 => ?_) hs
  obtain ⟨G, fp, H2, e, O, I2, st2, f2, W, ⟨m0, w0⟩, turn⟩ := h2
  subst e
  refine codeAny_forLoop_any (fun n s' => ∃ i fp σ' H', Inv X pins σ' H' s' ∧ Slp G i fp s' ∧ (∀ b ∈ fp, FpOk X pins H' b) ∧ W i n σ' H') ?_ m0 ⟨0, fp, σ, H2, I2, st2, f2, w0⟩
  rintro n s3 ⟨i, fp3, σ3, H3, I3, st3, fr3, w3⟩
  rcases turn i n σ3 H3 w3 with ⟨⟨he, tk⟩, qn⟩ | ⟨⟨hl, tk⟩, N, hN, step⟩
  · refine nv (thn (next_done O I3 fr3 st3 he tk) fun r s4 ⟨hr, I4⟩ => ?_)
    subst hr
    exact wpAny_execs_nil ⟨σ3, H3, I4, qn⟩
  · refine nv (thn (next_item O I3 fr3 st3 hl tk) fun r s4 ⟨u, x, fp4, hr, I4, rx, hx4, st4, fr4⟩ => ?_)
    subst hr
    refine gen_go (st4.gen O) ?_
    have I5 := I4.pinned fr4 st4.obj
    refine kept_run nx (hg.run _ _ σ3 H3 x u _ (inv_barred I5) rx (step x H3 ⟨rfl, hx4⟩)) fun _ s5 ⟨σ6, H6, I6, q6⟩ k6 => ?_
    have I6' := inv_mix I5.bare I6
    refine kept_run nx (hb.run _ _ σ6 H6 _ (inv_barred I6') q6) fun f s7 q7 k7 => ?_
    have q7' := sp_mix (s := mix (zs s4) s5) I6'.bare q7
    have kk := k6.trans k7
    have again : ∀ {σ7 : L2.St} {H7 : Hp}, Inv X (pins ++ pinsAt fp4 s4.heap) σ7 H7 (mix (zs (mix (zs s4) s5)) s7) → N σ7 H7 → ∃ m, m < n ∧ ∃ i fp σ' H', Inv X pins σ' H' (mix (zs (mix (zs s4) s5)) s7) ∧ Slp G i fp (mix (zs (mix (zs s4) s5)) s7) ∧ (∀ b ∈ fp, FpOk X pins H' b) ∧ W i m σ' H' := fun {σ7 H7} I7 n7 => by
      obtain ⟨m', hm, w7⟩ := hN σ7 H7 n7
      obtain ⟨st7, fr7⟩ := slp_on (Nat.succ_pos i) st4 fr4 I7 kk
      exact ⟨m', hm, i + 1, fp4, σ7, H7, I7.unpinned, st7, fr7, w7⟩
    cases f with
    | next => obtain ⟨σ7, H7, I7, n7⟩ := q7'; exact again I7 n7
    | cont => obtain ⟨σ7, H7, I7, n7⟩ := q7'; exact again I7 n7
    | brk => obtain ⟨σ7, H7, I7, q7⟩ := q7'; exact ⟨σ7, H7, I7.unpinned, q7⟩
    | ret v => obtain ⟨x7, σ7, H7, I7, r7, q7⟩ := q7'; exact ⟨x7, σ7, H7, I7.unpinned, r7, q7⟩
theorem lc_coreG {pins : List (Addr × Obj)} {s : Shared} {σ : L2.St} {H : Hp} {Q : VK} {elt tg iter : Expr} {ifs : List Expr} {scope : Scope} {own : List (Str × Nat)} {pos pos' : Pos} {wi : TI} {g : TG} {tt : TT} {te : TE} {use : Option (Value → Sem Unit)} {Qf : Value → Shared → Prop}
    (hN : X.N.Nodup) (I : Inv X pins σ H s) (hi : PIG X iter wi) (ok : BlkOk X.N X.env.scope scope own)
    (hg : ∀ (s : Shared) (H : Hp) (C : Addr) (cl : List (Str × Addr)) (fp : List Addr), PG (X.blk s H scope (compEnvC scope cl C X.env) fp) tg g)
    (ht : ∀ (s : Shared) (H : Hp) (C : Addr) (cl : List (Str × Addr)) (fp : List Addr), PTs (X.blk s H scope (compEnvC scope cl C X.env) fp) ifs tt)
    (he : ∀ (s : Shared) (H : Hp) (C : Addr) (cl : List (Str × Addr)) (fp : List Addr), PE (X.blk s H scope (compEnvC scope cl C X.env) fp) elt te)
    (hs : ∀ x, foldedSetIterable iter X.env x = pure x) (h : tLc wi g tt te (own.map (·.2)) σ H Q)
    (hRR : ∀ D C s' m H', Inv X pins σ H' s' → Q (.ref D) H' → s'.heap.Ns C m → FpOk X pins H' C → compPost (model X.prog X.w) X.A X.xe use Qf (.ref D) C (.ok .next) s') :
    wpAny (model X.prog X.w) X.A (comprehension (.ListComp elt [⟨tg, iter, ifs, 0⟩] scope pos) scope X.env pos' (newList []) false (eval iter X.env) use) Qf X.xe s := by
  have hfree : ∀ y ∈ scope.names, y.2 = .free → ∃ c, X.env.cells.lookup y.1 = some c := fun y hy e => (ok.free y hy e).elim (fun k => I.ok.has _ (.inl k)) fun k => I.ok.has _ (.inr k)
  refine wpAny_comprehension_free (use := use) rfl hs (closure_ok hfree) ok.kind (fun y hy e => by rw [ok.uniq y hy, e]) (thn (hi.run pins s σ H _ I h) fun xv s1 h1 => thn h1 fun itv s2 h2 => ?_)
  obtain ⟨G, fp, H2, e, O, I2, st2, f2, q⟩ := h2
  subst e
  refine wpAny_newObj_type (newEnv_comp ?_) (by show 0 ≤ sizeLine; decide)
  generalize hD : s2.heap.objs.size = D
  obtain ⟨W, ⟨m0, w0⟩, turn⟩ := q D (I2.hok.fresh (Nat.le_of_eq hD))
  generalize hs3 : ({ s2 with heap := s2.heap.push { cls := .type "list", data := .seq ([] : List Value).toArray } } : Shared) = s3
  have h3 : s3.heap = s2.heap.push { cls := .type "list", data := .seq ([] : List Value).toArray } := by rw [← hs3]
  have I3 : Inv X pins σ (upd H2 D (.lst [])) s3 := by
    rw [← hs3]
    refine I2.laid (t' := s2.toks) (fun b o e => Heap.get?_push_of_some _ e) (Nat.le_of_eq hD) ⟨Nat.zero_le _, [], 0, .nil, ?_⟩
    rw [← hD]
    exact Heap.get?_push_size _ rfl
  have f3 : ∀ b ∈ fp, FpOk X pins (upd H2 D (.lst [])) b ∧ b < s3.heap.objs.size := fun b hb => by
    obtain ⟨o, e, _⟩ := st2.obj b hb
    have hlt := Heap.lt_size e
    refine ⟨⟨?_, (f2 b hb).2⟩, by rw [h3, Heap.size_push]; exact Nat.lt_succ_of_lt hlt⟩
    rw [upd_ne (by rw [← hD]; exact Nat.ne_of_lt hlt)]
    exact (f2 b hb).1
  have st3 : Slp G 0 fp s3 := st2.keep (fun b _ o e => by rw [h3]; exact Heap.get?_push_of_some _ e) (.inl (by rw [← hs3]))
  have I4 := block_start I3 ok hN f3
  have pg := hg s3 (upd H2 D (.lst [])) s3.heap.objs.size (cellsFrom (s3.heap.objs.size + 1) scope.names (cloFrom X.env.cells scope.names [])) fp
  have pt := ht s3 (upd H2 D (.lst [])) s3.heap.objs.size (cellsFrom (s3.heap.objs.size + 1) scope.names (cloFrom X.env.cells scope.names [])) fp
  have pe := he s3 (upd H2 D (.lst [])) s3.heap.objs.size (cellsFrom (s3.heap.objs.size + 1) scope.names (cloFrom X.env.cells scope.names [])) fp
  show codeAny _ _ (.compStart (.ListComp elt [⟨tg, iter, ifs, 0⟩] scope pos) 0 (.ref G.a) (.ref D) (compEnvC scope (cellsFrom (s3.heap.objs.size + 1) scope.names (cloFrom X.env.cells scope.names [])) s3.heap.objs.size X.env)) (compPost (model X.prog X.w) X.A X.xe use Qf (.ref D) s3.heap.objs.size) { s3 with heap := pushCells (s3.heap.push { cls := .type "dict", data := .dict #[] }) scope.names }
  generalize hce : compEnvC scope (cellsFrom (s3.heap.objs.size + 1) scope.names (cloFrom X.env.cells scope.names [])) s3.heap.objs.size X.env = ce at I4 pg pt pe ⊢
  have cL : ce.locals = s3.heap.objs.size := by subst hce; rfl
  generalize hH3 : upd H2 D (.lst []) = H3 at I3 I4 pg pt pe w0 f3
  generalize hs4 : ({ s3 with heap := pushCells (s3.heap.push { cls := .type "dict", data := .dict #[] }) scope.names } : Shared) = s4 at I4 ⊢
  have st4 : Slp G 0 fp s4 := st3.keep (fun b _ o e => by rw [← hs4]; exact pushCells_keeps _ _ _ _ (Heap.get?_push_of_some _ e)) (.inl (by rw [← hs4]))
  have OB : GOk G (X.blk s3 H3 scope ce fp) := ⟨O.eP, O.ew, O.eK, O.eb, O.eA, O.es, O.hd, O.room, O.gen⟩
  have f4 : ∀ b ∈ fp, FpOk (X.blk s3 H3 scope ce fp) [] H3 b := fun b hb => ⟨(f3 b hb).1.1, (I4.ok.exf b hb).1, I4.ok.exfs b hb, .inl hb, fun x c e => (I4.ok.exf b hb).2 x c e, fun p hp => absurd (show p ∈ ([] : List (Addr × Obj)) ++ [] from hp) (by simp)⟩
  have nx : ∀ (e : Value) (s : Shared), ¬ (X.blk s3 H3 scope ce fp).xe e s := fun _ _ z => z
  have loop : codeAny (model X.prog X.w) X.A (.compLoop (.ListComp elt [⟨tg, iter, ifs, 0⟩] scope pos) 0 (.ref G.a) (.ref D) ce) (compPost (model X.prog X.w) X.A X.xe use Qf (.ref D) s3.heap.objs.size) s4 := by
    refine compLoop_any (fun n s' => ∃ i fq H', Inv (X.blk s3 H3 scope ce fp) [] (wipe σ (own.map (·.2))) H' s' ∧ Slp G i fq s' ∧ (∀ b ∈ fq, FpOk (X.blk s3 H3 scope ce fp) [] H' b) ∧ W i n H') ?_ m0 ⟨0, fp, H3, I4, st4, f4, w0⟩
    rintro n s5 ⟨i, fq, H5, I5, st5, f5, w5⟩
    rcases turn i n H5 w5 with ⟨⟨hend, tk⟩, qq⟩ | ⟨⟨hl, tk⟩, Nx, hNx, step⟩
    · refine thnF (next_done (X := X.blk s3 H3 scope ce fp) (E := fun _ _ => False) OB I5 f5 st5 hend tk) fun r s6 ⟨hr, I6⟩ => ?_
      subst hr
      have I7 : Inv X pins σ H5 s6 := I3.call' (ch := fp) I6.os I6.base I6.hok I6.bare fun b hb => ⟨(f3 b hb).1.2.2.2.1, (f3 b hb).1.2.1, (f3 b hb).1.2.2.2.2.1, (f3 b hb).1.2.2.2.2.2⟩
      have nC : H5 s3.heap.objs.size = none := by
        have z : H5 ce.locals = none := I6.free
        rw [cL] at z
        exact z
      obtain ⟨m, hn, _⟩ := I6.loc
      have hn : s6.heap.Ns ce.locals m := hn
      rw [cL] at hn
      exact hRR D s3.heap.objs.size s6 m H5 I7 qq hn (I3.fpOk (Nat.le_refl _) nC)
    · refine thnF (next_item (X := X.blk s3 H3 scope ce fp) (E := fun _ _ => False) OB I5 f5 st5 hl tk) fun r s6 ⟨u, x, fp6, hr, I6, rx, hx6, st6, f6⟩ => ?_
      subst hr
      refine gen_go (st6.gen OB) ?_
      have I7 := I6.pinned f6 st6.obj
      refine kept_run nx (pg.run _ _ _ H5 x u _ (inv_barred I7) rx (step x H5 ⟨rfl, hx6⟩)) fun _ s7 ⟨σ8, H8, I8, hw8, q8⟩ k8 => ?_
      have I8' := inv_mix I7.bare I8
      refine kept_run nx (pt.run _ _ σ8 H8 _ (inv_barred I8') q8) fun b s8 ⟨H9, I9, q9⟩ k9 => ?_
      have I9' := inv_mix I8'.bare I9
      have k9' := k8.trans k9
      have fin : ∀ {s' : Shared} {H' : Hp}, Inv (X.blk s3 H3 scope ce fp) ([] ++ pinsAt fp6 s6.heap) σ8 H' s' → GKp s6 s' → Nx H' → ∃ m, m < n ∧ ∃ i fq H', Inv (X.blk s3 H3 scope ce fp) [] (wipe σ (own.map (·.2))) H' s' ∧ Slp G i fq s' ∧ (∀ b ∈ fq, FpOk (X.blk s3 H3 scope ce fp) [] H' b) ∧ W i m H' := fun {s' H'} I' k' nxt => by
        obtain ⟨m', hm, w'⟩ := hNx H' nxt
        obtain ⟨st', f'⟩ := slp_on (Nat.succ_pos i) st6 f6 I' k'
        have hl : (wipe σ (own.map (·.2))).length = σ8.length := by rw [← hw8, wipe_length]
        refine ⟨m', hm, i + 1, fp6, H', (I'.unpinned (pins := [])).weak hl (fun j v e => ?_), st', f', w'⟩
        rw [← hw8] at e
        exact (wipe_some e).1
      cases b with
      | false =>
        simp only [Bool.false_eq_true, if_false] at q9 ⊢
        exact fin I9' k9' q9
      | true =>
        simp only [if_true] at q9 ⊢
        refine kept_run nx (pe.run _ _ σ8 H9 _ (inv_barred I9') q9) fun z s9 ⟨yv, H10, I10, r10, acc, hD10, hz10, nxt⟩ k10 => ?_
        have I10' := inv_mix I9'.bare I10
        refine kept_run (E := fun _ _ => False) (fun _ _ z => z) (app_ok (X := X.blk s3 H3 scope ce fp) (Q := fun _ s' => ∃ H', Inv (X.blk s3 H3 scope ce fp) ([] ++ pinsAt fp6 s6.heap) σ8 H' s' ∧ Nx H') (inv_barred I10') hD10 hz10 r10 fun s11 I11 => ⟨_, I11, nxt⟩) fun _ s10 ⟨H11, I11, n11⟩ k11 => ?_
        exact fin (inv_mix I10'.bare I11) ((k9'.trans k10).trans k11) n11
  exact codeAny_compStart_list loop (wpAny_pyIter_gen (st4.gen OB) loop)
theorem pe_lcG {elt tg iter : Expr} {ifs : List Expr} {scope : Scope} {own : List (Str × Nat)} {pos : Pos} {wi : TI} {g : TG} {tt : TT} {te : TE} (hN : X.N.Nodup) (hi : PIG X iter wi) (ok : BlkOk X.N X.env.scope scope own)
    (hg : ∀ (s : Shared) (H : Hp) (C : Addr) (cl : List (Str × Addr)) (fp : List Addr), PG (X.blk s H scope (compEnvC scope cl C X.env) fp) tg g)
    (ht : ∀ (s : Shared) (H : Hp) (C : Addr) (cl : List (Str × Addr)) (fp : List Addr), PTs (X.blk s H scope (compEnvC scope cl C X.env) fp) ifs tt)
    (he : ∀ (s : Shared) (H : Hp) (C : Addr) (cl : List (Str × Addr)) (fp : List Addr), PE (X.blk s H scope (compEnvC scope cl C X.env) fp) elt te) (hs : ∀ x, foldedSetIterable iter X.env x = pure x := by intro _; rfl) :
    PE X (.ListComp elt [⟨tg, iter, ifs, 0⟩] scope pos) (tLc wi g tt te (own.map (·.2))) := by
  refine ⟨fun pins s σ H Q I h => ?_⟩
  rw [eval_ListComp]
  refine lc_coreG hN I hi ok hg ht he hs h fun D C s' m H' I' q hn f => ⟨m, hn, fun h'' sb => ?_⟩
  obtain ⟨f0, f1, f2, f3, f4, f5⟩ := f
  exact ⟨.ref D, H', I'.turned (t' := s'.toks) (fun b o hb e => (sb.2 b hb).trans e) f0 f1 f3 f4 f5, rfl, q⟩
end
end GenF
/-! how an own generator is made, and woken -/
namespace GenF
open PySem PySem.Spec PyProof.Rows GenW L2
/-- what stands fixed, as the generator's side sees it -/
structure GStat (G : Gs) (mg : Str → Option Value) : Prop where
  mod : Mod G.K mg G.base
  bsz : G.base.objs.size ≤ G.F
  bnt : ∀ b o, G.base.get? b = some o → G.H1 b = none
  stk : ∀ b ∈ frs G.stk, b < G.F ∧ G.H1 b = none
  frames : G.A.frames = some G.stk
  hd : G.A.handled = none
  tup : ∀ b xs, Rd G.H1 b (.tup xs) → b < G.F
  Fa : G.F < G.a
  goc : ∀ v, G.go.data ≠ .cell v
/-- the generator's view: the tuples it may read, and all that is younger than its frame, as they stand -/
def Hw0 (G : Gs) (sn : Shared) : Hp := fun b =>
  if b < G.F then (match tupsOf G.H1 b, sn.heap.get? b with
    | some (.tup xs), some o => some (.frz o (.tup xs))
    | _, _ => none)
  else if b = G.F then none else (sn.heap.get? b).map fun o => .frz o (.own b)
theorem Hw0_none {G : Gs} {sn : Shared} {b : Addr} (lt : b < G.F) (e : G.H1 b = none) : Hw0 G sn b = none := by
  unfold Hw0
  rw [if_pos lt, tupsOf_none e]
theorem Hw0_F {G : Gs} {sn : Shared} : Hw0 G sn G.F = none := by
  unfold Hw0
  rw [if_neg (Nat.lt_irrefl _), if_pos rfl]
theorem Hw0_up {G : Gs} {sn : Shared} {b : Addr} {o : Obj} (lt : G.F < b) (e : sn.heap.get? b = some o) : Hw0 G sn b = some (.frz o (.own b)) := by
  unfold Hw0
  rw [if_neg (Nat.lt_asymm lt), if_neg (Nat.ne_of_gt lt), e]; rfl
theorem Hw0_upn {G : Gs} {sn : Shared} {b : Addr} (lt : G.F < b) (e : sn.heap.get? b = none) : Hw0 G sn b = none := by
  unfold Hw0
  rw [if_neg (Nat.lt_asymm lt), if_neg (Nat.ne_of_gt lt), e]; rfl
theorem Hw0_lt {G : Gs} {sn : Shared} {b : Addr} {u : HO} (lt : b < G.F) (e : Hw0 G sn b = some u) : ∃ xs o, u = .frz o (.tup xs) ∧ Rd G.H1 b (.tup xs) ∧ sn.heap.get? b = some o := by
  unfold Hw0 at e
  rw [if_pos lt] at e
  cases q : tupsOf G.H1 b with
  | none => rw [q] at e; cases e
  | some v =>
    obtain ⟨xs, rfl, r⟩ := tupsOf_inv q
    rw [q] at e
    cases q2 : sn.heap.get? b with
    | none => rw [q2] at e; cases e
    | some o => rw [q2] at e; cases e; exact ⟨xs, o, rfl, r, rfl⟩
theorem Hw0_ok {G : Gs} {own : List (Addr × Obj)} {sn : Shared} (W : Wk G own sn) : HOk G.P G.w (Hw0 G sn) sn.heap := fun b u e => by
  by_cases lt : b < G.F
  · obtain ⟨xs, o, rfl, r, e2⟩ := Hw0_lt lt e
    exact ⟨e2, W.data b xs r⟩
  · by_cases eq : b = G.F
    · rw [eq, Hw0_F] at e; cases e
    · have gt : G.F < b := Nat.lt_of_le_of_ne (Nat.le_of_not_lt lt) (Ne.symm eq)
      cases q : sn.heap.get? b with
      | none => rw [Hw0_upn gt q] at e; cases e
      | some o => rw [Hw0_up gt q] at e; cases e; exact ⟨q, _, q⟩
/-- the tuples are read in it -/
theorem Hw0_sq {G : Gs} {mg : Str → Option Value} {own : List (Addr × Obj)} {sn : Shared} (S : GStat G mg) (W : Wk G own sn) : ∀ a xs, SqT G.K (tupsOf G.H1) a xs → SqT G.K (Hw0 G sn) a xs := fun a xs s => by
  rcases s with (s | ⟨o, s⟩) | s
  · obtain ⟨ys, e, r⟩ := tupsOf_inv s
    cases e
    obtain ⟨_, its, _, o, ho, _⟩ := W.data a xs r
    refine .inl (.inr ⟨o, ?_⟩)
    unfold Hw0
    rw [if_pos (S.tup a xs r), tupsOf_rd r, ho]
  · obtain ⟨ys, e, _⟩ := tupsOf_inv s
    cases e
  · exact .inr s
/-- .. and back -/
theorem Hw0_qs {G : Gs} {mg : Str → Option Value} {sn : Shared} : ∀ a xs, (Hw0 G sn a = some (.tup xs) ∨ ∃ o, Hw0 G sn a = some (.frz o (.tup xs))) → tupsOf G.H1 a = some (.tup xs) := fun a xs s => by
  have low : ∀ u, Hw0 G sn a = some u → (∀ o b, u ≠ .frz o (.own b)) → a < G.F := fun u e n => by
    by_cases lt : a < G.F
    · exact lt
    · by_cases eq : a = G.F
      · rw [eq, Hw0_F] at e; cases e
      · have gt : G.F < a := Nat.lt_of_le_of_ne (Nat.le_of_not_lt lt) (Ne.symm eq)
        cases q : sn.heap.get? a with
        | none => rw [Hw0_upn gt q] at e; cases e
        | some o => rw [Hw0_up gt q] at e; cases e; exact absurd rfl (n _ _)
  rcases s with s | ⟨o, s⟩
  · obtain ⟨ys, o', e, _⟩ := Hw0_lt (low _ s (fun _ _ => HO.noConfusion)) s
    cases e
  · obtain ⟨ys, o', e, r, _⟩ := Hw0_lt (low _ s (fun _ _ z => by cases z)) s
    cases e
    exact tupsOf_rd r
/-- the context of a piece of its run -/
def cxG (G : Gs) (mg : Str → Option Value) (N : List Str) (qual : Str) (scope : Scope) (f : Addr) (cd : Value) (Hw : Hp) (sn : Shared) : Cx where
  prog := G.P
  w := G.w
  K := G.K
  mg := mg
  base := G.base
  A := G.A.in1.deeper (envOfC qual scope G.F f cd)
  N := N
  s_0 := { sn with heap := cutH sn.heap G.F }
  H_0 := Hw
  env := envOfC qual scope G.F f cd
  outer := G.stk
  stack := envOfC qual scope G.F f cd :: G.stk
  ex := []
  calm := true
  fn := fun _ => true
  pn := []
  xe := fun _ _ => False
structure NoCells (sc : Scope) : Prop where
  kind : sc.kind = .function
  co : sc.isCoroutine = false
  gen : sc.isGenerator = true
  cells : ∀ n, cellsFrom n sc.names [] = []
  none : ∀ x, sc.names.lookup x ≠ some .cell ∧ sc.names.lookup x ≠ some .free
section
variable {G : Gs} {mg : Str → Option Value} {N : List Str} {qual : Str} {scope : Scope} {f : Addr} {cd : Value} {own : List (Addr × Obj)} {sn s1 : Shared} {Hw : Hp} {σ : L2.St}
theorem inv_wake (S : GStat G mg) (C : NoCells scope) (W : Wk G own sn) (lo : ∀ b, b < G.F → Hw b = Hw0 G sn b) (hF : Hw G.F = none) (ok : HOk G.P G.w Hw sn.heap) {m : Str → Option Value} (hN : sn.heap.Ns G.F m) (hl : σ.length = N.length)
    (hσ : ∀ (i : Nat) (x : Str) (v : V), N[i]? = some x → σ[i]? = some (some v) → ∃ u, RelV v u ∧ m x = some u ∧ scope.names.lookup x = some .local) : Inv (cxG G mg N qual scope f cd Hw sn) [] σ Hw sn := by
  have lt := hN.lt
  have csz : (cutH sn.heap G.F).objs.size = G.F := cutH_size (Nat.le_of_lt lt)
  have cu : ∀ b o, b < G.F → sn.heap.get? b = some o → (cutH sn.heap G.F).get? b = some o := fun b o l e => by rw [cutH_get l]; exact e
  have nc : ∀ x, (envOfC qual scope G.F f cd).cells.lookup x = none := fun x => by
    show (cellsFrom (G.F + 1) scope.names []).lookup x = none
    rw [C.cells]; rfl
  have nc' : ∀ {x c} {p : Prop}, (envOfC qual scope G.F f cd).cells.lookup x = some c → p := fun {x c p} e => by rw [nc x] at e; cases e
  have noA : ∀ {b : Addr} {p : Prop}, b ∈ (cxG G mg N qual scope f cd Hw sn).ex → p := fun {b p} z => absurd (show b ∈ ([] : List Addr) from z) (by simp)
  have hlow : ∀ b, b < G.F → G.H1 b = none → Hw b = none := fun b l e => by rw [lo b l]; exact Hw0_none l e
  refine ⟨⟨S.mod, C.kind, rfl, rfl, Nat.le_of_eq csz, fun _ _ _ e _ => nc' e, fun x hx => ?_, fun _ _ _ e => nc' e, fun _ => S.hd, Around.frames_deeper (A := G.A.in1) S.frames, .inr ⟨rfl, rfl⟩, fun b hb => noA hb, fun b o e => ?_, Nat.le_trans S.bsz (Nat.le_of_eq csz.symm), fun b o _ hb => noA hb, fun b hb => noA hb, ?_, fun b hb => ?_⟩,
    rfl, W.bare, Un.kept fun b o e => (cutH_of e).2, ⟨m, hN, fun i x v h1 h2 _ => ?_⟩, fun _ _ e => nc' e, hF, fun _ _ e => nc' e, fun p hp => absurd (show p ∈ ([] : List (Addr × Obj)) ++ [] from hp) (by simp), ok, hl⟩
  · rcases hx with hx | hx
    · exact absurd hx (C.none x).1
    · exact absurd hx (C.none x).2
  · have l := Nat.lt_of_lt_of_le (Heap.lt_size e) S.bsz
    exact ⟨cu b o l (W.bs b o e), hlow b l (S.bnt b o e)⟩
  · exact funs_slots W.funs fun b hb o e => ⟨o.slots, cu b o (S.stk b hb).1 e⟩
  · exact hlow b (S.stk b hb).1 (S.stk b hb).2
  · obtain ⟨u, r, e, k⟩ := hσ i x v h1 h2
    exact ⟨u, r, .inl ⟨k, e⟩⟩
theorem stp_of {pins : List (Addr × Obj)} {H : Hp} (S : GStat G mg) (W : Wk G own sn) (I : Inv (cxG G mg N qual scope f cd Hw sn) pins σ H s1) (hw : ∀ b, ¬ OwnF G.x sn.heap G.F b → Hw b = Hw0 G sn b) (lo : ∀ b, b < G.F → Hw b = Hw0 G sn b)
    (there : ∀ b, OwnF G.x sn.heap G.F b → b ≠ G.F → ∃ o, s1.heap.get? b = some o) : Stp G sn s1 := by
  have frz : ∀ b o u, Hw b = some (.frz o u) → s1.heap.get? b = some o := fun b o u e => (I.hok b _ (I.base.frzs b o u e)).1
  have noA : ∀ b : Addr, b ∉ (cxG G mg N qual scope f cd Hw sn).ex := fun b z => absurd (show b ∈ ([] : List Addr) from z) (by simp)
  have keep : ∀ b o, sn.heap.get? b = some o → ¬ OwnF G.x sn.heap G.F b → b ∉ frs G.stk → s1.heap.get? b = some o := fun b o e no nf => by
    by_cases lt : b < G.F
    · cases q : Hw b with
      | none => exact I.base.keep b o (by show (cutH sn.heap G.F).get? b = _; rw [cutH_get lt]; exact e) q nf (noA b)
      | some u =>
        have q' := q
        rw [hw b no] at q'
        obtain ⟨xs, o', rfl, _, e2⟩ := Hw0_lt lt q'
        rw [e] at e2
        cases e2
        exact frz b o _ q
    · have ne : b ≠ G.F := fun z => no (.inl z)
      have gt : G.F < b := Nat.lt_of_le_of_ne (Nat.le_of_not_lt lt) (Ne.symm ne)
      have q := hw b no
      rw [Hw0_up gt e] at q
      exact frz b o _ q
  have slot : ∀ b o, sn.heap.get? b = some o → b ∈ frs G.stk → ∃ sl, s1.heap.get? b = some { o with slots := sl } := fun b o e hb => by
    obtain ⟨lt, hn⟩ := S.stk b hb
    exact I.base.slot b o (by show (cutH sn.heap G.F).get? b = _; rw [cutH_get lt]; exact e) (by show Hw b = none; rw [lo b lt]; exact Hw0_none lt hn) hb (noA b)
  refine ⟨I.os, I.bare, keep, slot, fun b o e => ?_⟩
  by_cases q : OwnF G.x sn.heap G.F b
  · by_cases ne : b = G.F
    · obtain ⟨m, ⟨o', _, _, e', _⟩, _⟩ := I.loc
      exact ⟨o', by rw [ne]; exact e'⟩
    · exact there b q ne
  · by_cases hb : b ∈ frs G.stk
    · obtain ⟨sl, e1⟩ := slot b o e hb
      exact ⟨_, e1⟩
    · exact ⟨o, keep b o e q hb⟩
end
/-- what a generator def promises: n items, the i-th one as «it» says, read in the tuples of the heap of its making -/
abbrev SpI := List V → Hp → Nat → (Nat → V → Prop) → Prop
def GMk (P : Program) (w : World) (K : PySem.W.Frag) (base : Heap) (A : Around) (outer : List Env) (s : Shared) (H : Hp) (n : Nat) (it : Nat → V → Prop) (u : Value) (s' : Shared) : Prop :=
  ∃ (G : Gs) (fp : List Addr), u = .ref G.a ∧ (G.P = P ∧ G.w = w ∧ G.K = K ∧ G.base = base ∧ G.A = A ∧ G.stk = outer ∧ G.H1 = H ∧ G.n = n ∧ G.it = it) ∧ Slp G 0 fp s' ∧ s'.os = s.os ∧ AllBare s'.gens ∧ (∀ b o, s.heap.get? b = some o → s'.heap.get? b = some o) ∧ (∀ b ∈ fp, s.heap.objs.size ≤ b) ∧
    (∀ h : Heap, h.get? G.a = some G.go → h.IsGen G.a G.g) ∧ A.handled = none ∧ A.depth < recursionLimit
structure GFnG (P : Program) (w : World) (K : PySem.W.Frag) (mg : Str → Option Value) (base : Heap) (k : Nat) (f : Addr) (fd : FuncData) (ps : List Str) (sp : SpI) : Prop where
  len : ∀ vs H n it, sp vs H n it → vs.length = ps.length
  run : ∀ (A : Around) (outer : List Env) (s : Shared) (H : Hp) (args : Args) (us : List Value) (vs : List V) (n : Nat) (it : Nat → V → Prop), Room k A → Env0 P w K mg base A outer s H → BindsTo s fd args (ps.zip us) → Vals vs us → sp vs H n it →
    codeAny (model P w) A (.call (.ref f) args) (fun r s' => match r with | .ok (.ret u) => GMk P w K base A outer s H n it u s' | _ => False) s
/-- a generator def, by its body. x: the one name under which it keeps a list of its own -/
theorem gfnG_of {P : Program} {w : World} {K : PySem.W.Frag} {mg : Str → Option Value} {base : Heap} {k : Nat} {f : Addr} {name qual : Str} {params : Arguments} {body : List Stmt} {scope : Scope} {dV kV doc pm cdv ct oc : Value} {an od : Option Addr}
    {osl : Array (Option Value)} {N ps : List Str} {sp : SpI} (x : Str) (lk : K.lookup f = some ⟨oc, od, .func (PySem.W.fnOf name qual params body scope dV kV doc pm an cdv ct), osl⟩) (hcd : PySem.W.codeIn K cdv qual = true) (C : NoCells scope) (hpre : N.take ps.length = ps) (hnd : N.Nodup)
    (hpar : ∀ y ∈ ps, scope.names.lookup y = some .local) (hx : x ∉ ps) (len : ∀ vs H n it, sp vs H n it → vs.length = ps.length)
    (hbody : ∀ (G : Gs) (vs : List V) (own : List (Addr × Obj)) (sn : Shared), G.P = P → G.w = w → G.K = K → G.base = base → G.x = x → GStat G mg → Room k (G.A.in1.deeper (envOfC qual scope G.F f cdv)) → sp vs G.H1 G.n G.it → Wk G own sn → (G.a, G.go) ∈ own →
      (∀ b, ¬ (OwnF x sn.heap G.F b ∧ b ≠ G.F)) → Inv (cxG G mg N qual scope f cdv (Hw0 G sn) sn) [] (L2.start N vs) (Hw0 G sn) sn →
      Seg (model G.P G.w) G.A.in1 (GRe G) (GYp G) G.n sn (.func body (envOfC qual scope G.F f cdv)) ((model G.P G.w).den (.func body (envOfC qual scope G.F f cdv))) [] sn) :
    GFnG P w K mg base (k + 2) f (PySem.W.fnOf name qual params body scope dV kV doc pm an cdv ct) ps sp := by
  refine ⟨len, fun A outer s H args us vs n it hr e0 hb r hsp => ?_⟩
  have hl := len _ _ _ _ hsp
  have KX : K.In s.heap := e0.mod.kin.keeps fun b o e => (e0.bs b o e).1
  have lim : s.heap.NoLimit := e0.mod.nolimit.keeps fun b o e => (e0.bs b o e).1
  have hkind : ∀ y ∈ ps.zip us, scope.names.lookup y.1 = some .local ∨ (scope.names.lookup y.1 = some .cell ∧ ((cellsFrom (s.heap.objs.size + 1) scope.names []).lookup y.1).isSome = true) := fun ⟨n, v⟩ hy => .inl (hpar n (List.of_mem_zip hy).1)
  refine codeAny_call_generator hr.depth (KX _ _ lk) rfl C.co C.gen rfl (PySem.W.codeRec_of KX hcd) (hb _ _ _ _ ?_)
  refine wpAny_newFunctionEnv_cells C.kind hkind fun env he s1 xx => ?_
  subst he
  have lim1 : s1.heap.NoLimit := lim.keeps xx.toInCall.keep
  refine ⟨lim1, ?_⟩
  obtain ⟨h1, tk, es1, hk1⟩ := xx.done
  have os1 : s1.os = s.os := by rw [es1]
  have gen1 : s1.gens = s.gens := by rw [es1]
  have lt1 : s.heap.objs.size < s1.heap.objs.size := xx.toInCall.ns.lt
  have kp1 : ∀ b o, s.heap.get? b = some o → s1.heap.get? b = some o := xx.toInCall.keep
  have main : ∀ (go : Obj) (nm qn : Value) (tk2 : Nat), go.cls = .type "generator" → go.data = .fields #[.int s1.gens.size 0, nm, qn] → go.slots = #[] → (∀ h : Heap, (h.push go).get? h.objs.size = some go) →
      GMk P w K base A outer s H n it (.ref s1.heap.objs.size) { s1 with gens := s1.gens.push (.fresh (.func body (envOfC qual scope s.heap.objs.size f cdv))), toks := tk2, heap := s1.heap.push go } := by
    intro go nm qn tk2 hgc hgd0 hgs hgp
    have hns := xx.toInCall.ns
    obtain ⟨fo, fes, fep, hfo, hfd, hfr⟩ := id hns
    have hfo2 : (s1.heap.push go).get? s.heap.objs.size = some fo := Heap.get?_push_of_some _ hfo
    have ng : ∀ v, go.data ≠ .cell v := fun v q => by rw [hgd0] at q; cases q
    have nF : ∀ v, fo.data ≠ .cell v := fun v q => by rw [hfd] at q; cases q
    have ownE : ∀ (h : Heap) (b : Addr), h.get? s.heap.objs.size = some fo → OwnF x h s.heap.objs.size b → b = s.heap.objs.size := fun h b e q => by
      rcases q with q | ⟨m, hm, hmx⟩
      · exact q
      · have hn2 : h.Ns s.heap.objs.size _ := ⟨fo, fes, fep, e, hfd, hfr⟩
        have := hn2.agree hm x
        rw [hmx, bindL_out fun v hv => hx (List.of_mem_zip hv).1] at this
        cases this
    refine ⟨⟨P, w, K, base, A, outer, s.heap.objs.size, s1.heap.objs.size, s1.gens.size, go, x, H, n, it⟩, [s1.heap.objs.size, s.heap.objs.size], rfl, ⟨rfl, rfl, rfl, rfl, rfl, rfl, rfl, rfl, rfl⟩,
      ⟨_, [(s1.heap.objs.size, go), (s.heap.objs.size, fo)], Array.getElem?_push_size .., rfl, List.mem_cons_self, fun p hp => ?_, fun b hb => ?_, .inl rfl, fun sn W => ⟨rfl, ?_⟩⟩, os1, ?_, fun b o e => Heap.get?_push_of_some _ (kp1 b o e), fun b hb => ?_, fun h e => ⟨go, nm, qn, e, hgc, hgd0, hgs⟩, hr.hd, hr.depth⟩
    · rcases List.mem_cons.mp hp with z | z
      · rw [z]; exact ⟨hgp _, ng⟩
      · rw [List.mem_singleton.mp z]
        exact ⟨hfo2, nF⟩
    · rw [ownE _ b hfo2 hb]
      exact List.mem_cons_of_mem _ List.mem_cons_self
    · have S : GStat ⟨P, w, K, base, A, outer, s.heap.objs.size, s1.heap.objs.size, s1.gens.size, go, x, H, n, it⟩ mg := by
        refine ⟨e0.mod, e0.bsz, fun b o e => (e0.bs b o e).2, fun b hb => ⟨?_, e0.frf b hb⟩, e0.frames, hr.hd, fun b xs r => ?_, lt1, ng⟩
        · obtain ⟨_, o, ho, _⟩ := e0.funs.mem hb
          exact Heap.lt_size ho
        · exact (r.ok e0.hok).lt
      have eF : sn.heap.get? s.heap.objs.size = some fo := W.own (s.heap.objs.size, fo) (List.mem_cons_of_mem _ List.mem_cons_self)
      refine hbody ⟨P, w, K, base, A, outer, s.heap.objs.size, s1.heap.objs.size, s1.gens.size, go, x, H, n, it⟩ vs [(s1.heap.objs.size, go), (s.heap.objs.size, fo)] sn rfl rfl rfl rfl rfl S ((hr.in1).deeper _) hsp W List.mem_cons_self (fun b z => z.2 (ownE _ b eF z.1)) ?_
      refine inv_wake S C W (fun _ _ => rfl) Hw0_F (Hw0_ok W) (m := bindL (envOfC qual scope s.heap.objs.size f cdv).kindOf (ps.zip us) fun _ => none) ⟨fo, fes, fep, eF, hfd, hfr⟩ ?_ fun i y v h1 h2 => ?_
      · unfold L2.start
        have := congrArg List.length hpre
        rw [List.length_take] at this
        rw [List.length_append, List.length_map, List.length_replicate]
        omega
      · have hi : i < vs.length := by
          unfold L2.start at h2
          by_cases hi : i < vs.length
          · exact hi
          · rw [List.getElem?_append_right (by simpa using hi), List.getElem?_replicate] at h2
            split at h2 <;> cases h2
        have ha : vs[i]? = some v := by
          unfold L2.start at h2
          rw [List.getElem?_append_left (by simpa using hi), List.getElem?_map] at h2
          cases e : vs[i]? with
          | none => rw [e] at h2; cases h2
          | some a => rw [e] at h2; cases h2; rfl
        obtain ⟨u, hu, rv⟩ := r.get ha
        have hp : ps[i]? = some y := by
          rw [← hpre, List.getElem?_take_of_lt (by omega)]; exact h1
        have ndP : ps.Nodup := by rw [← hpre]; exact hnd.sublist (List.take_sublist _ _)
        have k := hpar y (List.mem_of_getElem? hp)
        exact ⟨u, rv, bindL_get ndP hp hu k, k⟩
    · exact AllBare.push (by rw [gen1]; exact e0.bare) rfl
    · rcases List.mem_cons.mp hb with z | z
      · rw [z]; exact Nat.le_of_lt lt1
      · rw [List.mem_singleton.mp z]; exact Nat.le_refl _
  exact main _ _ _ _ rfl rfl rfl fun h => Heap.get?_push_size _ rfl
section
variable {X : Cx} {k : Nat} {f : Addr} {fd : FuncData} {ps : List Str} {sp : SpI} {x : Str} {p pos' : Pos} {e : Expr} {es : List Expr} {t : TA}
def iGen (sp : SpI) (t : TA) : TI := fun σ H R => t σ H fun vs H1 => ∃ n it, sp vs H1 n it ∧ ∀ G : Gs, G.H1 = H1 → G.n = n → G.it = it → R (Itg G) H1
/-- f(e, ..) of a generator def, walked -/
theorem pig_call (F : GFnG X.prog X.w X.K X.mg X.base k f fd ps sp) (hr : Room k X.A) (hg : Gl X x) (hm : X.mg x = some (.ref f)) (hk : PySem.W.keepIn X.K (.ref f) = true) (hb : Binds X.K fd ps [])
    (ha : PA X (e :: es) t) (hdb : (x == ("__debug__" : Str)) = false := by decide) (he : starEach (e :: es) X.env = (false, eval e X.env) :: starEach es X.env := by rfl) (hpl : (backTo pos' (starEach es X.env)).any (·.1) = false := by rfl) :
    PIG X (.Call (.Name x p) (e :: es) [] pos') (iGen sp t) := by
  refine ⟨fun pins s σ H R I h => ?_⟩
  refine wpAny_Call_Name_kw (ld_glob I hg hm ?_ hdb)
  refine PySem.W.callWith_K (h₀ := X.base) I.ok.mod.kin hk (thn (ha.run pos' pins s σ H _ I h) fun us s1 ⟨vs, H1, I1, r, n, it, hsp, q⟩ => ⟨I1.kIn, ?_⟩) he hpl
  have hl2 : us.length = ps.length := by rw [← r.length]; exact F.len _ _ _ _ hsp
  refine wpAny_call (codeAny_mono (F.run X.A X.stack s1 H1 ⟨us, []⟩ us vs n it hr I1.env0 (by have := hb s1 us I1.kIn (by rw [List.append_nil]; exact hl2); rw [List.append_nil] at this; exact this) r hsp) fun r s' hq => ?_)
  cases r with
  | error e => exact False.elim hq
  | ok fl =>
    cases fl with
    | next => exact False.elim hq
    | brk => exact False.elim hq
    | cont => exact False.elim hq
    | ret u =>
      obtain ⟨G, fp, rfl, ⟨e1, e2, e3, e4, e5, e6, e7, e8, e9⟩, st, hos, hba, kp, hfp, hgen, hh, hd⟩ := hq
      have O : GOk G X := ⟨e1.symm, e2.symm, e3.symm, e4.symm, e5.symm, e6.symm, by rw [e5]; exact hh, by rw [e5]; exact hd, hgen⟩
      have I2 : Inv X pins σ H1 s' := I1.call' (ch := []) hos (Un.kept kp) (I1.hok.kept kp) hba fun b z => by simp at z
      refine wpAny_pyIter_gen (st.gen O) ⟨G, fp, H1, rfl, O, I2, st, fun b hb => ?_, q G e7 e8 e9⟩
      exact I1.fpOk (hfp b hb) (I1.hok.fresh (hfp b hb))
end
end GenF
/-! list(g(..)) of an own generator def, run to its end -/
namespace PKL
open PySem PySem.Spec PyProof.Rows GenW L2
structure CalGE (P : Program) (w : World) (K : PySem.W.Frag) (mg : Str → Option Value) (base : Heap) (k : Nat) (x : Str) (sp : SpG) : Prop where
  ex : ∃ (f : Addr) (fd : FuncData) (ps : List Str), GFn P w K mg base k f fd ps sp ∧ mg x = some (.ref f) ∧ PySem.W.keepIn K (.ref f) = true ∧ Binds K fd ps []
theorem no_passes {X : Cx} : Passes (CX X.prog X.w) X C8.E0 := fun pins σ H s e s' I h => by
  obtain ⟨_, _, _, _, _, _, _, _, _, _, _, _, f⟩ := h
  exact f.elim
theorem pe_listOf {X : Cx} {j k : Nat} {x : Str} {sp : SpG} {p p2 pos pos2 : Pos} {e : Expr} {es : List Expr} {t : TA} (c : CalGE X.prog X.w X.K X.mg X.base k x sp) (hr : Room j X.A) (hk : k + 3 ≤ j) (hg2 : Gl X x) (ha : PA X (e :: es) t) (hg : Gl X "list") (hm : X.mg "list" = none) (hv : bootBuiltins "list" = some (.type "list"))
    (hdb : (x == ("__debug__" : Str)) = false := by decide) (he : starEach (e :: es) X.env = (false, eval e X.env) :: starEach es X.env := by rfl) (hpl : (backTo pos2 (starEach es X.env)).any (·.1) = false := by rfl)
    (he2 : starEach [.Call (.Name x p2) (e :: es) [] pos2] X.env = (false, eval (.Call (.Name x p2) (e :: es) [] pos2) X.env) :: starEach [] X.env := by rfl) :
    PE X (.Call (.Name "list" p) [.Call (.Name x p2) (e :: es) [] pos2] [] pos) (tListG (tCallG sp [] C8.E0 t)) := by
  obtain ⟨f, fd, ps, F, m, kp, b⟩ := c
  exact pe_listG (pgen_call F (hr.mono (by omega)) hg2 m kp b .nil ha hdb he hpl) no_passes (fun _ _ _ h => h.elim) (hr.mono hk) hg hm hv (he := he2)
end PKL
/-! del xs[m:], m from 0 to the length -/
namespace L2.PKR
open PySem PySem.Spec PyProof.Rows
theorem from_bounds {m n : Nat} (h : m ≤ n) : sliceBounds (some (m : Int)) none none n = ((m : Int), (n : Int), 1) := by
  simp only [sliceBounds, Option.getD_none]
  have h1 : ¬ (m : Int) < 0 := by omega
  simp only [h1, if_false, show (1 : Int) > 0 by decide, if_true]
  congr 1
  omega
section
variable {prog : Program} {w : World} {A : Around} {E : Value → Shared → Prop} {s : Shared}
theorem del_from {l sl : Addr} {its : List Value} {n m : Nat} {vl : Value} {Q : Unit → Shared → Prop} (e : s.heap.get? l = some { cls := .type "list", data := .seq its.toArray n }) (hs : s.heap.IsSliceOf sl vl .none .none)
    (pl : IsPart vl (some (m : Int))) (hm : m ≤ its.length) (hz : its.length ≤ sizeLine)
    (h : ∀ f : Array Value → Array Value, f its.toArray = (its.take (m)).toArray → Q () { s with heap := s.heap.update l (Obj.mapSeq f) }) : wpAny (model prog w) A (delItem (.ref l) (.ref sl)) Q E s := by
  have hl : s.heap.IsList l its.toArray := PySem.IsL.isList e
  obtain ⟨os, hos, hcs, hds⟩ := id hs
  have ty : s.TypeIs (.ref sl) "slice" := ⟨os, hos, hcs⟩
  refine wpAny_delItem_slot hl.typeIs (by decide) F.slot_list_delitem (wpAny_call_entry F.slot_list_delitem hl.typeIs F.entry_list_delitem ?_ (F.args_list_delitem_2 _ _))
  show wpAny _ _ (Builtin.List.listSubscript? (.ref sl) >>= _) _ _ s
  unfold Builtin.List.listSubscript?
  refine wpAny_bind (wpAny_bind (wpAny_specialOf ty slice_no_index ?_))
  simp only [Option.isNone_none, if_true]
  refine wpAny_pure ?_
  show wpAny _ _ (typeOf (.ref sl) >>= _) _ _ s
  refine wpAny_bind (wpAny_typeOf ty ?_)
  first | (rw [if_neg (by decide)]) | (refine PySem.W.KFB.if_not (by decide) ?_)
  rw [listSliceParts_eq]
  refine wpAny_bind (wpAny_bind (wpAny_field hos hds (x := .none) rfl (wpAny_bind (wpAny_listPart .none ?_)))); rw [if_neg (show ¬ ((rawPart none == rawInt 0) = true) from Bool.false_ne_true)]
  refine wpAny_bind (wpAny_field hos hds (x := vl) rfl (wpAny_bind (wpAny_listPart pl (wpAny_bind (wpAny_field hos hds (x := .none) rfl (wpAny_bind (wpAny_listPart .none (wpAny_pure ?_))))))))
  unfold Builtin.List.listItems
  refine wpAny_bind (wpAny_bind (wpAny_seqItems e rfl (wpAny_pure ?_)))
  refine wpAny_bind (wpAny_of_eq ((sliceIndices_raw (some (m : Int)) none none its.toArray.size (by simp)).trans (congrArg (pure : Int × Int × Int → Sem (Int × Int × Int)) (from_bounds (n := its.toArray.size) (by simpa using hm)))) ?_)
  refine wpAny_bind (wpAny_rule ?_)
  have lt : its.toArray.size = its.length := List.size_toArray
  show wpAny _ _ (updateSeq l _ >>= _) _ _ _
  refine wpAny_bind (wpAny_updateSeq (hz := by rw [lt]; exact hz) (_hz' := ?fit) e rfl (wpAny_bind (wpAny_letGo (wpAny_pure ⟨.none, rfl, h _ (congrArg List.toArray ?same)⟩))))
  case fit =>
    rw [List.size_toArray]
    exact Nat.le_succ_of_le (Nat.le_trans (List.length_filterMap_le _ _) (by rw [List.length_zipIdx]; exact hz))
  case same =>
    refine (keep_first (a := m) its 0 fun k hk => ?_)
    show (if (1 : Int) > 0 then (decide (((m : Nat) : Int) ≤ (k : Int)) && decide ((k : Int) < (its.toArray.size : Int)) && (((k : Int) - ((m : Nat) : Int)) % 1 == 0)) else _) = _
    rw [if_pos (by decide), lt, Int.emod_one]
    have k2 : (k : Int) < (its.length : Int) := by omega
    rw [decide_eq_true k2, Bool.and_true]
    by_cases q : m ≤ k
    · rw [decide_eq_true q, decide_eq_true (show ((m : Nat) : Int) ≤ (k : Int) by omega)]; rfl
    · rw [decide_eq_false q, decide_eq_false (show ¬ ((m : Nat) : Int) ≤ (k : Int) by omega)]; rfl
end
def tDelFrom (to ti : TE) : TS := fun D σ H => to σ H fun x H1 => ti σ H1 fun y H2 => ∃ (l : Addr) (xs : List V) (m : Nat), x = .ref l ∧ y = .int (m : Int) ∧ H2 l = some (.lst xs) ∧ m ≤ xs.length ∧ D.nx σ (upd H2 l (.lst (xs.take m)))
theorem ps_delFrom {X : Cx} {o i : Expr} {to ti : TE} {p2 tpos pos : Pos} (ho : PE X o to) (hi : PE X i ti) : PS X (.Delete [.Subscript o (.Slice (some i) none none p2) tpos] pos) (tDelFrom to ti) := by
  refine ⟨fun pins s σ H D I h => wpAny_Delete (wpAny_deleteEach_cons (wpAny_delete_Subscript (thn (ho.run pins s σ H _ I h) fun u s1 ⟨x, H1, I1, rx, q1⟩ => wpAny_Slice ?_)))⟩
  rw [evalPart_some]
  refine thn (hi.run pins s1 σ H1 _ I1 q1) fun v s2 ⟨y, H2, I2, ry, l, xs, m, ex, ey, hH, hm, q2⟩ => ?_
  subst ex ey
  cases (show u = Value.ref l from rx)
  obtain ⟨t, rfl⟩ := (show ∃ t, v = Value.int (m : Int) t from ry)
  rw [evalPart_none]
  refine wpAny_pure (wpAny_pure ?_)
  have I3 : Inv X pins σ H2 { s2 with heap := s2.heap.push { cls := .type "slice", data := .fields #[.int (m : Int) t, .none, .none] } } := I2.kept (t' := s2.toks) fun b ob z => Heap.get?_push_of_some _ z
  obtain ⟨hz, its, n, r, hl, e⟩ := I3.lstM hH
  refine del_from (m := m) e (Heap.IsSliceOf.new ..) (.int _ _) (by omega) (by omega) fun f hf => wpAny_deleteEach_nil ⟨σ, _, I3.lset (its' := its.take (m)) (t' := s2.toks) hH e hf (by exact r.take _) (by rw [List.length_take]; omega), q2⟩
end L2.PKR
/-! tuple(list), the new tuple known to its object; dict(t) of such a tuple of pairs -/
namespace PKD
open PySem PySem.Spec PyProof.Rows L2
theorem tuple_keys_none : typeLookup (.type "tuple") "keys" = pure none := am_miss_of_fast (by first | decide +kernel | rfl)
section
variable {prog : Program} {w : World} {A : Around} {E : Value → Shared → Prop}
/-- a tuple has no attribute 'keys' -/
theorem miss_tuple {s : Shared} {a : Addr} {o : Obj} {xs : Array Value} {k : Nat} {Q : Option Value → Shared → Prop} (hx : s.heap.get? a = some o) (hc : o.cls = .type "tuple") (hdat : o.data = .seq xs k) (hd : o.dict = none) (hA : A.handled = none)
    (h : ∀ h' tk, (∀ b ob, s.heap.get? b = some ob → h'.get? b = some ob) → Q none { s with heap := h', toks := tk }) : wpAny (model prog w) A (getAttr? (.ref a) "keys") Q E s := by
  obtain ⟨c, dct, dat, sl⟩ := o
  simp only at hc hdat hd
  subst hc hdat hd
  obtain ⟨hp, g, d, tk, os⟩ := s
  have hT : ∀ tk', (⟨hp, g, d, tk', os⟩ : Shared).TypeIs (.ref a) "tuple" := fun _ => ⟨_, hx, rfl⟩
  have hmiss := tuple_keys_none
  have hname : (["__module__", "__name__", "__qualname__", "__doc__", "__annotations__"] : List Str).contains "keys" = false := by decide +kernel
  have hsz : ("keys" : Str).length + 100 ≤ sizeLine := by first | size_fits | decide +kernel
  have f1 := sub_AttributeError
  have f3 := PySem.F.slot_tuple_getattribute.lookup
  have f4 := PySem.F.slot_tuple_getattribute.bind (.ref a)
  have f5 := am_tuple_getattr_none
  unfold getAttr? getAttrBy? getAttrBy
  repeat (any_goals (first | assumption | exact hT _ | ((with_reducible show wpAny _ _ (call (Value.builtin "tuple.__getattribute__") _ _) _ _ _); refine call_meets PySem.F.slot_tuple_getattribute (hT _) am_entry_tuple_getattribute (PySem.F.args_tuple_getattribute_2 _ _) (meets_getattribute_miss_tuple a xs k sl "keys" _ hmiss hname hsz) ⟨hx, hA, fun h' tk' e hx' => ?_⟩) | wp_step))
  obtain ⟨t', u', he⟩ := hx'.there
  show wpAny _ _ (getattributeRaised _ _ _ _ _ _ _) _ _ _
  unfold getattributeRaised
  repeat (any_goals (first | assumption | wp_step))
  all_goals first | exact h _ _ hx'.keeps | (dsimp only; repeat (any_goals (first | assumption | exact h _ _ hx'.keeps | wp_step)))
/-- the walk over the pairs of a tuple -/
theorem upd_loopT {R : Result → Shared → Prop} {S I l : Addr} {items : Array Value} {res : Value} (hh : A.handled = none) (hlI : l ≠ I) (hSI : S ≠ I) (hSl : S ≠ l) :
    ∀ (rest : List (Key × Value)) (i : Nat) (acc : List (Key × Value)) (ix : Int) (t : Tok) (s : Shared), items.size = i + rest.length → acc.length + rest.length ≤ sizeLine →
      (∀ (j : Nat) (q : Key × Value), rest[j]? = some q → ∃ (b : Addr) (u : Value), items[i + j]? = some (.ref b) ∧ b ≠ S ∧ b ≠ I ∧ IsTup s.heap b #[u, q.2] ∧ keyIs q.1 u = true) →
      s.heap.IsTupleIter I l i → s.heap.IsTuple l items → s.heap.DictOf (mixKind prog w) S acc →
      (∀ h' tk, h'.DictOf (mixKind prog w) S (merged acc rest) → (∀ b o, b ≠ S → b ≠ I → s.heap.get? b = some o → h'.get? b = some o) → R (.ok (.ret res)) { s with heap := h', toks := tk }) →
      codeAny (model prog w) A (.builtin "dict.update.loop" ⟨[.ref S, .ref I, .int ix t, res], []⟩) R s
  | [], i, acc, ix, t, s, hsz, hln, ht, hit, hl, hm, hR => by
    refine codeAny_builtin ud_entry ?_
    rw [Around.under_plainId ud_plain _]
    show wpAny _ A.in1 (pyNext (.ref I) >>= _) _ _ s
    refine wpAny_bind (wpAny_pyNext_tuple_end (A := A.in1) hh hit hl (by first | exact Array.getElem?_eq_none (Nat.le_of_eq hsz) | (simp at hsz; simp; omega)) fun h' he => ?_)
    show wpAny _ A.in1 (Builtin.Dict.addKeywords S [] >>= _) _ _ _
    refine wpAny_bind (wpAny_pure (wpAny_pure ?_))
    exact hR h' s.toks (hm.extBut he hSI) fun b o _ hb e => he b o hb e
  | q :: rest, i, acc, ix, t, s, hsz, hln, ht, hit, hl, hm, hR => by
    obtain ⟨b, u, hb, hbS, hbI, htup, hk⟩ := ht 0 q rfl
    rw [List.length_cons] at hsz hln
    refine codeAny_builtin ud_entry ?_
    rw [Around.under_plainId ud_plain _]
    show wpAny _ A.in1 (pyNext (.ref I) >>= _) _ _ s
    refine wpAny_bind (wpAny_pyNext_tuple_item (x := .ref b) hit hl (by simpa using hb) fun h1 hit1 hs1 => ?_)
    have ht1 : IsTup h1 b #[u, q.2] := htup.extBut hs1.extBut hbI
    have hl1 : h1.IsTuple l items := hl.extBut hs1.extBut hlI
    have hm1 : h1.DictOf (mixKind prog w) S acc := hm.extBut hs1.extBut hSI
    obtain ⟨o, ho, hc, n, hd⟩ := id ht1
    show wpAny _ A.in1 (holding [Value.ref b] _ >>= _) _ _ _
    refine wpAny_bind (wpAny_holding ?_)
    refine wpAny_bind (wpAny_tryCatch ?_)
    unfold Builtin.Dict.pairItems
    refine wpAny_bind (wpAny_typeOf (T := "tuple") ⟨o, ho, hc⟩ ?_)
    rw [if_pos (by first | decide | rfl | simp)]
    refine wpAny_bind (wpAny_seqItems ho hd (wpAny_pure ?_))
    show wpAny _ A.in1 (holding [u, q.2] (dictSet S u q.2)) _ _ _
    refine wpAny_holding (wpAny_dictSet_pairs (knd := mixKind prog w) (k := q.1) hk hm1 (fun h2 hm2 hs2 => ?_) (by omega))
    refine wpAny_pure ⟨plainId_quiet ud_plain _, upd_loopT (items := items) hh hlI hSI hSl rest (i + 1) (stored acc q.1 q.2) (ix + 1) 0 _ (show items.size = i + 1 + rest.length by omega) ?_ (fun j q' e => ?_) ?_ ?_ hm2 fun h' tk hd' k => ?_⟩
    · have z := stored_length_le acc q.1 q.2
      omega
    · obtain ⟨b', u', hb', hbS', hbI', htup', hk'⟩ := ht (j + 1) q' (by simpa using e)
      refine ⟨b', u', ?_, hbS', hbI', (htup'.extBut hs1.extBut hbI').extBut hs2.extBut hbS', hk'⟩
      rw [show i + 1 + j = i + (j + 1) by omega]
      exact hb'
    · exact hit1.at fun o' e => hs2.extBut I o' (Ne.symm hSI) e
    · exact hl1.extBut hs2.extBut (Ne.symm hSl)
    · exact hR h' tk hd' fun c oc h3 h4 e => k c oc h3 h4 (hs2.extBut c oc h3 (hs1.extBut c oc h4 e))
/-- dict(t) of a tuple of pairs -/
theorem call_dict_pairsT {s : Shared} {l : Addr} {ol : Obj} {items : Array Value} {n : Nat} {prs : List (Key × Value)} {Q : Value → Shared → Prop} (hh : A.handled = none) (hl : s.heap.get? l = some ol) (hc : ol.cls = .type "tuple") (hd : ol.dict = none)
    (hdat : ol.data = .seq items n) (hsz : items.size = prs.length) (hln : prs.length ≤ sizeLine)
    (ht : ∀ (j : Nat) (q : Key × Value), prs[j]? = some q → ∃ (b : Addr) (u : Value), items[j]? = some (.ref b) ∧ IsTup s.heap b #[u, q.2] ∧ keyIs q.1 u = true)
    (h : ∀ h' tk, h'.DictOf (mixKind prog w) s.heap.objs.size (merged [] prs) → (∀ b o, s.heap.get? b = some o → h'.get? b = some o) → Q (.ref s.heap.objs.size) { s with heap := h', toks := tk }) :
    wpAny (model prog w) A (call (.type "dict") [.ref l]) Q E s := by
  refine callType_codes (Q₁ := fun obj s₁ => obj = .ref s.heap.objs.size ∧ s₁ = { s with heap := s.heap.push { cls := .type "dict", data := .dict #[] } }) PySem.F.kt_called_dict (PySem.F.kt_typeCall_dict_1 _) PySem.F.entry_dict_init (kt_code_dict_new _ ⟨rfl, rfl⟩) ?_
  rintro obj s₁ ⟨rfl, rfl⟩
  have hnew : (s.heap.push { cls := .type "dict", data := .dict #[] }).DictOf (mixKind prog w) s.heap.objs.size [] := Heap.DictOf.new s.heap
  have k0 : ∀ b o, s.heap.get? b = some o → (s.heap.push { cls := .type "dict", data := .dict #[] }).get? b = some o := fun b o e => Heap.get?_push_of_some _ e
  refine ⟨hnew.typeIs, PySem.F.args_dict_init_2 _ _, ?_⟩
  unfold Builtin.«dict.__init__»
  refine wpAny_bind ?_
  unfold Builtin.Dict.selfAndRest
  refine wpAny_bind (wpAny_notOrdered_dict hnew.typeIs ?_)
  show wpAny _ _ (pure (s.heap.objs.size, [Value.ref l])) _ _ _
  refine wpAny_pure ?_
  show wpAny _ _ (Builtin.Dict.updateFrom "dict.__init__" s.heap.objs.size (.ref l) [] .none) _ _ _
  unfold Builtin.Dict.updateFrom
  refine wpAny_bind (wpAny_typeOf (T := "tuple") ⟨ol, k0 _ _ hl, hc⟩ ?_)
  rw [if_pos (by first | decide | rfl | simp)]
  refine wpAny_bind (miss_tuple (k0 _ _ hl) hc hdat hd hh fun h1 tk1 hk1 => ?_)
  rw [if_pos (show (none : Option Value).isNone = true from rfl)]
  refine wpAny_bind (wpAny_rule ?_)
  have hl1 : h1.IsTuple l items := ⟨ol, hk1 _ _ (k0 _ _ hl), hc, n, hdat⟩
  have hS1 : s.heap.objs.size < h1.objs.size := by
    have e : (s.heap.push { cls := .type "dict", data := .dict #[] }).get? s.heap.objs.size = some { cls := .type "dict", data := .dict #[] } := Heap.get?_push_size _ rfl
    exact Heap.lt_size (hk1 _ _ e)
  refine wpAny_bind (wpAny_pyIter_tuple hl1 ?_)
  have k2 : ∀ b o, h1.get? b = some o → (h1.push { cls := .type "tuple_iterator", data := .fields #[.ref l, .int 0 0] }).get? b = some o := fun b o e => Heap.get?_push_of_some _ e
  have hlt : l < s.heap.objs.size := Heap.lt_size hl
  have key := upd_loopT (prog := prog) (w := w) (A := A.in1) (R := wants (fun r s₂ => r = .none ∧ Q (.ref s.heap.objs.size) s₂) E) (S := s.heap.objs.size) (I := h1.objs.size) (l := l) (items := items) (res := Value.none) hh
    (Nat.ne_of_lt (Nat.lt_trans hlt hS1)) (Nat.ne_of_lt hS1) (Nat.ne_of_gt hlt) prs 0 [] 0 0
    { s with heap := h1.push { cls := .type "tuple_iterator", data := .fields #[.ref l, .int 0 0] }, toks := tk1 } (by rw [hsz, Nat.zero_add]) (by rw [List.length_nil, Nat.zero_add]; exact hln)
    (fun j q e => by
      obtain ⟨b, u, e1, e2, e3⟩ := ht j q e
      have hb : b < s.heap.objs.size := e2.lt
      exact ⟨b, u, by rw [Nat.zero_add]; exact e1, Nat.ne_of_lt hb, Nat.ne_of_lt (Nat.lt_trans hb hS1), e2.keeps fun c o z => k2 _ _ (hk1 _ _ (k0 _ _ z)), e3⟩)
    ⟨_, Heap.get?_push_size _ rfl, rfl, rfl⟩ (hl1.at fun o e => k2 _ _ e) ((hnew.at fun o e => hk1 _ _ e).at fun o e => k2 _ _ e)
    (fun h' tk hd' k => ⟨rfl, h h' tk hd' fun b o e => k b o (Nat.ne_of_lt (Heap.lt_size e)) (Nat.ne_of_lt (Nat.lt_trans (Heap.lt_size e) hS1)) (k2 _ _ (hk1 _ _ (k0 _ _ e)))⟩)
  first
    | exact wpAny_pure ⟨plainId_quiet ud_plain _, key⟩
    | exact wpAny_bind (wpAny_pure (wpAny_pure ⟨plainId_quiet ud_plain _, key⟩))
end
section
variable {X : Cx}
/-- tuple(list), the new tuple known to its object -/
def rTupF (K : PySem.W.Frag) : List V → Hp → VK → Prop := fun xs H Q => ∃ p ys, xs = [.ref p] ∧ SqL K H p ys ∧ ∀ (l : Addr) (o : Obj), H l = none → o.dict = none → Q (.ref l) (upd H l (.frz o (.tup ys)))
theorem call_tupleF : CallR X (.type "tuple") (rTupF X.K) := by
  intro pins s σ H xs us Q I r h
  obtain ⟨p, ys, rfl, hq, q⟩ := h
  obtain ⟨u, rfl, rx⟩ := vals1 r
  cases rx
  obtain ⟨its, r', pl, hz⟩ := I.list hq
  have hlen := r'.length
  refine call_tuple_list pl.isList (fun h' kp => ?_) (by simp only [List.size_toArray] <;> omega)
  have I1 : Inv X pins σ H { s with heap := h' } := I.kept (t' := s.toks) kp
  have I2 : Inv X pins σ (upd H h'.objs.size (.frz { cls := .type "tuple", data := .seq its.toArray } (.tup ys))) { s with heap := h'.push { cls := .type "tuple", data := .seq its.toArray } } :=
    I1.laid (t' := s.toks) (fun b o e => Heap.get?_push_of_some _ e) (Nat.le_refl _) (show ObjOk X.prog X.w _ _ _ (.frz _ (.tup ys)) from ⟨Heap.get?_push_size _ rfl, hz, its, r', IsTup.new _ _⟩)
  exact ⟨.ref h'.objs.size, _, I2, rfl, q _ _ (I1.hok.fresh (Nat.le_refl _)) rfl⟩
/-- dict(t) of a tuple of pairs (key, value), known to its object: later pairs win, the place is the first one's -/
def rDictT (K : PySem.W.Frag) : List V → Hp → VK → Prop := fun xs H Q => ∃ (a : Addr) (o : Obj) (ps : List Addr) (kvs : List (Key × V)), xs = [.ref a] ∧ H a = some (.frz o (.tup (ps.map V.ref))) ∧ o.dict = none ∧ Paired (fun p kv => SqT K H p [kV kv.1, kv.2]) ps kvs ∧
    ∀ p, H p = none → Q (.ref p) (upd H p (.dK (mergeK [] kvs)))
theorem call_dictT (hcalm : X.calm = true) : CallR X (.type "dict") (rDictT X.K) := by
  intro pins s σ H xs us Q I r q
  obtain ⟨a, o, ps, kvs, rfl, hf, hod, hp, q⟩ := q
  obtain ⟨u, rfl, rx⟩ := vals1 r
  cases rx
  obtain ⟨ho, hz, its, rv, o', ho', hc, n, hdat⟩ : s.heap.get? a = some o ∧ (ps.map V.ref).length ≤ sizeLine ∧ ∃ its : List Value, Vals (ps.map V.ref) its ∧ IsTup s.heap a its.toArray := (show ObjOk X.prog X.w H s.heap a (.frz o (.tup (ps.map V.ref))) from I.hok a _ hf)
  rw [ho] at ho'
  cases ho'
  have ei := refs_at rv
  subst ei
  rw [List.length_map] at hz
  obtain ⟨prs, rel, hl, hpr⟩ := pairs_of I hp
  refine call_dict_pairsT (prs := prs) (I.ok.hd hcalm) ho hc hod hdat (by simp [hl]) (by rw [hl]; exact hz) (fun j q' e => ?_) fun h' tk hd' k => ?_
  · obtain ⟨b, u, e1, e2, e3⟩ := hpr j q' e
    exact ⟨b, u, by simp [e1], e2, e3⟩
  · have hm : (s.heap.objs.size == sysModules) = false := beq_eq_false_iff_ne.mpr (Nat.ne_of_gt I.big)
    have hlen : (mergeK [] kvs).length ≤ sizeLine := by
      refine Nat.le_trans (length_mergeK kvs []) ?_
      rw [List.length_nil, Nat.zero_add, rel.length, hl]
      exact hz
    exact ⟨.ref s.heap.objs.size, upd H s.heap.objs.size (.dK (mergeK [] kvs)), I.laid (t' := tk) k (Nat.le_refl _) (show ObjOk X.prog X.w _ _ _ (.dK (mergeK [] kvs)) from ⟨hlen, hm, merged [] prs, KV.merge rel .nil, hd'⟩), rfl, q _ (I.hok.fresh (Nat.le_refl _))⟩
/-- d.update(d2), dicts of ints and texts -/
def rUpdD : V → List V → Hp → VK → Prop := fun x vs H Q => ∃ (a b : Addr) (kvs more : List (Key × V)), x = .ref a ∧ vs = [.ref b] ∧ a ≠ b ∧ H a = some (.dK kvs) ∧ H b = some (.dK more) ∧ kvs.length + more.length ≤ sizeLine ∧ Q .non (upd H a (.dK (mergeK kvs more)))
theorem mt_update : MtM X "dict.update" rUpdD := by
  intro pins s σ H x vs v us Q I rx rv h
  obtain ⟨a, b, kvs, more, rfl, rfl, ne, ha, hb, hl, q⟩ := h
  cases rx
  obtain ⟨u, rfl, ru⟩ := rv.one
  cases ru
  obtain ⟨z, hd, vs, rel, dd⟩ := dk_of I.hok ha
  obtain ⟨z2, hd2, vs2, rel2, dd2⟩ := dk_of I.hok hb
  refine call_meetsIn PySem.F.slot_dict_update dd.typeIs PySem.F.entry_dict_update (PySem.F.args_dict_update_2 _ _) (meets_dict_update (mixKind X.prog X.w) a b ne hd2) ⟨vs, vs2, dd, dd2, by rw [← rel.length, ← rel2.length]; exact hl, fun h' dd' _ hs => ?_⟩
  have he : ∃ q, h'.get? a = some q := let ⟨q, _, _, hq, _⟩ := dd'; ⟨q, hq⟩
  have hz : (mergeK kvs more).length ≤ sizeLine := Nat.le_trans (length_mergeK more kvs) hl
  exact ⟨.non, _, d_write (t' := s.toks) I (by rw [ha]; exact True.intro) hs he (dk_new hz hd (KV.merge rel2 rel) dd'), rfl, q⟩
end
end PKD
namespace PKE
open PySem L2
/-! == and != of data of any depth that there is room for -/
section
variable {X : Cx}
def rEqN (K : PySem.W.Frag) (n : Nat) : R2 := fun x y H Q => ∃ d e, Dp K H x d ∧ Dp K H y e ∧ d.canLay0 = true ∧ e.canLay0 = true ∧ (d.depth ≤ n ∨ e.depth ≤ n) ∧ Q (.bl (PyData.eqv d e)) H
theorem op_eqN {n : Nat} (hu : X.A.units + n < cLine) : OpR X (compareOp .Eq) (rEqN X.K n) := by
  intro pins s σ H x y v u Q I rx ry h
  obtain ⟨d, e, hd, he, sd, se, hn, q⟩ := h
  obtain ⟨as, r1⟩ := Dp.reads I d x v hd rx
  obtain ⟨bs, r2⟩ := Dp.reads I e y u he ry
  refine SeqAt.compareEq_reads r1 r2 sd se ?_ ⟨.bl _, H, I, rfl, q⟩
  rcases hn with h | h
  · exact Nat.lt_of_le_of_lt (Nat.add_le_add_left (Nat.le_trans (Nat.min_le_left _ _) h) _) hu
  · exact Nat.lt_of_le_of_lt (Nat.add_le_add_left (Nat.le_trans (Nat.min_le_right _ _) h) _) hu
end
end PKE
namespace PKE
open PySem L2
/-! != of data of any depth that there is room for -/
section
variable {X : Cx}
def rNeN (K : PySem.W.Frag) (n : Nat) : R2 := fun x y H Q => ∃ d e, Dp K H x d ∧ Dp K H y e ∧ d.canLay0 = true ∧ e.canLay0 = true ∧ (d.depth ≤ n ∨ e.depth ≤ n) ∧ Q (.bl (!PyData.eqv d e)) H
theorem op_neN {n : Nat} (hu : X.A.units + n < cLine) : OpR X (compareOp .NotEq) (rNeN X.K n) := by
  intro pins s σ H x y v u Q I rx ry h
  obtain ⟨d, e, hd, he, sd, se, hn, q⟩ := h
  obtain ⟨as, r1⟩ := Dp.reads I d x v hd rx
  obtain ⟨bs, r2⟩ := Dp.reads I e y u he ry
  refine SeqAt.compareNe_reads r1 r2 sd se ?_ ⟨.bl _, H, I, rfl, q⟩
  rcases hn with h | h
  · exact Nat.lt_of_le_of_lt (Nat.add_le_add_left (Nat.le_trans (Nat.min_le_left _ _) h) _) hu
  · exact Nat.lt_of_le_of_lt (Nat.add_le_add_left (Nat.le_trans (Nat.min_le_right _ _) h) _) hu
end
end PKE
namespace PK
open PySem L2
def topS (i : Nat) : Stmt := PySem.Challenge.pw_passproven_k33_symbolic_terms.main.body.getD i (.Pass ⟨0, 0, 0, 0⟩)
/-- xs[j] of a name -/
theorem vIx {K : PySem.W.Frag} {σ : L2.St} {H : Hp} {Q : VK} {i : Nat} {p : Addr} {xs : List V} {j : Int} {v : V} (h : σ[i]? = some (some (.ref p))) (hl : H p = some (.lst xs)) (ha : atI xs j = some v) (q : Q v H) :
    tOp (rIxL K) (tVar i) (tC (.int j)) σ H Q := ⟨_, h, p, xs, j, v, rfl, rfl, SqL.of hl, ha, q⟩
structure Txt (K : PySem.W.Frag) (mg : Str → Option Value) : Prop where
  z_len : mg "len" = none
  z_int : mg "int" = none
  z_range : mg "range" = none
  z_min : mg "min" = none
  z_str : mg "str" = none
  z_tuple : mg "tuple" = none
  z_sorted : mg "sorted" = none
  z_isinstance : mg "isinstance" = none
  z_any : mg "any" = none
  z_all : mg "all" = none
  z_list : mg "list" = none
  z_bool : mg "bool" = none
/-- all but what stands at l is as it was -/
def Keep (l : Addr) (H H' : Hp) : Prop := ∀ b o, b ≠ l → H b = some o → H' b = some o
def PoolR (H : Hp) (l c : Addr) (pos : Prop) : Prop := ∃ (ns : List Int) (i r s : Int), H l = some (.lst [.ref c, .int i, .int r, .int s]) ∧ H c = some (.lst (ns.map V.int)) ∧ c ≠ l ∧ (∀ n ∈ ns, 0 ≤ n) ∧ 0 ≤ i ∧ 0 ≤ r ∧ 0 ≤ s ∧ s < 2147483647 ∧ (pos → 0 < r)
abbrev Pool (H : Hp) (l c : Addr) : Prop := PoolR H l c False
/-- from H to H' the pool at l was drawn from, all else is kept -/
structure Ext (l c : Addr) (H H' : Hp) : Prop where
  keep : Keep l H H'
  pool : Pool H' l c
theorem Pool.ne {H : Hp} {l c p : Addr} (P : Pool H l c) (h : H p = none) : p ≠ l ∧ p ≠ c := by
  obtain ⟨ns, i, r, s, hl, hc, _⟩ := P
  exact ⟨(ne_of_none hl h).symm, (ne_of_none hc h).symm⟩
theorem Pool.upd {H : Hp} {l c p : Addr} {o : HO} (P : Pool H l c) (h1 : p ≠ l) (h2 : p ≠ c) : Pool (upd H p o) l c := by
  obtain ⟨ns, i, r, s, hl, hc, z⟩ := P
  exact ⟨ns, i, r, s, by rw [upd_ne h1.symm]; exact hl, by rw [upd_ne h2.symm]; exact hc, z⟩
theorem Ext.refl {l c : Addr} {H : Hp} (P : Pool H l c) : Ext l c H H := ⟨fun _ _ _ h => h, P⟩
theorem Ext.trans {l c : Addr} {H H1 H2 : Hp} (x : Ext l c H H1) (y : Ext l c H1 H2) : Ext l c H H2 := ⟨fun b o hb h => y.keep b o hb (x.keep b o hb h), y.pool⟩
/-- what was free ahead of the draws was free -/
theorem Ext.free {l c p : Addr} {H H' : Hp} (x : Ext l c H H') (P : Pool H l c) (h : H' p = none) : H p = none := by
  cases e : H p with
  | none => rfl
  | some o =>
    by_cases hb : p = l
    · subst hb
      obtain ⟨ns, i, r, s, hl, _⟩ := x.pool
      rw [hl] at h; cases h
    · rw [x.keep p o hb e] at h; cases h
theorem Ext.upd {l c p : Addr} {H H' : Hp} {o : HO} (x : Ext l c H H') (P : Pool H l c) (h : H p = none) : Ext l c H (L2.upd H' p o) :=
  ⟨fun b u hb hu => by rw [upd_ne (ne_of_none hu h)]; exact x.keep b u hb hu, x.pool.upd (P.ne h).1 (P.ne h).2⟩
theorem Ext.new {l c p : Addr} {H H' : Hp} {o : HO} (x : Ext l c H H') (P : Pool H l c) (h : H' p = none) : Ext l c H (L2.upd H' p o) := x.upd P (x.free P h)
theorem Ext.seqT {l c a : Addr} {K : PySem.W.Frag} {H H' : Hp} {xs : List V} (x : Ext l c H H') (P : Pool H l c) (h : SqT K H a xs) : SqT K H' a xs := by
  have nl : ∀ {o : HO}, H a = some o → (∀ ys, o ≠ .lst ys) → a ≠ l := fun e d z => by
    subst z
    obtain ⟨ns, i, r, s, hl, _⟩ := P
    rw [hl] at e; cases e
    exact d _ rfl
  rcases h with (h | ⟨o, h⟩) | h
  · exact .inl (.inl (x.keep _ _ (nl h (fun _ => HO.noConfusion)) h))
  · exact .inl (.inr ⟨o, x.keep _ _ (nl h (fun _ => HO.noConfusion)) h⟩)
  · exact .inr h
def spTake (n : Nat) : Sp := fun vs H Q _ => ∃ (l c : Addr) (m : Int) (p : Prop), vs = [.ref l, .int m] ∧ PoolR H l c p ∧ 0 < m ∧ m < 18446744073709551616 ∧ (2 ≤ n ∨ (1 ≤ n ∧ p)) ∧
  ∀ (d : Int) (H' : Hp), 0 ≤ d → d < m → Ext l c H H' → Q (.int d) H'
theorem vTake {σ : L2.St} {H : Hp} {Q : VK} {i : Nat} {m : Int} {l c : Addr} (h : σ[i]? = some (some (.ref l))) (P : Pool H l c) (h0 : 0 < m) (hm : m < 18446744073709551616)
    (q : ∀ (d : Int) (H' : Hp), 0 ≤ d → d < m → Ext l c H H' → Q (.int d) H') : tCall (spTake 2) [] E0 (tCons (tVar i) (tCons (tC (.int m)) tNil)) σ H Q :=
  ⟨_, h, l, c, m, False, rfl, P, h0, hm, .inl (Nat.le_refl 2), q⟩
section
variable {P : Program} {w : World} {K : PySem.W.Frag} {mg : Str → Option Value} {base : Heap}
abbrev s_law_take : Stmt := topS 16
theorem sc_law_take : FnScope ["pool", "many", "digit", "cell", "mixed"] ["pool", "many"] (defScope s_law_take) := ⟨rfl, rfl, rfl, by decide +kernel, rfl, by decide +kernel, by decide +kernel⟩
-- slots: 0:pool 1:many 2:digit 3:cell 4:mixed
theorem ok_take {n : Nat} {f : Addr} {fd : FuncData} (F : Fun K "_law_take" "_law_take" s_law_take f fd) (T : Txt K mg) (C_law_take : C8.Cal P w K mg base n "_law_take" (spTake n) []) :
    FnOk P w K mg base CX0 (n + 1) f fd ["pool", "many"] (spTake (n + 1)) := by
  refine F.ok sc_law_take (fun vs H Q E h => ?_) (fun cdv A outer s H vs Q E hr h => ?_)
  · obtain ⟨l, c, m, p, rfl, _⟩ := h
    rfl
  obtain ⟨l, c, m, p, rfl, ⟨ns, i, r, st, hl, hc, hcl, hns, hi, h0r, hs, hs2, hp⟩, hm, hm2, hn, q⟩ := h
  have hk : n ≤ n := Nat.le_refl n
  refine ⟨_, (pss_cons (ps_if (pt_cmpR op_gt (pe_ix ix_list (pv 0) pe_int (fun _ _ => rfl)) pe_int (nomark _)) (pss_cons (ps_set (i := 2) sc_law_take.nd rfl (Or.inl rfl) (pe_op op_mod (pe_callTy call_int1 (by rfl) T.z_int (by decide +kernel) (pa_cons (pe_ix ix_list (pv 0) pe_int (fun _ _ => rfl)) pa_nil)) (pv 1)))
    (pss_cons (ps_asg (pe_op op_fdivW (pe_ix ix_list (pv 0) pe_int (fun _ _ => rfl)) (pv 1)) (pg_sub (pv 0) pe_int set_list))
    (pss_one (ps_ret (pv 2))))) pss_nil)
    (pss_cons (ps_set (i := 3) sc_law_take.nd rfl (Or.inl rfl) pe_int)
    (C8.pss_cut (ps_if (pt_cmpR op_lt (pe_ix ix_list (pv 0) pe_int (fun _ _ => rfl)) (pe_callB call_len_seq (by rfl) T.z_len (by decide +kernel) (pa_cons (pe_ix ix_list (pv 0) pe_int (fun _ _ => rfl)) pa_nil)) (nomark _)) (pss_one (ps_set (i := 3) sc_law_take.nd rfl (Or.inl rfl) (pe_ix ix_list (pe_ix ix_list (pv 0) pe_int (fun _ _ => rfl)) (pe_ix ix_list (pv 0) pe_int (fun _ _ => rfl)) (fun _ _ => rfl)))) pss_nil)
    (pss_cons (ps_asg (pe_op op_add (pe_ix ix_list (pv 0) pe_int (fun _ _ => rfl)) pe_int) (pg_sub (pv 0) pe_int set_list))
    (pss_cons (ps_if (pt_cmpR op_ge (pv 3) (pe_op op_pow pe_int pe_int) (nomark _)) (pss_cons (ps_asg (pe_op op_fdivW (pv 3) pe_int) (pg_sub (pv 0) pe_int set_list))
    (pss_one (ps_ret (C8.pe_c C_law_take hr hk rfl (pa_cons (pv 0) (pa_cons (pv 1) pa_nil)))))) pss_nil)
    (pss_cons (ps_asg (pe_op op_mod (pe_callTy call_int1 (by rfl) T.z_int (by decide +kernel) (pa_cons (pe_op op_add (pe_op op_add (pe_op op_mul (pe_ix ix_list (pv 0) pe_int (fun _ _ => rfl)) pe_int) (pe_op op_mul (pv 3) pe_int)) (pe_op op_mul (pe_ix ix_list (pv 0) pe_int (fun _ _ => rfl)) pe_int)) pa_nil)) pe_int) (pg_sub (pv 0) pe_int set_list))
    (pss_cons (ps_set (i := 4) sc_law_take.nd rfl (Or.inl rfl) (pe_op op_mod (pe_callTy call_int1 (by rfl) T.z_int (by decide +kernel) (pa_cons (pe_op op_add (pe_op op_add (pe_op op_mul (pe_ix ix_list (pv 0) pe_int (fun _ _ => rfl)) (pe_ix ix_list (pv 0) pe_int (fun _ _ => rfl))) (pe_op op_mul (pe_ix ix_list (pv 0) pe_int (fun _ _ => rfl)) pe_int)) pe_int) pa_nil)) pe_int))
    (pss_one (ps_ret (pe_op op_mod (pe_callTy call_int1 (by rfl) T.z_int (by decide +kernel) (pa_cons (pe_op op_fdivW (pv 4) pe_int) pa_nil)) (pv 1))))))))))), ?_⟩
  have lgm : m.natAbs.log2 < 9000 := (wide_div (i := 0) (b := 64) hm (by rw [show (2 : Nat) ^ 64 = 18446744073709551616 from rfl]; omega) (by decide) (by decide)).2
  have lg2 : (2 : Int).natAbs.log2 < 9000 := by decide
  have ext : ∀ i' r' s' : Int, 0 ≤ i' → 0 ≤ r' → 0 ≤ s' → s' < 2147483647 → ∀ pp : Prop, (pp → 0 < r') → Keep l H (upd H l (.lst [.ref c, .int i', .int r', .int s'])) ∧ PoolR (upd H l (.lst [.ref c, .int i', .int r', .int s'])) l c pp := fun i' r' s' h1 h2 h3 h4 pp hpp =>
    ⟨fun b o hb hbo => by rw [upd_ne hb]; exact hbo, ns, i', r', s', upd_same, by rw [upd_ne hcl]; exact hc, hcl, hns, h1, h2, h3, h4, hpp⟩
  -- pool[2] > 0
  refine vIx rfl hl rfl ⟨_, _, rfl, rfl, _, rfl, ?_⟩
  refine ite2 (fun e => ?_) (fun e => ?_)
  · have e' : 0 < r := of_decide_eq_true e
    refine ⟨_, rfl, l, _, _, _, rfl, rfl, SqL.of hl, rfl, .inl ⟨_, rfl, _, rfl, _, _, rfl, rfl, hm, ?_⟩⟩
    refine vIx rfl hl rfl ⟨_, rfl, _, _, rfl, rfl, ⟨hm, lgm⟩, ?_⟩
    refine ⟨_, rfl, l, _, 2, 2, rfl, rfl, hl, rfl, _, rfl, ?_⟩
    have z := ext i (r / m) st hi (Int.ediv_nonneg h0r (by omega)) hs hs2 False False.elim
    exact q _ _ (Int.emod_nonneg _ (by omega)) (Int.emod_lt_of_pos _ hm) ⟨z.1, z.2⟩
  · have e0 : r = 0 := by have := of_decide_eq_false (Bool.eq_false_iff.mpr e); omega
    subst e0
    have n2 : 1 ≤ n := by
      rcases hn with hn | ⟨_, hn⟩
      · omega
      · exact absurd (hp hn) (by omega)
    refine ⟨fun σ' H' => ∃ z : Int, 0 ≤ z ∧ σ' = [some (.ref l), some (.int m), none, some (.int z), none] ∧ H' = H, ?_, ?_⟩
    · refine vIx rfl hl rfl (vIx rfl hl rfl ⟨c, _, rfl, .inl (SqL.of hc), _, _, rfl, rfl, _, rfl, ?_⟩)
      refine ite2 (fun e1 => ?_) (fun e1 => ⟨0, by omega, rfl, rfl⟩)
      have e1' : i < ((ns.map V.int).length : Nat) := of_decide_eq_true e1
      rw [List.length_map] at e1'
      obtain ⟨j, rfl⟩ : ∃ j : Nat, i = j := ⟨i.toNat, by omega⟩
      have hj : j < ns.length := by omega
      have g : (ns.map V.int)[j]? = some (.int ns[j]) := by rw [List.getElem?_map, List.getElem?_eq_getElem hj]; rfl
      refine vIx rfl hl rfl (vIx rfl hl rfl ⟨c, _, _, _, rfl, rfl, SqL.of hc, atI_nat g, ?_⟩)
      exact ⟨_, hns _ (List.getElem_mem hj), rfl, rfl⟩
    · rintro σ' H' ⟨z, hz, rfl, rfl⟩
      refine vIx rfl hl rfl ⟨_, _, rfl, rfl, _, rfl, l, _, 1, 1, rfl, rfl, hl, rfl, ?_⟩
      refine ⟨_, rfl, _, _, rfl, rfl, ⟨by decide, by decide, by decide⟩, _, _, rfl, rfl, _, rfl, ?_⟩
      refine ite2 (fun e1 => ?_) (fun e1 => ?_)
      · have e1' : (10 : Int) ^ 18 ≤ z := of_decide_eq_true e1
        refine ⟨_, rfl, _, _, rfl, rfl, ⟨by decide, lg2⟩, _, rfl, l, _, 2, 2, rfl, rfl, upd_same, rfl, ?_⟩
        refine ⟨_, rfl, _, rfl, ?_⟩
        have zz := ext (i + 1) (z / 2) st (by omega) (Int.ediv_nonneg hz (by omega)) hs hs2 True (fun _ => by omega)
        refine ⟨l, c, m, True, rfl, ?_, hm, hm2, .inr ⟨n2, trivial⟩, fun d H' h1 h2 x => q d H' h1 h2 ⟨?_, x.pool⟩⟩
        · show PoolR (upd (upd H' l _) l _) l c True
          rw [upd_upd]
          exact zz.2
        · intro b o hb hbo
          refine x.keep b o hb ?_
          show upd (upd _ l _) l _ b = _
          rw [upd_upd, upd_ne hb]
          exact hbo
      · have c1 : CMul st 48271 := .inr ⟨by decide, by decide⟩
        have c2 : CMul z 69621 := .inr ⟨by decide, by decide⟩
        have c3 : CMul (i + 1) 613 := .inr ⟨by decide, by decide⟩
        refine vIx rfl upd_same rfl ⟨_, _, rfl, rfl, c1, _, rfl, _, _, rfl, rfl, c2, _, _, rfl, rfl, vIx rfl upd_same rfl ⟨_, _, rfl, rfl, c3, _, _, rfl, rfl, .inl ⟨_, rfl, _, _, rfl, rfl, (show (0 : Int) < 2147483647 by decide), ?_⟩⟩⟩
        refine ⟨_, rfl, l, _, 3, 3, rfl, rfl, upd_same, rfl, ?_⟩
        have b1 : 0 ≤ (st * 48271 + z * 69621 + (i + 1) * 613) % 2147483647 := Int.emod_nonneg _ (by decide)
        have b2 : (st * 48271 + z * 69621 + (i + 1) * 613) % 2147483647 < 2147483647 := Int.emod_lt_of_pos _ (by decide)
        have c4 : CMul ((st * 48271 + z * 69621 + (i + 1) * 613) % 2147483647) ((st * 48271 + z * 69621 + (i + 1) * 613) % 2147483647) := .inr ⟨by omega, by omega⟩
        have c5 : CMul ((st * 48271 + z * 69621 + (i + 1) * 613) % 2147483647) 7919 := .inr ⟨by decide, by decide⟩
        refine vIx rfl upd_same rfl (vIx rfl upd_same rfl ⟨_, _, rfl, rfl, c4, vIx rfl upd_same rfl ⟨_, _, rfl, rfl, c5, _, _, rfl, rfl, _, _, rfl, rfl, .inl ⟨_, rfl, _, _, rfl, rfl, (show (0 : Int) < 1000000007 by decide), ?_⟩⟩⟩)
        have c6 : CDivW ((((st * 48271 + z * 69621 + (i + 1) * 613) % 2147483647) * ((st * 48271 + z * 69621 + (i + 1) * 613) % 2147483647) + ((st * 48271 + z * 69621 + (i + 1) * 613) % 2147483647) * 7919 + 104729) % 1000000007) 3 := ⟨by decide, by decide⟩
        refine ⟨_, rfl, _, _, rfl, rfl, c6, .inl ⟨_, rfl, _, rfl, _, _, rfl, rfl, hm, ?_⟩⟩
        have zz := ext (i + 1) 0 ((st * 48271 + z * 69621 + (i + 1) * 613) % 2147483647) (by omega) (by omega) b1 b2 False False.elim
        refine q _ _ (Int.emod_nonneg _ (by omega)) (Int.emod_lt_of_pos _ hm) ⟨?_, ?_⟩
        · show Keep l _ (upd (upd _ l _) l _)
          rw [upd_upd]
          exact zz.1
        · show Pool (upd (upd _ l _) l _) l c
          rw [upd_upd]
          exact zz.2
end
end PK
namespace PK
open PySem L2
/-! ### words -/
abbrev LET : Str := "abcdefghijklmnopqrstuvwxyz"
abbrev OTH : Str := "abcdefghijklmnopqrstuvwxyz0123456789_"
abbrev BARRED : List Str := ["get", "set", "plus", "minus", "new", "read", "write", "put"]
theorem let_len : LET.cps.toList.length = 26 := by decide +kernel
theorem oth_len : OTH.cps.toList.length = 37 := by decide +kernel
theorem line_big : (16777216 : Nat) ≤ sizeLine := by rw [sizeLine_eq]; decide
theorem small {n : Nat} (h : n ≤ 16777216) : n ≤ sizeLine := Nat.le_trans h line_big
theorem smallL {n : Nat} (h : n < 16777216) : n < sizeLine := Nat.lt_of_lt_of_le h line_big
theorem len_list (z : Str) : z.length = z.cps.toList.length := by unfold Str.length; simp
theorem yes_ {A B : Hp → Prop} {σ : L2.St} {H : Hp} (h : A H) : tYes σ H fun b H3 => if b = true then A H3 else B H3 := by
  show if true = true then A H else B H
  exact iteT h
/-- a drawn sign of a text -/
theorem strAt (z : Str) {n : Nat} (hz : z.cps.toList.length = n) (hn : n ≤ 1000) {d : Int} {H : Hp} {Q : VK} (h0 : 0 ≤ d) (h1 : d < (n : Int)) (q : ∀ s : Nat, s ∈ z.cps.toList → Q (.str ⟨#[s]⟩) H) : rIxS (.str z) (.int d) H Q := by
  obtain ⟨j, rfl⟩ : ∃ j : Nat, d = j := ⟨d.toNat, by omega⟩
  have hj : j < z.cps.toList.length := by omega
  exact ⟨z, _, _, rfl, rfl, by rw [len_list, hz]; exact small (by omega), atI_nat (List.getElem?_eq_getElem hj), q _ (List.getElem_mem hj)⟩
/-- the j-th word that is tried for the k-th place -/
def cand (j k : Nat) : Str := ("w" : Str) ++ (toString (j : Int) : Str) ++ ("_" : Str) ++ (toString (k : Int) : Str)
def pre (j : Nat) : Str := ("w" : Str) ++ (toString (j : Int) : Str) ++ ("_" : Str)
theorem pre_len : ∀ j, j < 27 → (pre j).length ≤ 4 := by decide +kernel
theorem str_len : ∀ j : Nat, j < 27 → ((toString (j : Int) : String) : Str).length ≤ 2 := by decide +kernel
theorem pre_inj : ∀ i, i < 27 → ∀ j, j < 27 → pre i = pre j → i = j := by decide +kernel
theorem app_cancel {a b t : Str} (h : a ++ t = b ++ t) : a = b := by
  have e : a.cps ++ t.cps = b.cps ++ t.cps := congrArg Str.cps h
  have e2 : a.cps.toList ++ t.cps.toList = b.cps.toList ++ t.cps.toList := by
    have := congrArg Array.toList e
    simpa using this
  exact Str.ext' (Array.toList_inj.mp (List.append_cancel_right e2))
theorem cand_inj {i j k : Nat} (hi : i < 27) (hj : j < 27) (h : cand i k = cand j k) : i = j := pre_inj i hi j hj (app_cancel h)
theorem cand_len {j k : Nat} (hj : j < 27) (hk : k < 27) : (cand j k).length ≤ 6 := by
  have h1 := pre_len j hj
  have h2 := str_len k hk
  show (pre j ++ _).length ≤ 6
  rw [Str.length_append]
  omega
theorem cand_bar (j k : Nat) : cand j k ∉ BARRED := by
  have h1 : 95 ∈ (cand j k).cps.toList := by
    show 95 ∈ ((((("w" : Str).cps ++ ((toString (j : Int) : String) : Str).cps) ++ ("_" : Str).cps) ++ ((toString (k : Int) : String) : Str).cps)).toList
    have e : ("_" : Str).cps.toList = [95] := by decide +kernel
    simp only [Array.toList_append, e, List.mem_append, List.mem_singleton]
    exact .inl (.inr trivial)
  have h2 : ∀ b ∈ BARRED, 95 ∉ b.cps.toList := by decide +kernel
  exact fun m => h2 _ m h1
theorem inj_le : ∀ (l m : List Str), l.Nodup → (∀ x ∈ l, x ∈ m) → l.length ≤ m.length
  | [], _, _, _ => Nat.zero_le _
  | x :: r, m, hn, hm => by
    obtain ⟨h1, h2⟩ := List.nodup_cons.mp hn
    have hx := hm x List.mem_cons_self
    have ih := inj_le r (m.erase x) h2 fun y hy => (List.mem_erase_of_ne (fun e => h1 (by rw [← e]; exact hy))).mpr (hm y (List.mem_cons_of_mem _ hy))
    rw [List.length_erase_of_mem hx] at ih
    have : 0 < m.length := List.length_pos_of_mem hx
    rw [List.length_cons]
    omega
/-- not all of m tried words stand in a list of fewer than m -/
theorem pigeon {m k : Nat} {ws : List Str} (hm : m < 27) (hl : ws.length < m) (h : ∀ t, t < m → cand t k ∈ ws) : False := by
  have n : ((List.range m).map fun t => cand t k).Nodup := by
    rw [List.Nodup, List.pairwise_map]
    refine List.Pairwise.imp_of_mem ?_ List.nodup_range
    intro a b ha hb hab e
    exact hab (cand_inj (Nat.lt_trans (List.mem_range.mp ha) hm) (Nat.lt_trans (List.mem_range.mp hb) hm) e)
  have := inj_le _ ws n fun x hx => by
    obtain ⟨t, ht, rfl⟩ := List.mem_map.mp hx
    exact h t (List.mem_range.mp ht)
  rw [List.length_map, List.length_range] at this
  omega
theorem inV_str (u : Str) : ∀ ws : List Str, inV (.str u) (ws.map V.str) = decide (u ∈ ws)
  | [] => by simp [inV]
  | x :: r => by
    have ih := inV_str u r
    unfold inV at ih ⊢
    rw [List.map_cons, List.any_cons, ih]
    show ((x == u) || decide (u ∈ r)) = _
    by_cases e : x = u
    · subst e; simp
    · have e2 : (x == u) = false := by simpa using e
      rw [e2, Bool.false_or]
      by_cases h : u ∈ r
      · simp [h]
      · simp [h, Ne.symm e]
theorem flat_strs (ws : List Str) : (ws.map V.str).all flatV = true := by
  rw [List.all_eq_true]
  intro x hx
  obtain ⟨s, _, rfl⟩ := List.mem_map.mp hx
  rfl
/-- signs of words -/
def one (s : Nat) : Str := ⟨#[s]⟩
def Ones (ss : List Nat) : Prop := ∀ s ∈ ss, s ∈ OTH.cps.toList
theorem join_one : ∀ ss : List Nat, (Str.join "" (ss.map one)).cps.toList = ss
  | [] => rfl
  | [s] => rfl
  | s :: t :: r => by
    have ih := join_one (t :: r)
    have e : ("" : Str).cps.toList = [] := by decide +kernel
    show ((one s).cps ++ ("" : Str).cps ++ (Str.join "" ((t :: r).map one)).cps).toList = _
    rw [Array.toList_append, Array.toList_append, ih, e]
    rfl
theorem txt_join (ss : List Nat) : (Txt.join "" (ss.map one)).cps.toList = ss := by
  show (Builtin.Str.glued ("" : Str) (ss.map one)).cps.toList = ss
  rw [StrLaws.glued_eq_join]
  exact join_one ss
theorem one_sum (ss : List Nat) : ((ss.map one).map (·.length)).sum = ss.length := by
  induction ss with
  | nil => rfl
  | cons s r ih =>
    rw [List.map_cons, List.map_cons, List.sum_cons, ih, List.length_cons]
    show 1 + r.length = _
    omega
/-- a word: signs that words have, the first one a letter -/
structure Wd (x : Str) : Prop where
  lo : 1 ≤ x.length
  hi : x.length ≤ 12
  hd : ∃ s r, x.cps.toList = s :: r ∧ s ∈ LET.cps.toList
  al : ∀ s ∈ x.cps.toList, s ∈ OTH.cps.toList
theorem Wd.of {x : Str} {s : Nat} {r : List Nat} (e : x.cps.toList = s :: r) (hs : s ∈ LET.cps.toList) (ho : Ones r) (hl : r.length ≤ 11) : Wd x where
  lo := by rw [len_list, e, List.length_cons]; omega
  hi := by rw [len_list, e, List.length_cons]; omega
  hd := ⟨s, r, e, hs⟩
  al := fun z hz => by
    rw [e] at hz
    rcases List.mem_cons.mp hz with h | h
    · rw [h]
      have : ∀ s ∈ LET.cps.toList, s ∈ OTH.cps.toList := by decide +kernel
      exact this s hs
    · exact ho z h
theorem pre_wd : ∀ j, j < 27 → ∀ s ∈ (pre j).cps.toList, s ∈ OTH.cps.toList := by decide +kernel
theorem num_wd : ∀ j : Nat, j < 27 → ∀ s ∈ ((toString (j : Int) : String) : Str).cps.toList, s ∈ OTH.cps.toList := by decide +kernel
theorem pre_hd : ∀ j, j < 27 → (pre j).cps.toList[0]? = some 119 := by decide +kernel
theorem cand_wd {j k : Nat} (hj : j < 27) (hk : k < 27) : Wd (cand j k) := by
  have e : (cand j k).cps.toList = (pre j).cps.toList ++ ((toString (k : Int) : String) : Str).cps.toList := by
    show ((pre j).cps ++ ((toString (k : Int) : String) : Str).cps).toList = _
    rw [Array.toList_append]
  have h0 := pre_hd j hj
  cases e1 : (pre j).cps.toList with
  | nil => rw [e1] at h0; cases h0
  | cons s r =>
    rw [e1] at h0 e
    have hs : s = 119 := Option.some.inj h0
    refine Wd.of (s := s) (r := r ++ ((toString (k : Int) : String) : Str).cps.toList) e (by rw [hs]; decide +kernel) (fun z hz => ?_) ?_
    · rcases List.mem_append.mp hz with h | h
      · exact pre_wd j hj z (by rw [e1]; exact List.mem_cons_of_mem _ h)
      · exact num_wd k hk z h
    · have h1 := pre_len j hj
      have h2 := str_len k hk
      rw [len_list] at h1 h2
      rw [e1, List.length_cons] at h1
      rw [List.length_append]
      omega
theorem let_oth : ∀ s ∈ LET.cps.toList, s ∈ OTH.cps.toList := by decide +kernel
theorem ixN_of {n : Nat} {k : Int} (h0 : 0 ≤ k) (h1 : k < (n : Int)) : ixN n k = some k.toNat := by
  unfold ixN
  rw [if_pos h0, if_pos h1]
theorem Ones.set {row : List Nat} (h : Ones row) {s : Nat} (hs : s ∈ OTH.cps.toList) (j : Nat) : Ones (row.set j s) := fun x hx => by
  rcases List.mem_or_eq_of_mem_set hx with h1 | h1
  · exact h x h1
  · rw [h1]; exact hs
/-- the signs of a word, one of them another letter -/
theorem set_hd {s0 : Nat} {r : List Nat} (h0 : s0 ∈ LET.cps.toList) (hr : Ones r) {s : Nat} (hs : s ∈ LET.cps.toList) (j : Nat) : ∃ s1 r1, (s0 :: r).set j s = s1 :: r1 ∧ s1 ∈ LET.cps.toList ∧ Ones r1 ∧ r1.length = r.length := by
  cases j with
  | zero => exact ⟨s, r, rfl, hs, hr, rfl⟩
  | succ j => exact ⟨s0, r.set j s, rfl, h0, hr.set (let_oth _ hs) j, List.length_set ..⟩
end PK
namespace PK
open PySem L2
/-! ### data of tuples -/
mutual
inductive Dt (K : PySem.W.Frag) (H : Hp) : V → PyData → Prop
  | non : Dt K H .non .none
  | bl (b : Bool) : Dt K H (.bl b) (.bool b)
  | int (i : Int) : Dt K H (.int i) (.int i)
  | str (x : Str) : Dt K H (.str x) (.str x)
  | tup {a : Addr} {xs : List V} {ds : List PyData} : SqT K H a xs → DtAll K H xs ds → Dt K H (.ref a) (.tuple ds)
inductive DtAll (K : PySem.W.Frag) (H : Hp) : List V → List PyData → Prop
  | nil : DtAll K H [] []
  | cons {v : V} {vs : List V} {d : PyData} {ds : List PyData} : Dt K H v d → DtAll K H vs ds → DtAll K H (v :: vs) (d :: ds)
end
section
variable {K : PySem.W.Frag} {H H' : Hp}
mutual
theorem Dt.dp : ∀ (d : PyData) (v : V), Dt K H v d → Dp K H v d
  | .none, _, h => by cases h; exact .non
  | .bool _, _, h => by cases h; exact .bl _
  | .int _, _, h => by cases h; exact .int _
  | .str _, _, h => by cases h; exact .str _
  | .list _, _, h => by cases h
  | .dict _, _, h => by cases h
  | .tuple ds, _, h => by
    cases h with
    | tup s a => exact .tup s (DtAll.dp ds _ a)
theorem DtAll.dp : ∀ (ds : List PyData) (vs : List V), DtAll K H vs ds → DpAll K H vs ds
  | [], _, h => by cases h; exact .nil
  | d :: ds, _, h => by
    cases h with
    | cons h1 h2 => exact .cons (Dt.dp d _ h1) (DtAll.dp ds _ h2)
end
mutual
theorem Dt.mono (hT : ∀ a xs, SqT K H a xs → SqT K H' a xs) : ∀ (d : PyData) (v : V), Dt K H v d → Dt K H' v d
  | .none, _, h => by cases h; exact .non
  | .bool _, _, h => by cases h; exact .bl _
  | .int _, _, h => by cases h; exact .int _
  | .str _, _, h => by cases h; exact .str _
  | .list _, _, h => by cases h
  | .dict _, _, h => by cases h
  | .tuple ds, _, h => by
    cases h with
    | tup s a => exact .tup (hT _ _ s) (DtAll.mono hT ds _ a)
theorem DtAll.mono (hT : ∀ a xs, SqT K H a xs → SqT K H' a xs) : ∀ (ds : List PyData) (vs : List V), DtAll K H vs ds → DtAll K H' vs ds
  | [], _, h => by cases h; exact .nil
  | d :: ds, _, h => by
    cases h with
    | cons h1 h2 => exact .cons (Dt.mono hT d _ h1) (DtAll.mono hT ds _ h2)
end
theorem Same.seqT {a : Addr} {xs : List V} (e : Same H H') (h : SqT K H a xs) : SqT K H' a xs := by
  rcases h with (h | ⟨o, h⟩) | h
  · exact .inl (.inl (e _ _ h))
  · exact .inl (.inr ⟨o, e _ _ h⟩)
  · exact .inr h
theorem Dt.same {d : PyData} {v : V} (h : Dt K H v d) (e : Same H H') : Dt K H' v d := Dt.mono (fun _ _ q => Same.seqT e q) d v h
theorem Dt.ext {l c : Addr} {d : PyData} {v : V} (h : Dt K H v d) (P : Pool H l c) (x : Ext l c H H') : Dt K H' v d := Dt.mono (fun _ _ q => x.seqT P q) d v h
theorem same_new {p : Addr} {o : HO} (h : H p = none) : Same H (upd H p o) := fun b u e => by
  rw [upd_ne (ne_of_none e h)]
  exact e
theorem Dt.new {d : PyData} {v : V} {p : Addr} {o : HO} (h : Dt K H v d) (hp : H p = none) : Dt K (upd H p o) v d := h.same (same_new hp)
theorem Dt.s {v : V} {x : Str} (h : Dt K H v (.str x)) : v = .str x := by cases h; rfl
theorem Dt.i {v : V} {x : Int} (h : Dt K H v (.int x)) : v = .int x := by cases h; rfl
theorem Dt.t1 {v : V} {d : PyData} (h : Dt K H v (.tuple [d])) : ∃ a x, v = .ref a ∧ SqT K H a [x] ∧ Dt K H x d := by
  cases h with
  | tup s a => cases a with
    | cons h1 r => cases r; exact ⟨_, _, rfl, s, h1⟩
theorem Dt.t2 {v : V} {d e : PyData} (h : Dt K H v (.tuple [d, e])) : ∃ a x y, v = .ref a ∧ SqT K H a [x, y] ∧ Dt K H x d ∧ Dt K H y e := by
  cases h with
  | tup s a => cases a with
    | cons h1 r => cases r with
      | cons h2 r => cases r; exact ⟨_, _, _, rfl, s, h1, h2⟩
theorem Dt.t3 {v : V} {d e f : PyData} (h : Dt K H v (.tuple [d, e, f])) : ∃ a x y z, v = .ref a ∧ SqT K H a [x, y, z] ∧ Dt K H x d ∧ Dt K H y e ∧ Dt K H z f := by
  cases h with
  | tup s a => cases a with
    | cons h1 r => cases r with
      | cons h2 r => cases r with
        | cons h3 r => cases r; exact ⟨_, _, _, _, rfl, s, h1, h2, h3⟩
theorem Dt.tn {v : V} {ds : List PyData} (h : Dt K H v (.tuple ds)) : ∃ a xs, v = .ref a ∧ SqT K H a xs ∧ DtAll K H xs ds := by
  cases h with
  | tup s a => exact ⟨_, _, rfl, s, a⟩
theorem Dt.mk2 {p : Addr} {x y : V} {d e : PyData} (hp : H p = none) (h1 : Dt K H x d) (h2 : Dt K H y e) : Dt K (upd H p (.tup [x, y])) (.ref p) (.tuple [d, e]) :=
  .tup (SqT.of upd_same) (.cons (h1.new hp) (.cons (h2.new hp) .nil))
theorem Dt.mk3 {p : Addr} {x y z : V} {d e f : PyData} (hp : H p = none) (h1 : Dt K H x d) (h2 : Dt K H y e) (h3 : Dt K H z f) : Dt K (upd H p (.tup [x, y, z])) (.ref p) (.tuple [d, e, f]) :=
  .tup (SqT.of upd_same) (.cons (h1.new hp) (.cons (h2.new hp) (.cons (h3.new hp) .nil)))
theorem Dt.mk1 {p : Addr} {x : V} {d : PyData} (hp : H p = none) (h1 : Dt K H x d) : Dt K (upd H p (.tup [x])) (.ref p) (.tuple [d]) :=
  .tup (SqT.of upd_same) (.cons (h1.new hp) .nil)
end
/-- xs[j] of a name, a tuple -/
theorem vTx {K : PySem.W.Frag} {σ : L2.St} {H : Hp} {Q : VK} {i : Nat} {p : Addr} {xs : List V} {j : Int} {v : V} (h : σ[i]? = some (some (.ref p))) (hl : SqT K H p xs) (ha : atI xs j = some v) (q : Q v H) :
    tOp (rIxT K) (tVar i) (tC (.int j)) σ H Q := ⟨_, h, p, xs, j, v, rfl, rfl, hl, ha, q⟩
section
variable {s t : Str} {A B : Prop}
theorem sT (e : s = t) (h : A) : if decide (V.str s = V.str t) = true then A else B := by rw [decide_eq_true (by rw [e])]; exact iteT h
theorem sF (e : s ≠ t) (h : B) : if decide (V.str s = V.str t) = true then A else B := by rw [decide_eq_false (fun z => e (V.str.inj z))]; exact iteF h
theorem nT (e : s ≠ t) (h : A) : if (!decide (V.str s = V.str t)) = true then A else B := by rw [decide_eq_false (fun z => e (V.str.inj z))]; exact iteT h
theorem nF (e : s = t) (h : B) : if (!decide (V.str s = V.str t)) = true then A else B := by rw [decide_eq_true (by rw [e])]; exact iteF h
end
theorem Same.upd {H H' : Hp} {p : Addr} {o : HO} (e : Same H H') (h : H p = none) : Same H (L2.upd H' p o) := fun b u q => by
  rw [upd_ne (ne_of_none q h)]
  exact e _ _ q
/-- isinstance(x, T) of a name and a built-in class -/
theorem vIsi {σ : L2.St} {H : Hp} {Q : VK} {i : Nat} {v : V} {U Tn : String} {b : Bool} (h : σ[i]? = some (some v)) (ty : TyX K H v (.type U)) (kb : kitB U Tn = some b) (q : Q (.bl b) H) :
    tCB (rIsi K) (tCons (tVar i) (tCons (tC (.ty Tn)) tNil)) σ H Q := ⟨_, h, v, .ty Tn, _, _, b, rfl, .ty Tn, ty, kit_ty kb, q⟩
theorem ty_tup {H : Hp} {a : Addr} {xs : List V} (h : SqT K H a xs) : TyX K H (.ref a) (.type "tuple") := by
  rcases h with (h | ⟨o, h⟩) | ⟨o, its, n, h, hc, _⟩
  · exact .base (.tup h)
  · exact .fTuple h
  · exact .kTuple h hc
theorem ty_lst {H : Hp} {a : Addr} {xs : List V} (h : SqL K H a xs) : TyX K H (.ref a) (.type "list") := by
  rcases h with (h | ⟨o, h⟩) | ⟨o, its, n, h, hc, _⟩
  · exact .base (.lst h)
  · exact .base (.frz h)
  · exact .kList h hc
theorem DtAll.append {K : PySem.W.Frag} {H : Hp} : ∀ {xs ys : List V} {ds es : List PyData}, DtAll K H xs ds → DtAll K H ys es → DtAll K H (xs ++ ys) (ds ++ es)
  | _, _, _, _, .nil, h => h
  | _, _, _, _, .cons a b, h => .cons a (DtAll.append b h)
/-- a list that grows is no tuple -/
theorem seqT_upd {K : PySem.W.Frag} {H : Hp} {D a : Addr} {vs ws zs : List V} (h : SqT K H a zs) (hD : H D = some (.lst vs)) : SqT K (upd H D (.lst ws)) a zs := by
  rcases h with (h | ⟨o, h⟩) | h
  · exact .inl (.inl (by rw [upd_ne (ne_of h hD (fun z => by cases z))]; exact h))
  · exact .inl (.inr ⟨o, by rw [upd_ne (ne_of h hD (fun z => by cases z))]; exact h⟩)
  · exact .inr h
theorem seqT_updK {K : PySem.W.Frag} {H : Hp} {D a : Addr} {kvs kvs' : List (Key × V)} {zs : List V} (h : SqT K H a zs) (hD : H D = some (.dK kvs)) : SqT K (upd H D (.dK kvs')) a zs := by
  rcases h with (h | ⟨o, h⟩) | h
  · exact .inl (.inl (by rw [upd_ne (ne_of h hD (fun z => by cases z))]; exact h))
  · exact .inl (.inr ⟨o, by rw [upd_ne (ne_of h hD (fun z => by cases z))]; exact h⟩)
  · exact .inr h
theorem valV_hd {k : Key} {v : V} {r : List (Key × V)} : valV ((k, v) :: r) k = some v := by simp [valV]
theorem valV_tl {k k' : Key} {v : V} {r : List (Key × V)} (h : k' ≠ k) : valV ((k', v) :: r) k = valV r k := by simp [valV, h]
theorem Pool.same {H H' : Hp} {l c : Addr} (P : Pool H l c) (e : Same H H') : Pool H' l c := by
  obtain ⟨ns, i, r, s, hl, hc, z⟩ := P
  exact ⟨ns, i, r, s, e _ _ hl, e _ _ hc, z⟩
theorem Ext.same {H H1 H2 : Hp} {l c : Addr} (x : Ext l c H H1) (e : Same H1 H2) : Ext l c H H2 := ⟨fun b o hb h => e _ _ (x.keep b o hb h), x.pool.same e⟩
/-- a new tuple at the end of a list of data -/
theorem snoc_data {K : PySem.W.Frag} {H : Hp} {D t : Addr} {o : HO} {vs : List V} {ds : List PyData} {d : PyData} (da : DtAll K H vs ds) (hD : H D = some (.lst vs)) (ht : H t = none) (dt : Dt K (upd H t o) (.ref t) d) :
    (upd H t o) D = some (.lst vs) ∧ DtAll K (upd (upd H t o) D (.lst (vs ++ [.ref t]))) (vs ++ [.ref t]) (ds ++ [d]) := by
  have h1 : (upd H t o) D = some (.lst vs) := by rw [upd_ne (ne_of_none hD ht)]; exact hD
  refine ⟨h1, DtAll.mono (fun _ _ z => seqT_upd z h1) _ _ (DtAll.append (DtAll.mono (fun _ _ z => Same.seqT (same_new ht) z) _ _ da) (.cons dt .nil))⟩
theorem DtAll.ext {K : PySem.W.Frag} {H H' : Hp} {l c : Addr} {vs : List V} {ds : List PyData} (h : DtAll K H vs ds) (P : Pool H l c) (x : Ext l c H H') : DtAll K H' vs ds := DtAll.mono (fun _ _ z => x.seqT P z) _ _ h
theorem DtAll.same {K : PySem.W.Frag} {H H' : Hp} {vs : List V} {ds : List PyData} (h : DtAll K H vs ds) (x : Same H H') : DtAll K H' vs ds := DtAll.mono (fun _ _ z => Same.seqT x z) _ _ h
end PK
namespace PK
open PySem L2
/-! the pool -/
def enc (z : Int) : Int := if 0 ≤ z then 2 * z else -2 * z - 1
def spPool (K : PySem.W.Frag) : Sp := fun vs H Q _ => ∃ (a : Addr) (ns : List Int), vs = [.ref a] ∧ SqL K H a (ns.map V.int) ∧ ns.length ≤ 63 ∧
  ∀ (H' : Hp) (l c : Addr), Same H H' → H l = none → Pool H' l c → Q (.ref l) H'
section
variable {P : Program} {w : World} {K : PySem.W.Frag} {mg : Str → Option Value} {base : Heap}
abbrev s_law_pool : Stmt := topS 15
theorem sc_law_pool : FnScope ["script", "cell"] ["script"] (defScope s_law_pool) := ⟨rfl, rfl, rfl, by decide +kernel, rfl, by decide +kernel, by decide +kernel⟩
-- slots: 0:script 1:cell(comp)
theorem ok_pool {f : Addr} {fd : FuncData} (F : Fun K "_law_pool" "_law_pool" s_law_pool f fd) :
    FnOk P w K mg base CX0 1 f fd ["script"] (spPool K) := by
  refine F.ok sc_law_pool (fun vs H Q E h => ?_) (fun cdv A outer s H vs Q E hr h => ?_)
  · obtain ⟨a, ns, rfl, _⟩ := h
    rfl
  obtain ⟨a, ns, rfl, hS, hlen, q⟩ := h
  refine ⟨_, (pss_one (ps_ret (pe_lst (pa_cons (pe_lc (own := [("cell", 1)]) (g := (gName 1)) (tt := tYes) (by rfl) sc_law_pool.nd (pi_list (pv 0)) (blkOk_by (N := ["script", "cell"]) (sc := defScope s_law_pool) (by decide +kernel)) (fun _ _ _ _ _ => (pg_name (i := 1) sc_law_pool.nd rfl (Or.inl rfl))) (fun _ _ _ _ _ => pts_nil) (fun _ _ _ _ _ => (pe_ifExp (pt_cmpR op_ge (pv 1) pe_int (nomark _)) (pe_op op_mul pe_int (pv 1)) (pe_op op_sub (pe_op op_mul (pe_un un_neg pe_int) (pv 1)) pe_int)))) (pa_cons pe_int (pa_cons pe_int (pa_cons pe_int pa_nil))))))), ?_⟩
  refine ⟨_, rfl, a, rfl, ⟨_, hS⟩, fun D hD => lc_list (K := K) (a := a) (xs := ns.map V.int) (fun i H' => i ≤ ns.length ∧ Same H H' ∧ H' D = some (.lst (((ns.take i).map enc).map V.int))) ⟨Nat.zero_le _, same_new hD, upd_same⟩ (fun i H' _ h => h.2.1.seq hS) ?_ ?_⟩
  · rintro i x H' hi ⟨_, sm, hd⟩
    have hi2 : i < ns.length := by
      have := (List.getElem?_eq_some_iff.mp hi).1
      rw [List.length_map] at this
      exact this
    rw [List.getElem?_map, List.getElem?_eq_getElem hi2] at hi
    cases hi
    have fin : ∀ z : Int, z = enc ns[i] → upd H' D (.lst (((ns.take i).map enc).map V.int ++ [V.int z])) D = some (.lst (((ns.take (i + 1)).map enc).map V.int)) := fun z e => by
      rw [upd_same, List.take_add_one, List.getElem?_eq_getElem hi2, List.map_append, List.map_append, e]
      rfl
    have ll : (((ns.take i).map enc).map V.int).length < sizeLine := by
      rw [List.length_map, List.length_map, List.length_take]
      exact smallL (by omega)
    refine ⟨rfl, yes_ ⟨_, rfl, _, _, rfl, rfl, _, rfl, ite2 (fun e => ?_) (fun e => ?_)⟩⟩
    · have e' : ns[i] ≥ 0 := of_decide_eq_true e
      exact ⟨_, rfl, _, _, rfl, rfl, .inl ⟨by decide, by decide⟩, _, hd, ll, hi2, Same.upd sm hD, fin _ (by unfold enc; rw [if_pos e'])⟩
    · have e' : ¬ ns[i] ≥ 0 := fun z => e (decide_eq_true z)
      exact ⟨_, rfl, _, rfl, _, _, rfl, rfl, .inl ⟨by decide, by decide⟩, _, _, rfl, rfl, _, hd, ll, hi2, Same.upd sm hD, fin _ (by unfold enc; rw [if_neg (by omega)])⟩
  · rintro H' ⟨_, sm, hd⟩
    rw [List.length_map, List.take_of_length_le (Nat.le_refl _)] at hd
    refine ⟨small (by show 4 ≤ _; decide), fun p hp => ?_⟩
    refine q _ p D (Same.upd sm (sm.free hp)) (sm.free hp) ⟨ns.map enc, 0, 0, 17, upd_same, by rw [upd_ne (ne_of_none hd hp)]; exact hd, ne_of_none hd hp, fun n hn => ?_, by decide, by decide, by decide, by decide, False.elim⟩
    obtain ⟨z, _, rfl⟩ := List.mem_map.mp hn
    unfold enc
    split <;> omega
end
end PK
namespace PK
open PySem L2
theorem DtAll.lenD {K : PySem.W.Frag} {H : Hp} : ∀ {xs : List V} {ds : List PyData}, DtAll K H xs ds → xs.length = ds.length
  | _, _, .nil => rfl
  | _, _, .cons _ t => by rw [List.length_cons, List.length_cons, DtAll.lenD t]
theorem DtAll.getX {K : PySem.W.Frag} {H : Hp} : ∀ {xs : List V} {ds : List PyData} {i : Nat} {x : V}, DtAll K H xs ds → xs[i]? = some x → ∃ d, ds[i]? = some d ∧ Dt K H x d
  | _, _, _, _, .nil, e => by simp at e
  | _, _, 0, _, .cons h _, e => by simp at e; subst e; exact ⟨_, rfl, h⟩
  | _, _, i + 1, _, .cons _ t, e => by
    obtain ⟨d, h1, h2⟩ := DtAll.getX (i := i) t (by simpa using e)
    exact ⟨d, by simpa using h1, h2⟩
theorem DtAll.getD {K : PySem.W.Frag} {H : Hp} : ∀ {xs : List V} {ds : List PyData} {i : Nat} {d : PyData}, DtAll K H xs ds → ds[i]? = some d → ∃ x, xs[i]? = some x ∧ Dt K H x d
  | _, _, _, _, .nil, e => by simp at e
  | _, _, 0, _, .cons h _, e => by simp at e; subst e; exact ⟨_, rfl, h⟩
  | _, _, i + 1, _, .cons _ t, e => by
    obtain ⟨d, h1, h2⟩ := DtAll.getD (i := i) t (by simpa using e)
    exact ⟨d, by simpa using h1, h2⟩
theorem DtAll.splitR {K : PySem.W.Frag} {H : Hp} : ∀ {xs : List V} {ds es : List PyData}, DtAll K H xs (ds ++ es) → ∃ ys zs, xs = ys ++ zs ∧ DtAll K H ys ds ∧ DtAll K H zs es
  | xs, [], es, h => ⟨[], xs, rfl, .nil, h⟩
  | _, d :: ds, es, h => by
    cases h with
    | cons h t =>
      obtain ⟨ys, zs, rfl, h1, h2⟩ := DtAll.splitR (ds := ds) t
      exact ⟨_ :: ys, zs, rfl, .cons h h1, h2⟩
theorem DtAll.ints {K : PySem.W.Frag} {H : Hp} : ∀ ns : List Int, DtAll K H (ns.map V.int) (ns.map PyData.int)
  | [] => .nil
  | n :: r => .cons (.int n) (DtAll.ints r)
theorem DtAll.intsE {K : PySem.W.Frag} {H : Hp} : ∀ {xs : List V} {ns : List Int}, DtAll K H xs (ns.map PyData.int) → xs = ns.map V.int
  | _, [], h => by cases h; rfl
  | _, n :: r, h => by
    cases h with
    | cons h t => rw [h.i, DtAll.intsE t]; rfl
theorem DtAll.upd {K : PySem.W.Frag} {H : Hp} {D : Addr} {vs us xs : List V} {ds : List PyData} (h : DtAll K H xs ds) (hD : H D = some (.lst vs)) : DtAll K (L2.upd H D (.lst us)) xs ds := DtAll.mono (fun _ _ z => seqT_upd z hD) _ _ h
theorem Dt.updL {K : PySem.W.Frag} {H : Hp} {D : Addr} {vs us : List V} {x : V} {d : PyData} (h : Dt K H x d) (hD : H D = some (.lst vs)) : Dt K (L2.upd H D (.lst us)) x d := Dt.mono (fun _ _ z => seqT_upd z hD) _ _ h
section
variable {K : PySem.W.Frag} {It : It} {n : Nat} {G : Hp → Prop} {Y : Nat → Hp → V → Hp → Prop}
/-- a comprehension of data, all else kept -/
theorem lcS (wk : Walk It n G Y) {g : TG} {te : TE} {vs : List Nat} {σ : L2.St} {H1 : Hp} {D : Addr} {Qd : Hp → Prop} (hD : H1 D = none) (hn : n ≤ 10000000) (Jv : List PyData → Prop) (j0 : Jv []) (hG : ∀ H', Same H1 H' → G H')
    (hs : ∀ i x H H' ds (R : V → Hp → Prop), i < n → Same H1 H → Y i H x H' → Jv ds → ds.length = i → (∀ d y H4, Same H H4 → Dt K H4 y d → Jv (ds ++ [d]) → R y H4) → g x (wipe σ vs) H' fun σ2 H2 => wipe σ2 vs = wipe σ vs ∧ te σ2 H2 R)
    (hd : ∀ H' ws ds, Same H1 H' → H' D = some (.lst ws) → DtAll K H' ws ds → ds.length = n → Jv ds → Qd H') :
    ∃ W : Nat → Nat → Hp → Prop, (∃ m, W 0 m (upd H1 D (.lst []))) ∧ ∀ i m H, W i m H →
      (It.stop i H ∧ Qd H) ∨ (It.go i H ∧ ∃ Nx : Hp → Prop, (∀ H', Nx H' → ∃ m', m' < m ∧ W (i + 1) m' H') ∧ ∀ x H', It.yld i H x H' → g x (wipe σ vs) H' fun σ2 H2 => wipe σ2 vs = wipe σ vs ∧ tYes σ2 H2 fun b H3 =>
        if b = true then te σ2 H3 fun y H4 => ∃ acc, H4 D = some (.lst acc) ∧ acc.length < sizeLine ∧ Nx (upd H4 D (.lst (acc ++ [y]))) else Nx H3) := by
  refine lc_it wk (fun i H' => ∃ (ws : List V) (ds : List PyData), Same H1 H' ∧ H' D = some (.lst ws) ∧ DtAll K H' ws ds ∧ ds.length = i ∧ Jv ds) ⟨[], [], same_new hD, upd_same, .nil, rfl, j0⟩ (fun i H' _ h => ?_) (fun i x H H' hi h y => ?_) (fun H' h => ?_)
  · obtain ⟨_, _, s, _⟩ := h
    exact hG _ s
  · obtain ⟨ws, ds, s, hw, da, len, j⟩ := h
    refine hs i x H H' ds (fun y H4 => ∃ acc, H4 D = some (.lst acc) ∧ acc.length < sizeLine ∧ ∃ (ws : List V) (ds : List PyData), Same H1 (upd H4 D (.lst (acc ++ [y]))) ∧ (upd H4 D (.lst (acc ++ [y]))) D = some (.lst ws) ∧ DtAll K (upd H4 D (.lst (acc ++ [y]))) ws ds ∧ ds.length = i + 1 ∧ Jv ds) hi s y j len fun d y H4 s4 dy j4 => ?_
    have hw4 := s4 _ _ hw
    refine ⟨ws, hw4, smallL (by rw [da.lenD, len]; omega), ws ++ [y], ds ++ [d], Same.upd (s.trans s4) hD, upd_same, ?_, by rw [List.length_append, len]; rfl, j4⟩
    exact ((da.same s4).append (.cons dy .nil)).upd hw4
  · obtain ⟨ws, ds, s, hw, da, len, j⟩ := h
    exact hd _ ws ds s hw da len j
/-- a comprehension of data that draws from the pool -/
theorem lcX (wk : Walk It n G Y) {g : TG} {te : TE} {vs : List Nat} {σ : L2.St} {H1 : Hp} {D l c : Addr} {Qd : Hp → Prop} (P : Pool H1 l c) (hD : H1 D = none) (hn : n ≤ 10000000) (Jv : List PyData → Prop) (j0 : Jv []) (hG : ∀ H', Ext l c H1 H' → G H')
    (hs : ∀ i x H H' ds (R : V → Hp → Prop), i < n → Ext l c H1 H → Y i H x H' → Jv ds → ds.length = i → (∀ d y H4, Ext l c H H4 → Dt K H4 y d → Jv (ds ++ [d]) → R y H4) → g x (wipe σ vs) H' fun σ2 H2 => wipe σ2 vs = wipe σ vs ∧ te σ2 H2 R)
    (hd : ∀ H' ws ds, Ext l c H1 H' → H' D = some (.lst ws) → DtAll K H' ws ds → ds.length = n → Jv ds → Qd H') :
    ∃ W : Nat → Nat → Hp → Prop, (∃ m, W 0 m (upd H1 D (.lst []))) ∧ ∀ i m H, W i m H →
      (It.stop i H ∧ Qd H) ∨ (It.go i H ∧ ∃ Nx : Hp → Prop, (∀ H', Nx H' → ∃ m', m' < m ∧ W (i + 1) m' H') ∧ ∀ x H', It.yld i H x H' → g x (wipe σ vs) H' fun σ2 H2 => wipe σ2 vs = wipe σ vs ∧ tYes σ2 H2 fun b H3 =>
        if b = true then te σ2 H3 fun y H4 => ∃ acc, H4 D = some (.lst acc) ∧ acc.length < sizeLine ∧ Nx (upd H4 D (.lst (acc ++ [y]))) else Nx H3) := by
  have nD := (P.ne hD).1
  refine lc_it wk (fun i H' => ∃ (ws : List V) (ds : List PyData), Ext l c H1 H' ∧ H' D = some (.lst ws) ∧ DtAll K H' ws ds ∧ ds.length = i ∧ Jv ds) ⟨[], [], (Ext.refl P).new P hD, upd_same, .nil, rfl, j0⟩ (fun i H' _ h => ?_) (fun i x H H' hi h y => ?_) (fun H' h => ?_)
  · obtain ⟨_, _, s, _⟩ := h
    exact hG _ s
  · obtain ⟨ws, ds, s, hw, da, len, j⟩ := h
    refine hs i x H H' ds (fun y H4 => ∃ acc, H4 D = some (.lst acc) ∧ acc.length < sizeLine ∧ ∃ (ws : List V) (ds : List PyData), Ext l c H1 (upd H4 D (.lst (acc ++ [y]))) ∧ (upd H4 D (.lst (acc ++ [y]))) D = some (.lst ws) ∧ DtAll K (upd H4 D (.lst (acc ++ [y]))) ws ds ∧ ds.length = i + 1 ∧ Jv ds) hi s y j len fun d y H4 s4 dy j4 => ?_
    have hw4 := s4.keep _ _ nD hw
    refine ⟨ws, hw4, smallL (by rw [da.lenD, len]; omega), ws ++ [y], ds ++ [d], (s.trans s4).upd P hD, upd_same, ?_, by rw [List.length_append, len]; rfl, j4⟩
    exact ((da.ext s.pool s4).append (.cons dy .nil)).upd hw4
  · obtain ⟨ws, ds, s, hw, da, len, j⟩ := h
    exact hd _ ws ds s hw da len j
end
end PK
namespace PK
open PySem L2
/-! terms, with the forms of results -/
inductive Fm where | get | set | plus | minus
deriving DecidableEq
def Fm.s : Fm → Str
  | .get => "get" | .set => "set" | .plus => "plus" | .minus => "minus"
inductive Tm where
  | int (n : Int)
  | name (s : Str)
  | addr (n : Int)
  | var (s : Str)
  | node (c : Str) (ts : List Tm)
  | map (es : List (Str × Tm))
  | form (f : Fm) (ts : List Tm)
mutual
def Tm.d : Tm → PyData
  | .int n => .tuple [.str "int", .int n]
  | .name s => .tuple [.str "name", .str s]
  | .addr n => .tuple [.str "addr", .int n]
  | .var s => .tuple [.str "meta", .str s]
  | .node c ts => .tuple [.str "node", .str c, .tuple (Tm.ds ts)]
  | .map es => .tuple [.str "map", .tuple (Tm.es es)]
  | .form f ts => .tuple (.str f.s :: Tm.ds ts)
def Tm.ds : List Tm → List PyData
  | [] => []
  | t :: r => t.d :: Tm.ds r
def Tm.es : List (Str × Tm) → List PyData
  | [] => []
  | (w, t) :: r => .tuple [.str w, t.d] :: Tm.es r
end
theorem Tm.ds_map : ∀ ts : List Tm, Tm.ds ts = ts.map Tm.d
  | [] => by unfold Tm.ds; rfl
  | t :: r => by unfold Tm.ds; rw [Tm.ds_map r]; rfl
def Tm.ent (e : Str × Tm) : PyData := .tuple [.str e.1, e.2.d]
theorem Tm.es_map : ∀ es : List (Str × Tm), Tm.es es = es.map Tm.ent
  | [] => by unfold Tm.es; rfl
  | (w, t) :: r => by unfold Tm.es; rw [Tm.es_map r]; rfl
def Tm.kids : Tm → List Tm
  | .node _ ts => ts
  | .form _ ts => ts
  | .map es => es.map Prod.snd
  | _ => []
def Tm.hd : Tm → Str
  | .int _ => "int" | .name _ => "name" | .addr _ => "addr" | .var _ => "meta" | .node _ _ => "node" | .map _ => "map" | .form f _ => f.s
theorem Tm.kid_lt {t k : Tm} (h : k ∈ t.kids) : sizeOf k < sizeOf t := by
  cases t with
  | node c ts => have := List.sizeOf_lt_of_mem (as := ts) h; simp only [Tm.node.sizeOf_spec]; omega
  | form c ts => have := List.sizeOf_lt_of_mem (as := ts) h; simp only [Tm.form.sizeOf_spec]; omega
  | map es =>
    obtain ⟨e, he, rfl⟩ := List.mem_map.mp h
    have := List.sizeOf_lt_of_mem he
    have e2 : sizeOf e = 1 + sizeOf e.1 + sizeOf e.2 := by cases e; rfl
    simp only [Tm.map.sizeOf_spec]
    omega
  | int _ => cases h
  | name _ => cases h
  | addr _ => cases h
  | var _ => cases h
/-- induction over the direct parts -/
theorem Tm.ind {p : Tm → Prop} (h : ∀ t : Tm, (∀ k ∈ t.kids, p k) → p t) (t : Tm) : p t := by
  have : ∀ n (t : Tm), sizeOf t ≤ n → p t := by
    intro n
    induction n with
    | zero => intro t ht; cases t <;> simp at ht
    | succ n ih => exact fun t ht => h t fun k hk => ih k (by have := Tm.kid_lt hk; omega)
  exact this _ t (Nat.le_refl _)
def Tm.size (t : Tm) : Nat := 1 + (t.kids.attach.map fun k => k.1.size).sum
termination_by sizeOf t
decreasing_by exact Tm.kid_lt k.2
theorem Tm.size_eq (t : Tm) : t.size = 1 + (t.kids.map Tm.size).sum := by
  rw [Tm.size, List.attach_map_val (f := Tm.size)]
/-- the first data of the tuple of a term -/
theorem Tm.d_hd (t : Tm) : ∃ r, t.d = .tuple (.str t.hd :: r) := by
  cases t <;> exact ⟨_, by unfold Tm.d; rfl⟩
def longI (n : Int) : Bool := decide (10 ^ 15 ≤ (if n < 0 then -n else n))
def Tm.long : Tm → Bool
  | .int n => longI n
  | _ => false
/-- too deep, or a long integer, in a term at a depth -/
def Tm.bad (t : Tm) (d : Nat) : Bool := decide (100 < d) || t.long || t.kids.attach.any fun k => k.1.bad (d + 1)
termination_by sizeOf t
decreasing_by exact Tm.kid_lt k.2
theorem any_attach {α : Type} (l : List α) (p : α → Bool) : (l.attach.any fun k => p k.1) = l.any p := by
  exact (List.any_map (l := l.attach) (f := Subtype.val) (p := p)).symm.trans (by rw [List.attach_map_subtype_val])
theorem Tm.bad_eq (t : Tm) (d : Nat) : t.bad d = (decide (100 < d) || t.long || t.kids.any fun k => k.bad (d + 1)) := by
  rw [Tm.bad, any_attach t.kids (fun k => k.bad (d + 1))]
/-- the kids as data -/
theorem Tm.dt_parts {K : PySem.W.Frag} {H : Hp} {v : V} {t : Tm} (h : Dt K H v t.d) : ∃ (a : Addr) (r : List V), v = .ref a ∧ SqT K H a (.str t.hd :: r) := by
  obtain ⟨r, e⟩ := t.d_hd
  rw [e] at h
  obtain ⟨a, xs, rfl, s, da⟩ := Dt.tn h
  cases da with
  | cons h1 r1 => rw [h1.s] at s; exact ⟨a, _, rfl, s⟩
structure TxtT (K : PySem.W.Frag) (mg : Str → Option Value) (aF : Addr) : Prop extends Txt K mg where
  g_FO : mg "_FORMS" = some (.ref aF)
  forms : ∀ H, SqT K H aF [.str "get", .str "set", .str "plus", .str "minus"]
def spKids (K : PySem.W.Frag) : Sp := fun vs H Q _ => ∃ (v : V) (t : Tm), vs = [v] ∧ Dt K H v t.d ∧ t.kids.length ≤ 10000000 ∧
  ∀ (H' : Hp) (p : Addr) (ws : List V), Same H H' → SqT K H' p ws → DtAll K H' ws (t.kids.map Tm.d) → Q (.ref p) H'
theorem Fm.ne_node (f : Fm) : f.s ≠ "node" := by cases f <;> decide +kernel
theorem Fm.ne_map (f : Fm) : f.s ≠ "map" := by cases f <;> decide +kernel
theorem Fm.inF (f : Fm) : inV (.str f.s) [V.str "get", V.str "set", V.str "plus", V.str "minus"] = true := by cases f <;> decide +kernel
section
variable {P : Program} {w : World} {K : PySem.W.Frag} {mg : Str → Option Value} {base : Heap} {aF : Addr}
abbrev s_children : Stmt := topS 2
theorem sc_children : FnScope ["term", "_", "entry"] ["term"] (defScope s_children) := ⟨rfl, rfl, rfl, by decide +kernel, rfl, by decide +kernel, by decide +kernel⟩
-- slots: 0:term 1:_(comp) 2:entry(comp)
theorem ok_kids {f : Addr} {fd : FuncData} (F : Fun K "children" "children" s_children f fd) (T : TxtT K mg aF) : FnOk P w K mg base CX0 1 f fd ["term"] (spKids K) := by
  refine F.ok sc_children (fun vs H Q E h => ?_) (fun cdv A outer s H vs Q E hr h => ?_)
  · obtain ⟨v, t, rfl, _⟩ := h
    rfl
  obtain ⟨v, t, rfl, hv, hn, q⟩ := h
  refine ⟨_, (pss_cons (ps_if (pt_cmpR op_eq (pe_ix ix_tup (pv 0) pe_int (fun _ _ => rfl)) pe_str (nomark _)) (pss_one (ps_ret (pe_ix ix_tup (pv 0) pe_int (fun _ _ => rfl)))) pss_nil)
    (pss_cons (ps_if (pt_cmpR op_eq (pe_ix ix_tup (pv 0) pe_int (fun _ _ => rfl)) pe_str (nomark _)) (pss_one (ps_ret (pe_callTy call_tuple_of (by rfl) T.z_tuple (by decide +kernel) (pa_cons (pe_lc (own := [("_", 1), ("entry", 2)]) (g := (gTup K 2 (gCons (gName 1) (gCons (gName 2) gNil)))) (tt := tYes) (by rfl) sc_children.nd (pi_tup (pe_ix ix_tup (pv 0) pe_int (fun _ _ => rfl))) (blkOk_by (N := ["term", "_", "entry"]) (sc := defScope s_children) (by decide +kernel)) (fun _ _ _ _ _ => (pg_tup (by rfl) (pgs_cons (pg_name (i := 1) sc_children.nd rfl (Or.inl rfl)) (pgs_cons (pg_name (i := 2) sc_children.nd rfl (Or.inl rfl)) pgs_nil)))) (fun _ _ _ _ _ => pts_nil) (fun _ _ _ _ _ => (pv 2))) pa_nil)))) pss_nil)
    (pss_cons (ps_if (pt_cmpR op_in_seq (pe_ix ix_tup (pv 0) pe_int (fun _ _ => rfl)) (pe_glob (v := .ref aF) rfl T.g_FO rfl) rfl) (pss_one (ps_ret (pe_slice sl_tup (pv 0) (po_some pe_int) po_none))) pss_nil)
    (pss_one (ps_ret (pe_tup pa_nil)))))), ?_⟩
  cases t with
  | node c ts =>
    unfold Tm.d at hv
    obtain ⟨a, x, y, z, rfl, hs, h1, h2, h3⟩ := Dt.t3 hv
    obtain rfl := h1.s
    obtain ⟨b, ys, rfl, hb, hys⟩ := Dt.tn h3
    refine vTx rfl hs rfl ⟨rfl, _, rfl, sT rfl (vTx rfl hs rfl ?_)⟩
    exact q H b ys (Same.refl H) hb (by rw [Tm.ds_map] at hys; exact hys)
  | map es =>
    unfold Tm.d at hv
    obtain ⟨a, x, y, rfl, hs, h1, h2⟩ := Dt.t2 hv
    obtain rfl := h1.s
    obtain ⟨b, ys, rfl, hb, hys⟩ := Dt.tn h2
    rw [Tm.es_map] at hys
    have ly : ys.length = es.length := by rw [hys.lenD, List.length_map]
    have hn' : es.length ≤ 10000000 := by rw [show (Tm.map es).kids = es.map Prod.snd from rfl, List.length_map] at hn; exact hn
    refine vTx rfl hs rfl ⟨rfl, _, rfl, sF (by decide +kernel) (vTx rfl hs rfl ⟨rfl, _, rfl, sT rfl ?_⟩)⟩
    refine vTx rfl hs rfl ⟨b, rfl, ⟨_, hb⟩, fun D hD => lcS (K := K) (walk_tup (xs := ys)) hD (by omega) (fun ds => ds = (es.take ds.length).map fun e => e.2.d) rfl (fun H' s => Same.seqT s hb) ?_ ?_⟩
    · rintro i x H1 H2 ds R hi s ⟨rfl, gx⟩ jd len r
      obtain ⟨e, ge, dx⟩ := DtAll.getX hys gx
      rw [List.getElem?_map] at ge
      cases e0 : es[i]? with
      | none => rw [e0] at ge; cases ge
      | some en =>
        rw [e0] at ge
        cases ge
        obtain ⟨a1, x1, y1, rfl, hs1, k1, k2⟩ := Dt.t2 (dx.same s)
        refine ⟨a1, _, rfl, hs1, rfl, _, _, rfl, _, _, rfl, rfl, rfl, _, rfl, r en.2.d y1 _ (Same.refl _) k2 ?_⟩
        rw [List.length_append, len, show i + [en.2.d].length = i + 1 from rfl, List.take_add_one, e0, List.map_append]
        rw [len] at jd
        rw [← jd]; rfl
    · rintro H' ws ds s hw da len jd
      rw [len, ly, List.take_length] at jd
      refine ⟨D, _, rfl, .inl ⟨SqL.of hw, fun p hp => ?_⟩⟩
      refine q _ p ws (Same.upd s ((Same.refl H).trans s |>.free hp)) (SqT.of upd_same) ?_
      rw [jd] at da
      rw [show (Tm.map es).kids.map Tm.d = es.map fun e => e.2.d from by unfold Tm.kids; rw [List.map_map]; rfl]
      exact da.same (same_new hp)
  | form g ts =>
    unfold Tm.d at hv
    obtain ⟨a, xs, rfl, hs, da⟩ := Dt.tn hv
    cases da with
    | cons h1 dr =>
    obtain rfl := h1.s
    rename_i vs1
    refine vTx rfl hs (atI_nat (j := 0) rfl) ⟨rfl, _, rfl, sF g.ne_node (vTx rfl hs (atI_nat (j := 0) rfl) ⟨rfl, _, rfl, sF g.ne_map (vTx (v := .str g.s) rfl hs (atI_nat (j := 0) rfl) ⟨aF, _, rfl, .inr (T.forms H), rfl, rfl, _, rfl, ?_⟩)⟩)⟩
    rw [if_neg Bool.false_ne_true, g.inF]
    refine iteT ⟨_, rfl, _, rfl, a, _, rfl, hs, fun z => ?_, fun p hp => ?_⟩
    · have e := z.1
      revert e
      show (HT.sIx (vs1.length + 1) 0 (some 1) = 0) → False
      unfold HT.sIx
      intro e
      simp at e
    · have ec : cutV (V.str g.s :: vs1) (some 1) none = vs1 := by
        unfold cutV HT.sIx
        simp
      rw [ec]
      refine q _ p vs1 (same_new hp) (SqT.of upd_same) ?_
      rw [Tm.ds_map] at dr
      exact dr.same (same_new hp)
  | int n =>
    unfold Tm.d at hv
    obtain ⟨a, x, y, rfl, hs, h1, h2⟩ := Dt.t2 hv
    obtain rfl := h1.s
    refine vTx rfl hs rfl ⟨rfl, _, rfl, sF (by decide +kernel) (vTx rfl hs rfl ⟨rfl, _, rfl, sF (by decide +kernel) (vTx (v := .str "int") rfl hs rfl ⟨aF, _, rfl, .inr (T.forms H), rfl, rfl, _, rfl, ?_⟩)⟩)⟩
    rw [if_neg Bool.false_ne_true, show inV (.str "int") [V.str "get", V.str "set", V.str "plus", V.str "minus"] = false by decide +kernel]
    exact iteF ⟨Nat.zero_le _, fun p hp => q _ p [] (same_new hp) (SqT.of upd_same) .nil⟩
  | name n =>
    unfold Tm.d at hv
    obtain ⟨a, x, y, rfl, hs, h1, h2⟩ := Dt.t2 hv
    obtain rfl := h1.s
    refine vTx rfl hs rfl ⟨rfl, _, rfl, sF (by decide +kernel) (vTx rfl hs rfl ⟨rfl, _, rfl, sF (by decide +kernel) (vTx (v := .str "name") rfl hs rfl ⟨aF, _, rfl, .inr (T.forms H), rfl, rfl, _, rfl, ?_⟩)⟩)⟩
    rw [if_neg Bool.false_ne_true, show inV (.str "name") [V.str "get", V.str "set", V.str "plus", V.str "minus"] = false by decide +kernel]
    exact iteF ⟨Nat.zero_le _, fun p hp => q _ p [] (same_new hp) (SqT.of upd_same) .nil⟩
  | addr n =>
    unfold Tm.d at hv
    obtain ⟨a, x, y, rfl, hs, h1, h2⟩ := Dt.t2 hv
    obtain rfl := h1.s
    refine vTx rfl hs rfl ⟨rfl, _, rfl, sF (by decide +kernel) (vTx rfl hs rfl ⟨rfl, _, rfl, sF (by decide +kernel) (vTx (v := .str "addr") rfl hs rfl ⟨aF, _, rfl, .inr (T.forms H), rfl, rfl, _, rfl, ?_⟩)⟩)⟩
    rw [if_neg Bool.false_ne_true, show inV (.str "addr") [V.str "get", V.str "set", V.str "plus", V.str "minus"] = false by decide +kernel]
    exact iteF ⟨Nat.zero_le _, fun p hp => q _ p [] (same_new hp) (SqT.of upd_same) .nil⟩
  | var n =>
    unfold Tm.d at hv
    obtain ⟨a, x, y, rfl, hs, h1, h2⟩ := Dt.t2 hv
    obtain rfl := h1.s
    refine vTx rfl hs rfl ⟨rfl, _, rfl, sF (by decide +kernel) (vTx rfl hs rfl ⟨rfl, _, rfl, sF (by decide +kernel) (vTx (v := .str "meta") rfl hs rfl ⟨aF, _, rfl, .inr (T.forms H), rfl, rfl, _, rfl, ?_⟩)⟩)⟩
    rw [if_neg Bool.false_ne_true, show inV (.str "meta") [V.str "get", V.str "set", V.str "plus", V.str "minus"] = false by decide +kernel]
    exact iteF ⟨Nat.zero_le _, fun p hp => q _ p [] (same_new hp) (SqT.of upd_same) .nil⟩
end
end PK
namespace PK
open PySem L2
/-! rebuild -/
structure TxtZ (K : PySem.W.Frag) (mg : Str → Option Value) (aF : Addr) : Prop extends TxtT K mg aF where
  z_zip : mg "zip" = none
  z_reversed : mg "reversed" = none
  z_dict : mg "dict" = none
  z_sum : mg "sum" = none
def Tm.withKids : Tm → List Tm → Tm
  | .node c _, ks => .node c ks
  | .map es, ks => .map (List.zipWith (fun e k => (e.1, k)) es ks)
  | .form f _, ks => .form f ks
  | t, _ => t
end PK
namespace PK
open PySem L2
/-! assembled -/
def HdD (h : Tm × Nat) : PyData := .tuple [h.1.d, .int (h.2 : Nat)]
/-- what a row of heads makes, from its end: the terms that stand then, the last one first -/
inductive PreL : List Tm → List (Tm × Nat) → Prop
  | nil : PreL [] []
  | leaf {p : Tm} {rest : List Tm} {hs : List (Tm × Nat)} : PreL rest hs → PreL (p :: rest) ((p, 0) :: hs)
  | node {p : Tm} {ts rest : List Tm} {hs : List (Tm × Nat)} {n : Nat} : PreL (ts ++ rest) hs → ts.length = n → 0 < n → n = p.kids.length → PreL (p.withKids ts :: rest) ((p, n) :: hs)
theorem PreL.one : ∀ {hs : List (Tm × Nat)} {a b : List Tm}, PreL a hs → PreL b hs → a = b
  | [], _, _, .nil, .nil => rfl
  | (p, 0) :: hs, _, _, .leaf h, .leaf h' => by rw [PreL.one h h']
  | (p, 0) :: hs, _, _, .node _ _ h0 _, _ => absurd h0 (Nat.lt_irrefl _)
  | (p, 0) :: hs, _, _, _, .node _ _ h0 _ => absurd h0 (Nat.lt_irrefl _)
  | (p, n + 1) :: hs, _, _, .node h l _ _, .node h' l' _ _ => by
    obtain ⟨e1, e2⟩ := List.append_inj (PreL.one h h') (l.trans l'.symm)
    rw [e1, e2]
theorem PreL.len_le : ∀ {hs : List (Tm × Nat)} {a : List Tm}, PreL a hs → a.length ≤ hs.length
  | _, _, .nil => Nat.le_refl _
  | _, _, .leaf h => by rw [List.length_cons, List.length_cons]; have := h.len_le; omega
  | _, _, .node h l h0 _ => by rw [List.length_cons, List.length_cons]; have := h.len_le; rw [List.length_append] at this; omega
theorem PreL.drop : ∀ {hs : List (Tm × Nat)} {a : List Tm} (k : Nat), PreL a hs → ∃ b, PreL b (hs.drop k)
  | hs, a, 0, h => ⟨a, h⟩
  | _, _, k + 1, .nil => ⟨[], .nil⟩
  | _, _, k + 1, .leaf h => h.drop k
  | _, _, k + 1, .node h _ _ _ => h.drop k
def spAsm (K : PySem.W.Frag) : Sp := fun vs H Q _ => ∃ (a : Addr) (ws : List V) (hs : List (Tm × Nat)) (t : Tm), vs = [.ref a] ∧ SqL K H a ws ∧ DtAll K H ws (hs.map HdD) ∧ PreL [t] hs ∧ hs.length ≤ 1000000 ∧
  ∀ (H' : Hp) (v : V), Same H H' → Dt K H' v t.d → Q v H'
theorem DtAll.rev {K : PySem.W.Frag} {H : Hp} : ∀ {xs : List V} {ds : List PyData}, DtAll K H xs ds → DtAll K H xs.reverse ds.reverse
  | _, _, .nil => .nil
  | _, _, .cons h t => by
    rw [List.reverse_cons, List.reverse_cons]
    exact t.rev.append (.cons h .nil)
end PK
namespace PK
open PySem L2
/-! what filling and translating mean -/
/-- the last pair of a key -/
def lookA {α β : Type} [DecidableEq α] : List (α × β) → α → Option β
  | [], _ => none
  | (k, v) :: r, s => match lookA r s with | some t => some t | none => if k = s then some v else none
theorem lookA_map {α β γ : Type} [DecidableEq α] (f : β → γ) : ∀ (l : List (α × β)) (s : α), lookA (l.map fun p => (p.1, f p.2)) s = (lookA l s).map f
  | [], _ => rfl
  | (k, v) :: r, s => by
    rw [List.map_cons]
    unfold lookA
    rw [lookA_map f r s]
    cases lookA r s with
    | some t => rfl
    | none => by_cases e : k = s <;> simp [e]
theorem lookA_mem {α β : Type} [DecidableEq α] : ∀ {l : List (α × β)} {s : α} {t : β}, lookA l s = some t → (s, t) ∈ l
  | (k, v) :: r, s, t, h => by
    unfold lookA at h
    cases e : lookA r s with
    | some u =>
      rw [e] at h
      cases h
      exact .tail _ (lookA_mem e)
    | none =>
      rw [e] at h
      by_cases ek : k = s
      · subst ek; simp at h; subst h; exact .head _
      · simp [ek] at h
theorem lookA_has {α β : Type} [DecidableEq α] : ∀ {l : List (α × β)} {s : α}, s ∈ l.map Prod.fst → ∃ t, lookA l s = some t
  | (k, v) :: r, s, h => by
    unfold lookA
    cases e : lookA r s with
    | some u => exact ⟨u, rfl⟩
    | none =>
      rcases List.mem_cons.mp h with h | h
      · exact ⟨v, by simp [h]⟩
      · obtain ⟨t, e2⟩ := lookA_has h
        rw [e] at e2; cases e2
abbrev Tab := List (Str × Tm)
def Tm.filK (tab : Tab) (t : Tm) (ks : List Tm) : Tm := match t with
  | .var s => (lookA tab s).getD (.var s)
  | t => t.withKids ks
def Tm.fill (tab : Tab) (t : Tm) : Tm := t.filK tab (t.kids.attach.map fun k => k.1.fill tab)
termination_by sizeOf t
decreasing_by exact Tm.kid_lt k.2
theorem Tm.fill_eq (tab : Tab) (t : Tm) : t.fill tab = t.filK tab (t.kids.map (Tm.fill tab)) := by
  rw [Tm.fill, List.attach_map_val (f := Tm.fill tab)]
structure Rw where
  nm : Str
  ps : List Str
  t : Tm
def Rw.d (r : Rw) : PyData := .tuple [.str r.nm, .tuple (r.ps.map .str), r.t.d]
def rowOf (R : List Rw) (c : Str) : Option Rw := R.find? fun r => decide (r.nm = c)
theorem rowOf_mem {R : List Rw} (hn : (R.map Rw.nm).Nodup) {r : Rw} (h : r ∈ R) : rowOf R r.nm = some r := by
  unfold rowOf
  induction R with
  | nil => cases h
  | cons x R ih =>
    rw [List.map_cons, List.nodup_cons] at hn
    rcases List.mem_cons.mp h with rfl | h
    · rw [List.find?_cons_of_pos (by simp)]
    · have : ¬ x.nm = r.nm := fun e => hn.1 (by rw [e]; exact List.mem_map.mpr ⟨r, h, rfl⟩)
      rw [List.find?_cons_of_neg (by simp [this]), ih hn.2 h]
def Tm.trK (R : List Rw) (t : Tm) (ks : List Tm) : Tm := match t with
  | .node c ts => (match rowOf R c with | some r => r.t.fill (r.ps.zip ks) | none => .node c ks)
  | t => t.withKids ks
def Tm.trans (R : List Rw) (t : Tm) : Tm := t.trK R (t.kids.attach.map fun k => k.1.trans R)
termination_by sizeOf t
decreasing_by exact Tm.kid_lt k.2
theorem Tm.trans_eq (R : List Rw) (t : Tm) : t.trans R = t.trK R (t.kids.map (Tm.trans R)) := by
  rw [Tm.trans, List.attach_map_val (f := Tm.trans R)]
def trTab (R : List Rw) (tab : Tab) : Tab := tab.map fun p => (p.1, p.2.trans R)
theorem trTab_zip (R : List Rw) : ∀ (ps : List Str) (ts : List Tm), trTab R (ps.zip ts) = ps.zip (ts.map (Tm.trans R))
  | [], _ => rfl
  | _ :: _, [] => rfl
  | p :: ps, t :: ts => by
    rw [List.zip_cons_cons, List.map_cons, List.zip_cons_cons, ← trTab_zip R ps ts]; rfl
/-! height, parts -/
def Tm.ht (t : Tm) : Nat := 1 + (t.kids.attach.map fun k => k.1.ht).foldr max 0
termination_by sizeOf t
decreasing_by exact Tm.kid_lt k.2
theorem Tm.ht_eq (t : Tm) : t.ht = 1 + (t.kids.map Tm.ht).foldr max 0 := by
  rw [Tm.ht, List.attach_map_val (f := Tm.ht)]
theorem fmax_le {n : Nat} : ∀ {l : List Nat}, (∀ x ∈ l, x ≤ n) → l.foldr max 0 ≤ n
  | [], _ => Nat.zero_le _
  | x :: l, h => by
    have h1 := h x List.mem_cons_self
    have h2 := fmax_le (n := n) (l := l) fun y hy => h y (List.mem_cons_of_mem _ hy)
    rw [List.foldr_cons]
    omega
theorem le_fmax : ∀ {l : List Nat} {x : Nat}, x ∈ l → x ≤ l.foldr max 0
  | y :: l, x, h => by
    rw [List.foldr_cons]
    rcases List.mem_cons.mp h with rfl | h
    · omega
    · have := le_fmax h; omega
theorem Tm.ht_kid {t k : Tm} (h : k ∈ t.kids) : k.ht + 1 ≤ t.ht := by
  have := le_fmax (List.mem_map.mpr ⟨k, h, rfl⟩ : k.ht ∈ t.kids.map Tm.ht)
  rw [Tm.ht_eq t]; omega
theorem Tm.ht_le {t : Tm} {n : Nat} (h : ∀ k ∈ t.kids, k.ht ≤ n) : t.ht ≤ n + 1 := by
  rw [Tm.ht_eq t]
  have := fmax_le (n := n) (l := t.kids.map Tm.ht) fun x hx => by
    obtain ⟨k, hk, rfl⟩ := List.mem_map.mp hx
    exact h k hk
  omega
theorem Tm.ht_pos (t : Tm) : 1 ≤ t.ht := by rw [Tm.ht_eq t]; omega
theorem zip_snd : ∀ {es : List (Str × Tm)} {ks : List Tm}, ks.length = es.length → List.zipWith (fun (e : Str × Tm) (k : Tm) => (Prod.snd ((e.1, k) : Str × Tm))) es ks = ks
  | [], [], _ => rfl
  | [], _ :: _, h => nomatch h
  | _ :: _, [], h => nomatch h
  | e :: es, k :: ks, h => by rw [List.zipWith_cons_cons, zip_snd (Nat.succ.inj h)]
theorem Tm.kids_with {t : Tm} {ks : List Tm} (h : ks.length = t.kids.length) : (t.withKids ks).kids = ks := by
  cases t with
  | node c ts => rfl
  | form c ts => rfl
  | map es =>
    have h : ks.length = es.length := by
      have : (Tm.map es).kids.length = es.length := List.length_map ..
      rw [this] at h; exact h
    show (List.zipWith (fun e k => (e.1, k)) es ks).map Prod.snd = ks
    rw [List.map_zipWith]
    exact zip_snd h
  | int _ => exact (List.length_eq_zero_iff.mp h).symm
  | name _ => exact (List.length_eq_zero_iff.mp h).symm
  | addr _ => exact (List.length_eq_zero_iff.mp h).symm
  | var _ => exact (List.length_eq_zero_iff.mp h).symm
theorem Tm.with_nil {t : Tm} (h : t.kids = []) : t.withKids [] = t := by
  cases t with
  | node c ts => have h : ts = [] := h; rw [h]; rfl
  | form c ts => have h : ts = [] := h; rw [h]; rfl
  | map es =>
    have : es = [] := List.map_eq_nil_iff.mp h
    rw [this]; rfl
  | _ => rfl
theorem Tm.size_pos (t : Tm) : 1 ≤ t.size := by rw [Tm.size_eq t]; omega
/-- a property of all parts -/
inductive Al (p : Tm → Prop) : Tm → Prop
  | mk {t : Tm} : p t → (∀ k ∈ t.kids, Al p k) → Al p t
theorem Al.at_ {p : Tm → Prop} {t : Tm} (h : Al p t) : p t := by cases h; assumption
theorem Al.kid {p : Tm → Prop} {t k : Tm} (h : Al p t) (hk : k ∈ t.kids) : Al p k := by cases h with | mk _ h => exact h k hk
def okN (R : List Rw) (t : Tm) : Prop := t.kids.length ≤ 1000 ∧ ∀ c ts, t = .node c ts → ∃ r ∈ R, r.nm = c ∧ r.ps.length = ts.length
def okT (R : List Rw) : Tm → Prop := Al (okN R)
def okP (ps : List Str) : Tm → Prop := Al fun t => t.kids.length ≤ 1000 ∧ ∀ s, t = .var s → s ∈ ps
structure okR (R : List Rw) : Prop where
  nd : (R.map Rw.nm).Nodup
  len : R.length ≤ 1000
  ar : ∀ r ∈ R, r.ps.length ≤ 1000
  p : ∀ r ∈ R, okP r.ps r.t
  node : ∀ r ∈ R, ∃ c ts, r.t = .node c ts
/-- what waits to be translated -/
structure Itm where
  part : Tm
  b : Option Tab
  dep : Nat
def Itm.f (R : List Rw) (it : Itm) (t : Tm) : Tm := match it.b with
  | none => t.trans R
  | some tab => t.fill (trTab R tab)
def Itm.res (R : List Rw) (it : Itm) : Tm := it.f R it.part
def Itm.ok (R : List Rw) (it : Itm) : Prop := match it.b with
  | none => okT R it.part
  | some tab => okP (tab.map Prod.fst) it.part ∧ (∀ p ∈ tab, okT R p.2)
/-- a metavariable that stands for something -/
def Itm.s1 (it : Itm) : Itm := match it.b, it.part with
  | some tab, .var s => (match lookA tab s with | some t => ⟨t, none, it.dep⟩ | none => it)
  | _, _ => it
theorem Itm.s1_dep (it : Itm) : it.s1.dep = it.dep := by
  unfold Itm.s1
  split
  · split <;> rfl
  · rfl
theorem Itm.s1_res {R : List Rw} (it : Itm) : it.s1.res R = it.res R := by
  obtain ⟨part, b, dep⟩ := it
  unfold Itm.s1
  dsimp only
  split
  · rename_i tab s
    cases e : lookA tab s with
    | none => rfl
    | some t =>
      show t.trans R = (Tm.var s).fill (trTab R tab)
      rw [Tm.fill_eq]
      show _ = (lookA (trTab R tab) s).getD (.var s)
      unfold trTab
      rw [lookA_map, e]; rfl
  · rfl
theorem Itm.s1_ok {R : List Rw} {it : Itm} (h : it.ok R) : it.s1.ok R := by
  obtain ⟨part, b, dep⟩ := it
  unfold Itm.s1
  dsimp only
  split
  · rename_i tab s
    cases e : lookA tab s with
    | none => exact h
    | some t => exact h.2 (s, t) (lookA_mem e)
  · exact h
theorem Itm.s1_var {R : List Rw} {it : Itm} (h : it.ok R) : it.s1.b ≠ none → ∀ s, it.s1.part ≠ .var s := by
  obtain ⟨part, b, dep⟩ := it
  unfold Itm.s1
  dsimp only
  split
  · rename_i tab s
    obtain ⟨t, e⟩ := lookA_has (h.1.at_.2 s rfl)
    rw [e]
    exact fun h => absurd rfl h
  · rename_i hx
    intro hb s e
    dsimp only at hb e
    cases b with
    | none => exact hb rfl
    | some tab => exact hx tab s rfl e
/-- a node of the source -/
def Itm.s2 (R : List Rw) (it : Itm) : Itm := match it.b, it.part with
  | none, .node c ts => (match rowOf R c with | some r => ⟨r.t, some (r.ps.zip ts), it.dep⟩ | none => it)
  | _, _ => it
theorem Itm.s2_dep {R : List Rw} (it : Itm) : (it.s2 R).dep = it.dep := by
  unfold Itm.s2
  split
  · split <;> rfl
  · rfl
theorem Itm.s2_res {R : List Rw} (it : Itm) : (it.s2 R).res R = it.res R := by
  obtain ⟨part, b, dep⟩ := it
  unfold Itm.s2
  dsimp only
  split
  · rename_i c ts
    cases e : rowOf R c with
    | none => rfl
    | some r =>
      show r.t.fill (trTab R (r.ps.zip ts)) = (Tm.node c ts).trans R
      rw [Tm.trans_eq, trTab_zip]
      unfold Tm.trK
      dsimp only
      rw [e]; rfl
  · rfl
theorem Itm.s2_ok {R : List Rw} (O : okR R) {it : Itm} (h : it.ok R) : (it.s2 R).ok R := by
  obtain ⟨part, b, dep⟩ := it
  unfold Itm.s2
  dsimp only
  split
  · rename_i c ts
    obtain ⟨r, hr, rfl, hl⟩ := (show okT R (.node c ts) from h).at_.2 c ts rfl
    rw [rowOf_mem O.nd hr]
    refine ⟨?_, fun p hp => ?_⟩
    · rw [List.map_fst_zip (by omega)]; exact O.p r hr
    · exact (show okT R (.node r.nm ts) from h).kid (List.of_mem_zip hp).2
  · exact h
/-- what both steps lead to -/
structure Itm.can (R : List Rw) (it : Itm) : Prop where
  ok : it.ok R
  v : it.b ≠ none → ∀ s, it.part ≠ .var s
  n : it.b = none → ∀ c ts, it.part ≠ .node c ts
theorem Itm.s2_can {R : List Rw} (O : okR R) {it : Itm} (h : it.ok R) (hv : it.b ≠ none → ∀ s, it.part ≠ .var s) : (it.s2 R).can R := by
  refine ⟨Itm.s2_ok O h, ?_, ?_⟩
  · obtain ⟨part, b, dep⟩ := it
    unfold Itm.s2
    dsimp only
    split
    · rename_i c ts
      obtain ⟨r, hr, rfl, hl⟩ := (show okT R (.node c ts) from h).at_.2 c ts rfl
      rw [rowOf_mem O.nd hr]
      obtain ⟨c', ts', e⟩ := O.node r hr
      intro _ s e2
      rw [show r.t = Tm.var s from e2] at e
      cases e
    · exact hv
  · obtain ⟨part, b, dep⟩ := it
    unfold Itm.s2
    dsimp only
    split
    · rename_i c ts
      obtain ⟨r, hr, rfl, hl⟩ := (show okT R (.node c ts) from h).at_.2 c ts rfl
      rw [rowOf_mem O.nd hr]
      intro e; cases e
    · rename_i hx
      intro hb c ts e
      exact hx c ts hb e
theorem Itm.can_len {R : List Rw} {it : Itm} (h : it.can R) : it.part.kids.length ≤ 1000 := by
  obtain ⟨part, b, dep⟩ := it
  cases b with
  | none => exact (show okT R part from h.ok).at_.1
  | some tab => exact (h.ok.1).at_.1
theorem Itm.can_kid {R : List Rw} {it : Itm} (h : it.can R) {k : Tm} (hk : k ∈ it.part.kids) : (Itm.mk k it.b (it.dep + 1)).ok R := by
  obtain ⟨part, b, dep⟩ := it
  cases b with
  | none => exact (show okT R part from h.ok).kid hk
  | some tab => exact ⟨h.ok.1.kid hk, h.ok.2⟩
theorem Itm.can_res {R : List Rw} {it : Itm} (h : it.can R) : it.res R = it.part.withKids (it.part.kids.map (it.f R)) := by
  obtain ⟨part, b, dep⟩ := it
  cases b with
  | none =>
    show part.trans R = part.withKids (part.kids.map (Tm.trans R))
    rw [Tm.trans_eq]
    cases part with
    | node c ts => exact absurd rfl (h.n rfl c ts)
    | _ => rfl
  | some tab =>
    show part.fill (trTab R tab) = part.withKids (part.kids.map (Tm.fill (trTab R tab)))
    rw [Tm.fill_eq]
    cases part with
    | var s => exact absurd rfl (h.v (by simp) s)
    | _ => rfl
theorem Itm.can_size {R : List Rw} {it : Itm} (h : it.can R) : (it.res R).size = 1 + ((it.part.kids.map (it.f R)).map Tm.size).sum := by
  rw [it.can_res h, Tm.size_eq, Tm.kids_with (by rw [List.length_map])]
theorem Itm.can_ht {R : List Rw} {it : Itm} (h : it.can R) {k : Tm} (hk : k ∈ it.part.kids) : (it.f R k).ht + 1 ≤ (it.res R).ht := by
  refine Tm.ht_kid ?_
  rw [it.can_res h, Tm.kids_with (by rw [List.length_map])]
  exact List.mem_map.mpr ⟨k, hk, rfl⟩
/-- one head more -/
theorem Itm.can_pre {R : List Rw} {it : Itm} (h : it.can R) {rest : List Tm} {hs : List (Tm × Nat)} (p : PreL (it.part.kids.map (it.f R) ++ rest) hs) : PreL (it.res R :: rest) ((it.part, it.part.kids.length) :: hs) := by
  rw [it.can_res h]
  by_cases e : it.part.kids = []
  · rw [e] at p ⊢
    rw [List.map_nil] at p ⊢
    rw [Tm.with_nil e]
    exact .leaf p
  · exact .node p (by rw [List.length_map]) (List.length_pos_iff.mpr e) rfl
def totI (R : List Rw) (its : List Itm) : Nat := (its.map fun i => (i.res R).size).sum
end PK
namespace PK
open PySem L2
/-! children, told in a view that is smaller than the heap -/
section
variable {K : PySem.W.Frag} {It : It} {n : Nat} {G : Hp → Prop} {Y : Nat → Hp → V → Hp → Prop}
/-- a comprehension whose items are data in a view that stands fixed -/
theorem lcV (wk : Walk It n G Y) {g : TG} {te : TE} {vs : List Nat} {σ : L2.St} {H1 Hv : Hp} {D : Addr} {Qd : Hp → Prop} (hD : H1 D = none) (hn : n ≤ 10000000) (ds : List PyData) (hl : ds.length = n) (hG : ∀ H', Same H1 H' → G H')
    (hs : ∀ i x H H' d (R : V → Hp → Prop), ds[i]? = some d → Same H1 H → Y i H x H' → (∀ y H4, Same H H4 → Dt K Hv y d → R y H4) → g x (wipe σ vs) H' fun σ2 H2 => wipe σ2 vs = wipe σ vs ∧ te σ2 H2 R)
    (hd : ∀ H' ws, Same H1 H' → H' D = some (.lst ws) → DtAll K Hv ws ds → Qd H') :
    ∃ W : Nat → Nat → Hp → Prop, (∃ m, W 0 m (upd H1 D (.lst []))) ∧ ∀ i m H, W i m H →
      (It.stop i H ∧ Qd H) ∨ (It.go i H ∧ ∃ Nx : Hp → Prop, (∀ H', Nx H' → ∃ m', m' < m ∧ W (i + 1) m' H') ∧ ∀ x H', It.yld i H x H' → g x (wipe σ vs) H' fun σ2 H2 => wipe σ2 vs = wipe σ vs ∧ tYes σ2 H2 fun b H3 =>
        if b = true then te σ2 H3 fun y H4 => ∃ acc, H4 D = some (.lst acc) ∧ acc.length < sizeLine ∧ Nx (upd H4 D (.lst (acc ++ [y]))) else Nx H3) := by
  refine lc_it wk (fun i H' => i ≤ n ∧ ∃ ws : List V, Same H1 H' ∧ H' D = some (.lst ws) ∧ DtAll K Hv ws (ds.take i)) ⟨Nat.zero_le _, [], same_new hD, upd_same, .nil⟩ (fun i H' _ h => ?_) (fun i x H H' hi h y => ?_) (fun H' h => ?_)
  · obtain ⟨_, _, s, _⟩ := h
    exact hG _ s
  · obtain ⟨_, ws, s, hw, da⟩ := h
    have hid : ds[i]? = some ds[i] := List.getElem?_eq_getElem (by omega)
    refine hs i x H H' ds[i] _ hid s y fun z H4 s4 dz => ?_
    have hw4 := s4 _ _ hw
    have lw : ws.length = i := by rw [da.lenD, List.length_take]; omega
    refine ⟨ws, hw4, smallL (by omega), hi, ws ++ [z], Same.upd (s.trans s4) hD, upd_same, ?_⟩
    rw [List.take_add_one, hid]
    exact da.append (.cons dz .nil)
  · obtain ⟨_, ws, s, hw, da⟩ := h
    rw [List.take_of_length_le (by omega)] at da
    exact hd _ ws s hw da
end
def spKidsV (K : PySem.W.Frag) : Sp := fun vs H Q _ => ∃ (v : V) (t : Tm) (Hv : Hp), vs = [v] ∧ (∀ a xs, SqT K Hv a xs → SqT K H a xs) ∧ Dt K Hv v t.d ∧ t.kids.length ≤ 10000000 ∧
  ∀ (H' : Hp) (p : Addr) (ws : List V), Same H H' → SqT K H' p ws → DtAll K Hv ws (t.kids.map Tm.d) → Q (.ref p) H'
section
variable {P : Program} {w : World} {K : PySem.W.Frag} {mg : Str → Option Value} {base : Heap} {aF : Addr}
theorem ok_kidsV {f : Addr} {fd : FuncData} (F : Fun K "children" "children" s_children f fd) (T : TxtT K mg aF) : FnOk P w K mg base CX0 1 f fd ["term"] (spKidsV K) := by
  refine F.ok sc_children (fun vs H Q E h => ?_) (fun cdv A outer s H vs Q E hr h => ?_)
  · obtain ⟨v, t, _, rfl, _⟩ := h
    rfl
  obtain ⟨v, t, Hv, rfl, up, hv, hn, q⟩ := h
  refine ⟨_, (pss_cons (ps_if (pt_cmpR op_eq (pe_ix ix_tup (pv 0) pe_int (fun _ _ => rfl)) pe_str (nomark _)) (pss_one (ps_ret (pe_ix ix_tup (pv 0) pe_int (fun _ _ => rfl)))) pss_nil)
    (pss_cons (ps_if (pt_cmpR op_eq (pe_ix ix_tup (pv 0) pe_int (fun _ _ => rfl)) pe_str (nomark _)) (pss_one (ps_ret (pe_callTy call_tuple_of (by rfl) T.z_tuple (by decide +kernel) (pa_cons (pe_lc (own := [("_", 1), ("entry", 2)]) (g := (gTup K 2 (gCons (gName 1) (gCons (gName 2) gNil)))) (tt := tYes) (by rfl) sc_children.nd (pi_tup (pe_ix ix_tup (pv 0) pe_int (fun _ _ => rfl))) (blkOk_by (N := ["term", "_", "entry"]) (sc := defScope s_children) (by decide +kernel)) (fun _ _ _ _ _ => (pg_tup (by rfl) (pgs_cons (pg_name (i := 1) sc_children.nd rfl (Or.inl rfl)) (pgs_cons (pg_name (i := 2) sc_children.nd rfl (Or.inl rfl)) pgs_nil)))) (fun _ _ _ _ _ => pts_nil) (fun _ _ _ _ _ => (pv 2))) pa_nil)))) pss_nil)
    (pss_cons (ps_if (pt_cmpR op_in_seq (pe_ix ix_tup (pv 0) pe_int (fun _ _ => rfl)) (pe_glob (v := .ref aF) rfl T.g_FO rfl) rfl) (pss_one (ps_ret (pe_slice sl_tup (pv 0) (po_some pe_int) po_none))) pss_nil)
    (pss_one (ps_ret (pe_tup pa_nil)))))), ?_⟩
  cases t with
  | node c ts =>
    unfold Tm.d at hv
    obtain ⟨a, x, y, z, rfl, hs, h1, h2, h3⟩ := Dt.t3 hv
    obtain rfl := h1.s
    obtain ⟨b, ys, rfl, hb, hys⟩ := Dt.tn h3
    refine vTx rfl (up _ _ hs) rfl ⟨rfl, _, rfl, sT rfl (vTx rfl (up _ _ hs) rfl ?_)⟩
    exact q H b ys (Same.refl H) (up _ _ hb) (by rw [Tm.ds_map] at hys; exact hys)
  | map es =>
    unfold Tm.d at hv
    obtain ⟨a, x, y, rfl, hs, h1, h2⟩ := Dt.t2 hv
    obtain rfl := h1.s
    obtain ⟨b, ys, rfl, hb, hys⟩ := Dt.tn h2
    rw [Tm.es_map] at hys
    have ly : ys.length = es.length := by rw [hys.lenD, List.length_map]
    have hn' : es.length ≤ 10000000 := by rw [show (Tm.map es).kids = es.map Prod.snd from rfl, List.length_map] at hn; exact hn
    refine vTx rfl (up _ _ hs) rfl ⟨rfl, _, rfl, sF (by decide +kernel) (vTx rfl (up _ _ hs) rfl ⟨rfl, _, rfl, sT rfl ?_⟩)⟩
    refine vTx rfl (up _ _ hs) rfl ⟨b, rfl, ⟨_, up _ _ hb⟩, fun D hD => lcV (K := K) (Hv := Hv) (walk_tup (xs := ys)) hD (by omega) (es.map fun e => e.2.d) (by rw [List.length_map, ly]) (fun H' s => Same.seqT s (up _ _ hb)) ?_ ?_⟩
    · rintro i x H1 H2 d R hi s ⟨rfl, gx⟩ r
      obtain ⟨e, ge, dx⟩ := DtAll.getX hys gx
      rw [List.getElem?_map] at ge hi
      cases e0 : es[i]? with
      | none => rw [e0] at ge; cases ge
      | some en =>
        rw [e0] at ge hi
        cases ge
        cases hi
        obtain ⟨a1, x1, y1, rfl, hs1, k1, k2⟩ := Dt.t2 dx
        exact ⟨a1, _, rfl, Same.seqT s (up _ _ hs1), rfl, _, _, rfl, _, _, rfl, rfl, rfl, _, rfl, r y1 _ (Same.refl _) k2⟩
    · rintro H' ws s hw da
      refine ⟨D, _, rfl, .inl ⟨SqL.of hw, fun p hp => ?_⟩⟩
      refine q _ p ws (Same.upd s ((Same.refl H).trans s |>.free hp)) (SqT.of upd_same) ?_
      rw [show (Tm.map es).kids.map Tm.d = es.map fun e => e.2.d from by unfold Tm.kids; rw [List.map_map]; rfl]
      exact da
  | form g ts =>
    unfold Tm.d at hv
    obtain ⟨a, xs, rfl, hs, da⟩ := Dt.tn hv
    cases da with
    | cons h1 dr =>
    obtain rfl := h1.s
    rename_i vs1
    have hs := up _ _ hs
    refine vTx rfl hs (atI_nat (j := 0) rfl) ⟨rfl, _, rfl, sF g.ne_node (vTx rfl hs (atI_nat (j := 0) rfl) ⟨rfl, _, rfl, sF g.ne_map (vTx (v := .str g.s) rfl hs (atI_nat (j := 0) rfl) ⟨aF, _, rfl, .inr (T.forms H), rfl, rfl, _, rfl, ?_⟩)⟩)⟩
    rw [if_neg Bool.false_ne_true, g.inF]
    refine iteT ⟨_, rfl, _, rfl, a, _, rfl, hs, fun z => ?_, fun p hp => ?_⟩
    · have e := z.1
      revert e
      show (HT.sIx (vs1.length + 1) 0 (some 1) = 0) → False
      unfold HT.sIx
      intro e
      simp at e
    · have ec : cutV (V.str g.s :: vs1) (some 1) none = vs1 := by
        unfold cutV HT.sIx
        simp
      rw [ec]
      refine q _ p vs1 (same_new hp) (SqT.of upd_same) ?_
      rw [Tm.ds_map] at dr
      exact dr
  | int n =>
    unfold Tm.d at hv
    obtain ⟨a, x, y, rfl, hs, h1, h2⟩ := Dt.t2 hv
    obtain rfl := h1.s
    refine vTx rfl (up _ _ hs) rfl ⟨rfl, _, rfl, sF (by decide +kernel) (vTx rfl (up _ _ hs) rfl ⟨rfl, _, rfl, sF (by decide +kernel) (vTx (v := .str "int") rfl (up _ _ hs) rfl ⟨aF, _, rfl, .inr (T.forms H), rfl, rfl, _, rfl, ?_⟩)⟩)⟩
    rw [if_neg Bool.false_ne_true, show inV (.str "int") [V.str "get", V.str "set", V.str "plus", V.str "minus"] = false by decide +kernel]
    exact iteF ⟨Nat.zero_le _, fun p hp => q _ p [] (same_new hp) (SqT.of upd_same) .nil⟩
  | name n =>
    unfold Tm.d at hv
    obtain ⟨a, x, y, rfl, hs, h1, h2⟩ := Dt.t2 hv
    obtain rfl := h1.s
    refine vTx rfl (up _ _ hs) rfl ⟨rfl, _, rfl, sF (by decide +kernel) (vTx rfl (up _ _ hs) rfl ⟨rfl, _, rfl, sF (by decide +kernel) (vTx (v := .str "name") rfl (up _ _ hs) rfl ⟨aF, _, rfl, .inr (T.forms H), rfl, rfl, _, rfl, ?_⟩)⟩)⟩
    rw [if_neg Bool.false_ne_true, show inV (.str "name") [V.str "get", V.str "set", V.str "plus", V.str "minus"] = false by decide +kernel]
    exact iteF ⟨Nat.zero_le _, fun p hp => q _ p [] (same_new hp) (SqT.of upd_same) .nil⟩
  | addr n =>
    unfold Tm.d at hv
    obtain ⟨a, x, y, rfl, hs, h1, h2⟩ := Dt.t2 hv
    obtain rfl := h1.s
    refine vTx rfl (up _ _ hs) rfl ⟨rfl, _, rfl, sF (by decide +kernel) (vTx rfl (up _ _ hs) rfl ⟨rfl, _, rfl, sF (by decide +kernel) (vTx (v := .str "addr") rfl (up _ _ hs) rfl ⟨aF, _, rfl, .inr (T.forms H), rfl, rfl, _, rfl, ?_⟩)⟩)⟩
    rw [if_neg Bool.false_ne_true, show inV (.str "addr") [V.str "get", V.str "set", V.str "plus", V.str "minus"] = false by decide +kernel]
    exact iteF ⟨Nat.zero_le _, fun p hp => q _ p [] (same_new hp) (SqT.of upd_same) .nil⟩
  | var n =>
    unfold Tm.d at hv
    obtain ⟨a, x, y, rfl, hs, h1, h2⟩ := Dt.t2 hv
    obtain rfl := h1.s
    refine vTx rfl (up _ _ hs) rfl ⟨rfl, _, rfl, sF (by decide +kernel) (vTx rfl (up _ _ hs) rfl ⟨rfl, _, rfl, sF (by decide +kernel) (vTx (v := .str "meta") rfl (up _ _ hs) rfl ⟨aF, _, rfl, .inr (T.forms H), rfl, rfl, _, rfl, ?_⟩)⟩)⟩
    rw [if_neg Bool.false_ne_true, show inV (.str "meta") [V.str "get", V.str "set", V.str "plus", V.str "minus"] = false by decide +kernel]
    exact iteF ⟨Nat.zero_le _, fun p hp => q _ p [] (same_new hp) (SqT.of upd_same) .nil⟩
theorem kids_of {n : Nat} (C : C8.Cal P w K mg base n "children" (spKidsV K) []) : C8.Cal P w K mg base n "children" (spKids K) [] := by
  obtain ⟨f, fd, ps, ds, F, r⟩ := C
  refine ⟨f, fd, ps, ds, F.imp fun vs H Q E h => ?_, r⟩
  obtain ⟨v, t, e, hv, hl, q⟩ := h
  exact ⟨v, t, H, e, fun _ _ z => z, hv, hl, fun H' p ws s hs da => q H' p ws s hs (da.same s)⟩
end
end PK
namespace PK
open PySem L2 GenF GenW PyProof.Rows
/-! parts_of: a generator -/
def Tm.parts (t : Tm) : List Tm := t :: (t.kids.attach.map fun k => k.1.parts).flatten
termination_by sizeOf t
decreasing_by exact Tm.kid_lt k.2
theorem Tm.parts_eq (t : Tm) : t.parts = t :: (t.kids.map Tm.parts).flatten := by
  rw [Tm.parts, List.attach_map_val (f := Tm.parts)]
theorem Tm.parts_len (t : Tm) : t.parts.length = t.size := by
  induction t using Tm.ind with
  | h t ih =>
    rw [Tm.parts_eq, Tm.size_eq, List.length_cons, List.length_flatten, List.map_map, Nat.add_comm]
    congr 1
    exact congrArg List.sum (List.map_congr_left ih)
/-- what is still to come of a stack, its end first -/
def todo (ts : List Tm) : List Tm := (ts.reverse.map Tm.parts).flatten
theorem DtAll.reverse {K : PySem.W.Frag} {H : Hp} : ∀ {xs : List V} {ds : List PyData}, DtAll K H xs ds → DtAll K H xs.reverse ds.reverse
  | _, _, .nil => .nil
  | _, _, .cons h t => by rw [List.reverse_cons, List.reverse_cons]; exact (DtAll.reverse t).append (.cons h .nil)
theorem todo_nil : todo [] = [] := rfl
theorem todo_snoc (ts : List Tm) (t : Tm) : todo (ts ++ [t]) = t :: todo (ts ++ t.kids.reverse) := by
  unfold todo
  rw [List.reverse_append, List.reverse_append, List.map_append, List.map_append, List.flatten_append, List.flatten_append, List.reverse_reverse]
  show (Tm.parts t :: []).flatten ++ _ = _
  rw [show (Tm.parts t :: []).flatten = t.parts from by simp, Tm.parts_eq]
  rfl
theorem todo_one (t : Tm) : todo [t] = t.parts := by simp [todo]
theorem todo_kids {ts : List Tm} {t : Tm} : (ts ++ t.kids.reverse).length ≤ (todo (ts ++ t.kids.reverse)).length := by
  unfold todo
  rw [List.length_flatten, List.map_map, ← List.length_reverse (as := ts ++ t.kids.reverse)]
  generalize (ts ++ t.kids.reverse).reverse = l
  induction l with
  | nil => exact Nat.le_refl _
  | cons a r ih =>
    have : 1 ≤ a.parts.length := by rw [Tm.parts_eq, List.length_cons]; omega
    rw [List.map_cons, List.sum_cons, List.length_cons]
    show _ ≤ a.parts.length + _
    omega
/-- the parts of a term, read in the tuples of the heap at the call -/
def itParts (K : PySem.W.Frag) (H : Hp) (ts : List Tm) : Nat → V → Prop := fun i x => ∃ t, ts[i]? = some t ∧ Dt K (tupsOf H) x t.d
def spParts (K : PySem.W.Frag) : SpI := fun vs H n it => ∃ (v : V) (t : Tm), vs = [v] ∧ Dt K H v t.d ∧ t.size ≤ 1000000 ∧ n = t.size ∧ it = itParts K H t.parts
theorem sq_tups {K : PySem.W.Frag} {H : Hp} {a : Addr} {xs : List V} (s : SqT K H a xs) : SqT K (tupsOf H) a xs := by
  rcases s with s | s
  · exact .inl (.inl (tupsOf_rd s))
  · exact .inr s
section
variable {P : Program} {w : World} {K : PySem.W.Frag} {mg : Str → Option Value} {base : Heap} {aF : Addr}
abbrev s_parts_of : Stmt := topS 4
abbrev stP (i : Nat) : Stmt := (defBody s_parts_of).getD i (.Pass ⟨0, 0, 0, 0⟩)
def whTest : Stmt → Expr
  | .While t _ _ _ => t
  | _ => .Constant .none 0 ⟨0, 0, 0, 0⟩
def whBody : Stmt → List Stmt
  | .While _ b _ _ => b
  | _ => []
abbrev stW (i : Nat) : Stmt := (whBody (stP 1)).getD i (.Pass ⟨0, 0, 0, 0⟩)
def yieldE : Stmt → Expr
  | .Expr (.Yield (some e) _) _ => e
  | _ => .Constant .none 0 ⟨0, 0, 0, 0⟩
theorem lk_none {sc : Scope} (h : sc.names.all (fun y => !decide (y.2 = .cell) && !decide (y.2 = .free)) = true) (x : Str) : sc.names.lookup x ≠ some .cell ∧ sc.names.lookup x ≠ some .free := by
  refine ⟨fun e => ?_, fun e => ?_⟩ <;>
  · have := List.all_eq_true.mp h _ (PySem.mem_of_lookup e)
    simp at this
theorem nc_parts : NoCells (defScope s_parts_of) := ⟨rfl, rfl, rfl, fun _ => rfl, lk_none (by decide +kernel)⟩
abbrev eP (G : Gs) (f : Addr) (cd : Value) : Env := envOfC "parts_of" (defScope s_parts_of) G.F f cd
abbrev cP (G : Gs) (mg : Str → Option Value) (f : Addr) (cd : Value) (Hw : Hp) (sn : Shared) : Cx := cxG G mg ["term", "waiting", "part"] "parts_of" (defScope s_parts_of) f cd Hw sn
abbrev codeP (G : Gs) (f : Addr) (cd : Value) : Code := .whileLoop (whTest (stP 1)) (whBody (stP 1)) [] (eP G f cd)
theorem seqT_updL {H : Hp} {D a : Addr} {vs ws zs : List V} (h : SqT K H a zs) (hD : H D = some (.lst vs)) : SqT K (upd H D (.lst ws)) a zs := seqT_upd h hD
theorem seg_loop {G : Gs} {f : Addr} {cd : Value} (S : GStat G mg) (hx : G.x = "waiting") (C_children : C8.Cal G.P G.w G.K mg G.base 1 "children" (spKidsV G.K) []) (hr : Room 1 (G.A.in1.deeper (eP G f cd)))
    {body : List Stmt} {kk : Result → Sem PySem.Fin} {l kp : List Value} {p : Pos} (hend : ∀ sn s : Shared, Stp G sn s → Seg G.M G.A.in1 (GRe G) (GYp G) 0 sn (.func body (eP G f cd)) (kk (.ok .next)) [] s) :
    ∀ (n : Nat) (sn : Shared) (own : List (Addr × Obj)) (Hw : Hp) (Wa : Addr) (ws : List V) (ts : List Tm) (s : Shared) (H : Hp) (v pt : Option V), Wk G own sn → (G.a, G.go) ∈ own → (∀ b, b < G.F → Hw b = Hw0 G sn b) → Hw G.F = none → (∀ b, ¬ OwnF G.x sn.heap G.F b → Hw b = Hw0 G sn b) →
      (∀ b, OwnF G.x sn.heap G.F b → b ≠ G.F → b = Wa) → (OwnF G.x sn.heap G.F Wa ∨ sn.heap.objs.size ≤ Wa) → G.F < Wa → Wa ≠ G.a → Inv (cP G mg f cd Hw sn) [] [v, some (.ref Wa), pt] H s → H Wa = some (.lst ws) → (∀ a xs, SqT G.K (tupsOf G.H1) a xs → SqT G.K H a xs) →
      DtAll G.K (tupsOf G.H1) ws (ts.map Tm.d) → n = (todo ts).length → n ≤ 1000000 → ts.length ≤ n → n ≤ G.n → (∀ j t x, (todo ts)[j]? = some t → Dt G.K (tupsOf G.H1) x t.d → G.it (G.n - n + j) x) →
      Seg G.M G.A.in1 (GRe G) (GYp G) n sn (codeP G f cd) (G.M.den (codeP G f cd)) [.ret kk none false l (.func body (eP G f cd)) p kp] s := by
  have stpO : ∀ {sn : Shared} {own : List (Addr × Obj)} {Hw : Hp} {Wa : Addr} {s : Shared} {H : Hp} {σ : L2.St} {ws : List V}, Wk G own sn → (∀ b, b < G.F → Hw b = Hw0 G sn b) → (∀ b, ¬ OwnF G.x sn.heap G.F b → Hw b = Hw0 G sn b) → (∀ b, OwnF G.x sn.heap G.F b → b ≠ G.F → b = Wa) →
      Inv (cP G mg f cd Hw sn) [] σ H s → H Wa = some (.lst ws) → Stp G sn s := fun {sn own Hw Wa s H σ ws} W lo hno hown I hl => stp_of S W I hno lo fun b hb hne => by
    rw [hown b hb hne]
    obtain ⟨_, _, _, _, e⟩ := I.hok Wa _ hl
    exact ⟨_, e⟩
  have pt1 : ∀ (Hw : Hp) (sn : Shared), PT (cP G mg f cd Hw sn) (whTest (stP 1)) _ := fun Hw sn => pt_truth (pv 1) (by intro _; rfl)
  have ps1 : ∀ (Hw : Hp) (sn : Shared), PS (cP G mg f cd Hw sn) (stW 0) _ := fun Hw sn => ps_set (i := 2) (by show (["term", "waiting", "part"] : List Str).Nodup; decide +kernel) rfl (.inl rfl) (pe_bm0 PySem.F.plainAttrs_list PySem.F.slot_list_pop PySem.F.type_list_pop mt_pop (pv 1))
  have pe2 : ∀ (Hw : Hp) (sn : Shared), PE (cP G mg f cd Hw sn) (yieldE (stW 1)) _ := fun Hw sn => pv 2
  have ps3 : ∀ (Hw : Hp) (sn : Shared), PS (cP G mg f cd Hw sn) (stW 2) _ := fun Hw sn => ps_expr (pe_bm PySem.F.plainAttrs_list PySem.F.slot_list_extend PySem.F.type_list_extend PKZ.mt_extendT (pv 1) (pa_cons (PKZ.pe_revT (C8.pe_c C_children hr (Nat.le_refl 1) rfl (pa_cons (pv 2) pa_nil))) pa_nil))
  intro n
  induction n with
  | zero =>
    intro sn own Hw Wa ws ts s H v pt W ago lo hF hno hown hnew hlt hWa I hl up da en n6 nt nG items
    have hts : ts = [] := List.length_eq_zero_iff.mp (by omega)
    subst hts
    have hws : ws = [] := by cases da; rfl
    subst hws
    refine seg_whileLoop ?_
    rw [over_loop rfl rfl, over_func]
    refine wpAny_mono ((pt1 Hw sn).run [] s _ H (fun b H' => b = false ∧ H' = H) I ⟨_, rfl, false, .inl ⟨[], SqL.of hl, rfl⟩, rfl, rfl⟩) (fun b s' ⟨H', I', hb, eH⟩ => ?_) fun _ _ z => False.elim z
    subst hb eH
    rw [if_neg Bool.false_ne_true]
    exact seg_execs_nil (seg_leaf (.ok .next) (hend sn s' (stpO W lo hno hown I' hl)))
  | succ m ih =>
    intro sn own Hw Wa ws ts s H v pt W ago lo hF hno hown hnew hlt hWa I hl up da en n6 nt nG items
    have tne : ts ≠ [] := fun e => by rw [e] at en; cases en
    obtain ⟨tr, t, rfl⟩ : ∃ tr t, ts = tr ++ [t] := ⟨ts.dropLast, ts.getLast tne, (List.dropLast_concat_getLast tne).symm⟩
    rw [List.map_append] at da
    obtain ⟨wr, wl, rfl, dr, dl⟩ := DtAll.splitR da
    obtain ⟨x, rfl, dx⟩ : ∃ x, wl = [x] ∧ Dt G.K (tupsOf G.H1) x t.d := by
      cases dl with
      | cons h r => cases r; exact ⟨_, rfl, h⟩
    rw [todo_snoc] at en items
    have en' : m = (todo (tr ++ t.kids.reverse)).length := by rw [List.length_cons] at en; omega
    refine seg_whileLoop ?_
    rw [over_loop rfl rfl, over_func]
    refine wpAny_mono ((pt1 Hw sn).run [] s _ H (fun b H' => b = true ∧ H' = H) I ⟨_, rfl, true, .inl ⟨_, SqL.of hl, by simp⟩, rfl, rfl⟩) (fun b s' ⟨H', I', hb, eH⟩ => ?_) fun _ _ z => False.elim z
    subst hb eH
    rw [if_pos rfl]
    -- part = waiting.pop()
    refine seg_execs_cons (st := stW 0) (rest := [stW 1, stW 2]) (seg_wrap ?_)
    rw [over_loop rfl rfl, over_func]
    refine wpAny_mono ((ps1 Hw sn).run [] s' _ H' { nx := fun σ H2 => σ = [v, some (.ref Wa), some x] ∧ H2 = upd H' Wa (.lst wr), rt := fun _ _ => False } I' ?_) (fun fl s2 h2 => ?_) fun _ _ z => False.elim z
    · refine ⟨_, rfl, .inl ⟨rfl, _, SqL.of hl⟩, Wa, _, x, rfl, rfl, hl, by simp, ?_⟩
      rw [List.dropLast_concat]
      exact ⟨rfl, rfl⟩
    cases fl with
    | ret _ => obtain ⟨_, _, _, _, _, z⟩ := h2; exact z.elim
    | brk => obtain ⟨_, _, _, z⟩ := h2; exact z.elim
    | cont => obtain ⟨_, _, _, z⟩ := h2; exact z.elim
    | next =>
    obtain ⟨σ2, H2, I2, rfl, rfl⟩ := h2
    -- yield part
    refine seg_execs_cons (st := stW 1) (rest := [stW 2]) (seg_Expr_Yield rfl rfl rfl ?_)
    rw [over_loop rfl rfl, over_func]
    refine wpAny_mono ((pe2 Hw sn).run [] s2 _ (upd H' Wa (.lst wr)) (fun y H3 => y = x ∧ H3 = upd H' Wa (.lst wr)) I2 ⟨_, rfl, rfl, rfl⟩) (fun u s3 ⟨y, H3, I3, ru, ey, e3⟩ kap hkap => ?_) fun _ _ z => False.elim z
    subst ey e3
    have hl3 : upd H' Wa (.lst wr) Wa = some (.lst wr) := upd_same
    have I3' : Inv (cP G mg f cd Hw sn) [] [v, some (.ref Wa), some y] (upd H' Wa (.lst wr)) s3 := I3
    have stp : Stp G sn s3 := stpO W lo hno hown I3' hl3
    obtain ⟨mp, hN, hlook⟩ := id I3.loc
    have hN : s3.heap.Ns G.F mp := hN
    have nc : ∀ {z c} {q : Prop}, (eP G f cd).cells.lookup z = some c → q := fun {z c q} e => by
      have e' : (cellsFrom (G.F + 1) (defScope s_parts_of).names []).lookup z = some c := e
      rw [nc_parts.cells] at e'
      cases e'
    have lw : mp "waiting" = some (.ref Wa) := by
      obtain ⟨u', r', l'⟩ := hlook 1 "waiting" (.ref Wa) rfl rfl (.inl rfl)
      rcases l' with ⟨_, e⟩ | ⟨_, c, e, _⟩
      · rw [e]; cases r'; rfl
      · exact nc e
    have lp : ∃ u', RelV y u' ∧ mp "part" = some u' := by
      obtain ⟨u', r', l'⟩ := hlook 2 "part" y rfl rfl (.inl rfl)
      rcases l' with ⟨_, e⟩ | ⟨_, c, e, _⟩
      · exact ⟨u', r', e⟩
      · exact nc e
    obtain ⟨fo, fes, fep, hfo, hfd, hfr⟩ := id hN
    obtain ⟨zw, its, cw, rw, eW⟩ := I3.hok Wa _ hl3
    have ego : s3.heap.get? G.a = some G.go := stp.keep G.a G.go (W.own _ ago) (fun z => by
      by_cases q : G.a = G.F
      · exact absurd q (Nat.ne_of_gt S.Fa)
      · exact hWa (hown _ z q).symm) fun z => Nat.lt_asymm (S.stk _ z).1 S.Fa
    have own3 : ∀ (h : Heap) (b : Addr), h.get? G.F = some fo → OwnF "waiting" h G.F b → b = G.F ∨ b = Wa := fun h b e q => by
      rcases q with q | ⟨m2, hm2, q⟩
      · exact .inl q
      · have h1 : h.Ns G.F mp := ⟨fo, fes, fep, e, hfd, hfr⟩
        have := h1.agree hm2 "waiting"
        rw [lw, q] at this
        cases this
        exact .inr rfl
    have wne : Wa ≠ G.F := Nat.ne_of_gt hlt
    refine ⟨y, [(G.a, G.go), (G.F, fo), (Wa, { cls := .type "list", data := .seq its.toArray cw })], nG, ?_, ru, stp, ⟨fun q hq => ?_, fun q hq => ?_, fun b hb => ?_, List.mem_cons_self⟩, fun sn' W' => ?_⟩
    · exact items 0 t y rfl dx
    · rcases List.mem_cons.mp hq with z | z
      · rw [z]; exact ⟨ego, S.goc⟩
      · rcases List.mem_cons.mp z with z | z
        · rw [z]; exact ⟨hfo, fun v q => by rw [hfd] at q; cases q⟩
        · rw [List.mem_singleton.mp z]; exact ⟨eW, fun v q => by cases q⟩
    · rcases List.mem_cons.mp hq with z | z
      · rw [z]; exact .inr (.inr rfl)
      · rcases List.mem_cons.mp z with z | z
        · rw [z]; exact .inl (.inl rfl)
        · rw [List.mem_singleton.mp z]
          rcases hnew with z | z
          · exact .inl z
          · exact .inr (.inl z)
    · rw [hx] at hb
      rcases own3 _ b hfo hb with z | z
      · rw [z]; exact List.mem_cons_of_mem _ List.mem_cons_self
      · rw [z]; exact List.mem_cons_of_mem _ (List.mem_cons_of_mem _ List.mem_cons_self)
    have eF' : sn'.heap.get? G.F = some fo := W'.own (G.F, fo) (List.mem_cons_of_mem _ List.mem_cons_self)
    have eW' : sn'.heap.get? Wa = some { cls := .type "list", data := .seq its.toArray cw } := W'.own (Wa, _) (List.mem_cons_of_mem _ (List.mem_cons_of_mem _ List.mem_cons_self))
    have ownW : OwnF G.x sn'.heap G.F Wa := .inr ⟨mp, ⟨fo, fes, fep, eF', hfd, hfr⟩, by rw [hx]; exact lw⟩
    have hn0 : ∀ c u, Hw0 G sn' c = some u → (∀ o q, u ≠ .frz o q) → False := fun c u e n => by
      by_cases l1 : c < G.F
      · obtain ⟨xs, o, rfl, _⟩ := Hw0_lt l1 e
        exact n _ _ rfl
      · by_cases l2 : c = G.F
        · rw [l2, Hw0_F] at e; cases e
        · have gt : G.F < c := Nat.lt_of_le_of_ne (Nat.le_of_not_lt l1) (Ne.symm l2)
          cases q : sn'.heap.get? c with
          | none => rw [Hw0_upn gt q] at e; cases e
          | some o => rw [Hw0_up gt q] at e; cases e; exact n _ _ rfl
    have ok' : HOk G.P G.w (upd (Hw0 G sn') Wa (.lst wr)) sn'.heap := fun b u e => by
      by_cases hb : b = Wa
      · subst hb
        rw [upd_same] at e
        cases e
        exact ⟨zw, its, cw, rw, eW'⟩
      · rw [upd_ne hb] at e
        exact (Hw0_ok W' b u e).stay (fun _ _ _ z => z) (fun c z => (hn0 c _ z fun _ _ => HO.noConfusion).elim) fun c xs z => (hn0 c _ z fun _ _ => HO.noConfusion).elim
    have I4 : Inv (cP G mg f cd (upd (Hw0 G sn') Wa (.lst wr)) sn') [] [none, some (.ref Wa), some y] (upd (Hw0 G sn') Wa (.lst wr)) sn' := by
      refine inv_wake S nc_parts W' (fun b hb => upd_ne (fun z => by rw [z] at hb; exact Nat.lt_asymm hb hlt)) (by rw [upd_ne wne.symm]; exact Hw0_F) ok' (m := mp) ⟨fo, fes, fep, eF', hfd, hfr⟩ rfl fun i z q h1 h2 => ?_
      match i, h1, h2 with
      | 0, h1, h2 => cases h2
      | 1, h1, h2 => cases h1; cases h2; exact ⟨_, rfl, lw, rfl⟩
      | 2, h1, h2 =>
        cases h1
        cases h2
        obtain ⟨u', r', e'⟩ := lp
        exact ⟨u', r', e', rfl⟩
    have up4 : ∀ a xs, SqT G.K (tupsOf G.H1) a xs → SqT G.K (upd (Hw0 G sn') Wa (.lst wr)) a xs := fun a xs z => by
      rcases Hw0_sq S W' a xs z with (z | ⟨o, z⟩) | z
      · exact (hn0 _ _ z fun _ _ => HO.noConfusion).elim
      · refine .inl (.inr ⟨o, ?_⟩)
        rw [upd_ne]
        · exact z
        · intro e
          rw [e, Hw0_up hlt eW'] at z
          cases z
      · exact .inr z
    have go : Seg G.M G.A.in1 (GRe G) (GYp G) m sn' (codeP G f cd) ((execs [stW 2] (eP G f cd)).wrap (fun f_1 => match f_1 with
            | .next | .cont => .pure (.again (codeP G f cd))
            | .brk => .pure (.done .next)
            | .ret v => .pure (.done (.ret v))) (fun e => (do noteFrame e (eP G f cd); theTreesLotGoes e : Sem Unit).wrap (fun _ => .raise e) .raise id id) id id) [.ret kk none false l (.func body (eP G f cd)) p kp] sn' := by
      refine seg_execs_cons (st := stW 2) (rest := []) (seg_wrap ?_)
      rw [over_loop rfl rfl, over_func]
      refine wpAny_mono ((ps3 (upd (Hw0 G sn') Wa (.lst wr)) sn').run [] sn' _ (upd (Hw0 G sn') Wa (.lst wr)) { nx := fun σ H5 => σ = [none, some (.ref Wa), some y] ∧ ∃ kv, DtAll G.K (tupsOf G.H1) kv (t.kids.map Tm.d) ∧ H5 Wa = some (.lst (wr ++ kv.reverse)) ∧ ∀ a xs, SqT G.K (tupsOf G.H1) a xs → SqT G.K H5 a xs, rt := fun _ _ => False } I4 ?_) (fun fl s5 h5 => ?_) fun _ _ z => False.elim z
      · have lk : t.kids.length ≤ m := by
          have := todo_kids (ts := tr) (t := t)
          rw [List.length_append, List.length_reverse] at this
          omega
        refine ⟨_, rfl, .inl ⟨rfl, _, SqL.of upd_same⟩, _, rfl, y, t, tupsOf G.H1, rfl, up4, dx, by omega, fun H5 p5 kv s5 hs5 dk => ⟨p5, kv, rfl, hs5, fun q5 hq5 => ?_⟩⟩
        have hW5 : H5 Wa = some (.lst wr) := s5 _ _ upd_same
        have hW6 : upd H5 q5 (.tup kv.reverse) Wa = some (.lst wr) := by rw [upd_ne (ne_of_none hW5 hq5)]; exact hW5
        refine ⟨Wa, q5, wr, kv.reverse, rfl, rfl, hW6, SqT.of upd_same, ?_, rfl, kv, dk, upd_same, fun a xs z => ?_⟩
        · have l1 := dr.lenD
          have l2 := dk.lenD
          have := todo_kids (ts := tr) (t := t)
          rw [List.length_append, List.length_reverse] at this
          rw [List.length_map] at l1 l2
          rw [List.length_reverse]
          have := sizeLine_eq
          omega
        · exact seqT_upd (Same.seqT (s5.trans (same_new hq5)) (up4 a xs z)) hW6
      cases fl with
      | ret _ => obtain ⟨_, _, _, _, _, z⟩ := h5; exact z.elim
      | brk => obtain ⟨_, _, _, z⟩ := h5; exact z.elim
      | cont => obtain ⟨_, _, _, z⟩ := h5; exact z.elim
      | next =>
      obtain ⟨σ5, H5, I5, rfl, kv, dk, hl5, up5⟩ := h5
      refine seg_execs_nil (seg_again rfl ?_)
      refine ih sn' _ (upd (Hw0 G sn') Wa (.lst wr)) Wa (wr ++ kv.reverse) (tr ++ t.kids.reverse) s5 H5 none (some y) W' List.mem_cons_self (fun b hb => upd_ne (fun z => by rw [z] at hb; exact Nat.lt_asymm hb hlt)) (by rw [upd_ne wne.symm]; exact Hw0_F) (fun b hb => upd_ne (fun z => hb (by rw [z]; exact ownW))) (fun b hb hne => ?_) (.inl ownW) hlt hWa I5 hl5 up5 ?_ en' (by omega) ?_ (by omega) fun j t' x' hj hd => ?_
      · rw [hx] at hb
        exact (own3 _ b eF' hb).resolve_left hne
      · rw [List.map_append, List.map_reverse]
        exact dr.append dk.reverse
      · rw [en']; exact todo_kids
      · have := items (j + 1) t' x' (by simpa using hj) hd
        rw [show G.n - m + j = G.n - (m + 1) + (j + 1) by omega]
        exact this
    exact ⟨hkap _ _ go, hkap _ _ go⟩
/-- x = [y], y a local name: the list is the next object -/
theorem set_one {X : Cx} {pins : List (Addr × Obj)} {s : Shared} {σ : L2.St} {H : Hp} {i j : Nat} {x y : Str} {v : V} {p1 p2 p3 p4 : Pos} {E : Value → Shared → Prop} (I : Inv X pins σ H s) (hN : X.N.Nodup) (hi : X.N[i]? = some x) (hx : X.env.scope.names.lookup x = some .local)
    (hj : X.N[j]? = some y) (hy : X.env.scope.names.lookup y = some .local) (hc : ∀ c, X.env.cells.lookup y ≠ some c) (hv : σ[j]? = some (some v)) (hd : (y == ("__debug__" : Str)) = false)
    (hs : swapsWith (.List [.Name y p2] p3) (some (.Name x p1)) p4.line X.env = pure false := by rfl) (he : starEach [.Name y p2] X.env = (false, eval (.Name y p2) X.env) :: starEach [] X.env := by rfl) :
    wpAny (model X.prog X.w) X.A (exec (.Assign [.Name x p1] (.List [.Name y p2] p3) p4) X.env) (fun f s' => f = .next ∧ Inv X pins (σ.set i (some (.ref s.heap.objs.size))) (upd H s.heap.objs.size (.lst [v])) s') E s := by
  obtain ⟨m, hn, hl⟩ := id I.loc
  obtain ⟨u, r, l⟩ := hl j y v hj hv (.inl hy)
  have lm : m y = some u ∧ X.env.kindOf y = some .local := by
    rcases l with ⟨hk, e⟩ | ⟨_, c, e, _⟩
    · exact ⟨e, hk⟩
    · exact absurd e (hc c)
  refine wpAny_Assign_Name ?_ hs
  refine wpAny_List_spliced ?_
  rw [he]
  show wpAny _ _ (spliced ((false, eval (.Name y p2) X.env) :: backTo p3 (starEach [] X.env))) _ _ s
  refine Calls.spliced_cons (wpAny_Name (wpAny_loadName_local I.ok.kind lm.2 hn lm.1 ?_) hd)
  refine Calls.spliced_nil ⟨small (by show 1 ≤ _; decide), ?_⟩
  have I2 : Inv X pins σ (upd H s.heap.objs.size (.lst [v])) { s with heap := s.heap.push { cls := .type "list", data := .seq [u].toArray } } :=
    I.laid (t' := s.toks) (fun b o e => Heap.get?_push_of_some _ e) (Nat.le_refl _) ⟨small (by show 1 ≤ _; decide), [u], 0, .cons r .nil, Heap.get?_push_size _ rfl⟩
  exact store_ok (v := .ref s.heap.objs.size) I2 hN hi (.inl hx) rfl (fun s2 I3 => ⟨rfl, I3⟩) (.inr hx)
theorem ok_parts {f : Addr} {fd : FuncData} (F : Fun K "parts_of" "parts_of" s_parts_of f fd) (C_children : C8.Cal P w K mg base 1 "children" (spKidsV K) []) : GFnG P w K mg base 3 f fd ["term"] (spParts K) := by
  obtain ⟨oc, od, kV, doc, pm, an, cdv, ct, osl, rfl, lk, hcd⟩ := F.ex
  refine gfnG_of "waiting" lk hcd nc_parts rfl (N := ["term", "waiting", "part"]) (by decide +kernel) (fun y hy => by rw [List.mem_singleton.mp hy]; rfl) (by decide +kernel) (fun vs H n it h => by obtain ⟨v, t, rfl, _⟩ := h; rfl) fun G vs own sn eP' ew eK eb ex S hr hsp W ago hno I => ?_
  subst eP' ew eK eb
  obtain ⟨v, t, rfl, dv, hs, en, eit⟩ := hsp
  refine seg_func ?_
  refine seg_execs_cons (st := stP 0) (rest := [stP 1]) (seg_wrap ?_)
  rw [over_func]
  have nc : ∀ {z c} {q : Prop}, (eP G f cdv).cells.lookup z = some c → q := fun {z c q} e => by
    have e' : (cellsFrom (G.F + 1) (defScope s_parts_of).names []).lookup z = some c := e
    rw [nc_parts.cells] at e'
    cases e'
  have st0 : wpAny (model G.P G.w) (cP G mg f cdv (Hw0 G sn) sn).A (exec (stP 0) (cP G mg f cdv (Hw0 G sn) sn).env) _ (fun _ _ => False) sn := set_one (X := cP G mg f cdv (Hw0 G sn) sn) (i := 1) (j := 0) (v := v) (x := "waiting") (y := "term") I (by show (["term", "waiting", "part"] : List Str).Nodup; decide +kernel) rfl rfl rfl rfl (fun c e => nc e) rfl (by decide)
  refine wpAny_mono st0 (fun fl s2 ⟨efl, I2⟩ => ?_) fun _ _ z => False.elim z
  subst efl
  refine seg_execs_cons (st := stP 1) (rest := []) (seg_While fun p => ?_)
  have szF : G.F < sn.heap.objs.size := I.lt
  have sza : G.a < sn.heap.objs.size := Heap.lt_size (W.own _ ago)
  have nd : (Hw0 G sn) sn.heap.objs.size = none := I.hok.fresh (Nat.le_refl _)
  refine seg_loop S ex C_children (hr.mono (by decide)) (fun sn' s' stp => ?_) G.n sn own (Hw0 G sn) sn.heap.objs.size [v] [t] s2 _ (some v) none W ago (fun _ _ => rfl) Hw0_F (fun _ _ => rfl) (fun b hb hne => ?_) (.inr (Nat.le_refl _)) szF (Nat.ne_of_gt sza) I2 upd_same (fun a xs z => Same.seqT (same_new nd) (Hw0_sq S W a xs z)) (.cons (Dt.mono (fun _ _ z => sq_tups z) _ _ dv) .nil) ?_ (by omega) ?_ (Nat.le_refl _) fun j t' x' hj hd => ?_
  · exact seg_end (.ok (.ret .none)) (.inl ⟨.inl rfl, rfl, stp⟩)
  · exact absurd ⟨by rw [← ex]; exact hb, hne⟩ (hno b)
  · rw [todo_one, Tm.parts_len]; exact en
  · have : 1 ≤ t.size := by rw [Tm.size_eq]; omega
    show 1 ≤ G.n
    omega
  · rw [todo_one] at hj
    rw [Nat.sub_self, Nat.zero_add, eit]
    exact ⟨t', hj, hd⟩
end
end PK
namespace PK
open PySem L2
/-! parts_of, run to its end -/
def spPg (K : PySem.W.Frag) : SpG := fun vs H cont _ => ∃ (v : V) (t : Tm), vs = [v] ∧ Dt K H v t.d ∧ t.size ≤ 1000000 ∧ ∀ (H' : Hp) (ws : List V), Same H H' → DtAll K H' ws (t.parts.map Tm.d) → cont ws H'
section
variable {P : Program} {w : World} {K : PySem.W.Frag} {mg : Str → Option Value} {base : Heap} {aF : Addr}
theorem sc_parts_of : GScope ["term", "waiting", "part"] ["term"] (defScope s_parts_of) := ⟨rfl, rfl, rfl, by decide +kernel, rfl, by decide +kernel, by decide +kernel⟩
theorem ok_partsG {f : Addr} {fd : FuncData} (F : Fun K "parts_of" "parts_of" s_parts_of f fd) (C_children : C8.Cal P w K mg base 1 "children" (spKids K) []) : GFn P w K mg base 2 f fd ["term"] (spPg K) := by
  obtain ⟨oc, od, kV, doc, pm, an, cdv, ct, osl, rfl, lk, hcd⟩ := F.ex
  refine gfn_of lk hcd sc_parts_of (fun vs H Q E h => by obtain ⟨_, _, rfl, _⟩ := h; rfl) fun A outer s H vs Q E pn hr h => ?_
  obtain ⟨v, t, rfl, hv, hs, q⟩ := h
  refine ⟨_, (gss_cons (gs_ps (ps_set (i := 1) sc_parts_of.nd rfl (Or.inl rfl) (pe_lst (pa_cons (pv 0) pa_nil))))
    (gss_cons (gs_while (passes_of rfl) (pt_truth (pv 1) (by intro _; rfl)) (gss_cons (gs_ps (ps_set (i := 2) sc_parts_of.nd rfl (Or.inl rfl) (pe_bm0 PySem.F.plainAttrs_list PySem.F.slot_list_pop PySem.F.type_list_pop mt_pop (pv 1))))
    (gss_cons (gs_yield (pv 2))
    (gss_cons (gs_ps (ps_expr (pe_bm PySem.F.plainAttrs_list PySem.F.slot_list_extend PySem.F.type_list_extend PKZ.mt_extendT (pv 1) (pa_cons (PKZ.pe_revT (C8.pe_c C_children hr (by decide) rfl (pa_cons (pv 2) pa_nil))) pa_nil))))
    gss_nil))))
    gss_nil)), ?_⟩
  refine ⟨_, rfl, small (by show 1 ≤ _; decide), fun Wa hW => ?_⟩
  have hv0 := hv.same (same_new (o := .lst [v]) hW)
  refine ⟨fun m ys σ H' => ∃ (ts : List Tm) (xs : List V) (o : Option V), m = (todo ts).length ∧ σ = [some v, some (.ref Wa), o] ∧ Same H H' ∧ H' Wa = some (.lst xs) ∧ DtAll K H' xs (ts.map Tm.d) ∧ DtAll K H' ys ((t.parts.take (t.parts.length - (todo ts).length)).map Tm.d) ∧ todo ts = t.parts.drop (t.parts.length - (todo ts).length), ⟨_, [t], [v], none, rfl, rfl, same_new hW, upd_same, .cons hv0 .nil, ?_, ?_⟩, ?_⟩
  · rw [todo_one, Nat.sub_self]; exact .nil
  · rw [todo_one, Nat.sub_self]; rfl
  rintro m ys σ H1 ⟨ts, xs, o, rfl, rfl, s, hW1, dx, dy, etd⟩
  have lp := Tm.parts_len t
  have lle : (todo ts).length ≤ t.parts.length := by
    have := congrArg List.length etd
    rw [List.length_drop] at this
    omega
  refine ⟨_, rfl, !xs.isEmpty, .inl ⟨xs, SqL.of hW1, rfl⟩, ?_⟩
  rcases List.eq_nil_or_concat ts with rfl | ⟨r, k, rfl⟩
  · cases dx
    rw [todo_nil, List.length_nil, Nat.sub_zero, List.take_length] at dy
    exact iteF (q H1 ys s dy)
  · rw [List.concat_eq_append] at dx dy etd lle ⊢
    rw [List.map_append] at dx
    obtain ⟨us, zs, rfl, d1, d2⟩ := DtAll.splitR dx
    cases d2 with
    | cons dz dn =>
    cases dn
    rename_i z
    have es := todo_snoc r k
    have hk := todo_kids (ts := r) (t := k)
    rw [show (!(us ++ [z]).isEmpty) = true by simp]
    refine iteT ⟨fun ys' σ' H' => ∃ m', m' < (todo (r ++ [k])).length ∧ ∃ (ts : List Tm) (xs : List V) (o : Option V), m' = (todo ts).length ∧ σ' = [some v, some (.ref Wa), o] ∧ Same H H' ∧ H' Wa = some (.lst xs) ∧ DtAll K H' xs (ts.map Tm.d) ∧ DtAll K H' ys' ((t.parts.take (t.parts.length - (todo ts).length)).map Tm.d) ∧ todo ts = t.parts.drop (t.parts.length - (todo ts).length), fun _ _ _ h => h, ?_⟩
    refine ⟨_, rfl, .inl ⟨rfl, _, SqL.of hW1⟩, Wa, _, z, rfl, rfl, hW1, by rw [List.length_append]; simp, ?_⟩
    rw [List.dropLast_concat]
    have l1 : (todo (r ++ [k])).length = (todo (r ++ k.kids.reverse)).length + 1 := by rw [es]; rfl
    obtain ⟨j, ej⟩ : ∃ j, t.parts.length - (todo (r ++ [k])).length = j := ⟨_, rfl⟩
    rw [ej] at etd dy
    have ej2 : t.parts.length - (todo (r ++ k.kids.reverse)).length = j + 1 := by omega
    have hj : j < t.parts.length := by omega
    have gk : t.parts[j]? = some k := by
      have : (t.parts.drop j)[0]? = some k := by rw [← etd, es]; rfl
      rw [List.getElem?_drop] at this
      exact this
    have etd2 : todo (r ++ k.kids.reverse) = t.parts.drop (j + 1) := by
      have := congrArg List.tail etd
      rw [es, List.tail_drop] at this
      exact this
    have hWH : Same H (upd H1 Wa (.lst us)) := Same.upd s hW
    have lys : ys.length = j := by rw [dy.lenD, List.length_map, List.length_take]; omega
    have dz1 : Dt K (upd H1 Wa (.lst us)) z k.d := dz.updL hW1
    refine ⟨smallL (by omega), _, rfl, ?_⟩
    have lkk : k.kids.length ≤ 1000000 := by
      rw [List.length_append, List.length_reverse] at hk
      omega
    refine ⟨_, rfl, .inl ⟨rfl, _, SqL.of (upd_same (H := H1) (a := Wa) (o := .lst us))⟩, _, rfl, z, k, rfl, dz1, by omega, fun H2 p2 ws2 s2 hp2 dw2 => ⟨p2, ws2, rfl, hp2, fun p3 hp3 => ?_⟩⟩
    have s3 : Same (upd H1 Wa (.lst us)) (upd H2 p3 (.tup ws2.reverse)) := Same.trans s2 (same_new hp3)
    have hW3 := s3 _ _ (upd_same (H := H1) (a := Wa) (o := .lst us))
    have lw2 := dw2.lenD
    rw [List.length_map] at lw2
    have lus := d1.lenD
    rw [List.length_map] at lus
    have lrk := todo_kids (ts := r) (t := k)
    rw [List.length_append, List.length_reverse] at lrk
    refine ⟨Wa, p3, us, _, rfl, rfl, hW3, SqT.of upd_same, small (by rw [List.length_reverse]; omega), ?_⟩
    refine ⟨_, by omega, r ++ k.kids.reverse, _, _, rfl, rfl, Same.upd (hWH.trans s3) hW, upd_same, ?_, ?_, ?_⟩
    · rw [List.map_append]
      exact (((d1.upd hW1).same s3).append (by rw [List.map_reverse]; exact dw2.rev.same (same_new hp3))).upd hW3
    · rw [ej2, List.take_add_one, gk, List.map_append]
      exact (((dy.upd hW1).same s3).append (.cons (dz1.same s3) .nil)).upd hW3
    · rw [ej2]; exact etd2
end
end PK
namespace PK
open PySem L2
/-! symbolic terms -/
abbrev SOk (x : Str) : Prop := PyData.strOk x = true
inductive Sy where
  | sum (ps : List (Int × Int)) (n : Int)
  | name (s : Str)
  | addr (n : Int)
  | unk (n : Int)
  | node (c : Str) (ts : List Sy)
  | map (es : List (Str × Sy))
def prD (p : Int × Int) : PyData := .tuple [.int p.1, .int p.2]
def nmD (w : Str) : PyData := .tuple [.str "name", .str w]
mutual
def Sy.d : Sy → PyData
  | .sum ps n => .tuple [.str "sum", .tuple (ps.map prD), .int n]
  | .name s => .tuple [.str "name", .str s]
  | .addr n => .tuple [.str "addr", .int n]
  | .unk n => .tuple [.str "unknown", .int n]
  | .node c ts => .tuple [.str "node", .str c, .tuple (Sy.ds ts)]
  | .map es => .tuple [.str "map", .none, .tuple (Sy.es es)]
def Sy.ds : List Sy → List PyData
  | [] => []
  | t :: r => t.d :: Sy.ds r
def Sy.es : List (Str × Sy) → List PyData
  | [] => []
  | (w, t) :: r => .tuple [nmD w, t.d] :: Sy.es r
end
theorem Sy.ds_map : ∀ ts : List Sy, Sy.ds ts = ts.map Sy.d
  | [] => by unfold Sy.ds; rfl
  | t :: r => by unfold Sy.ds; rw [Sy.ds_map r]; rfl
def Sy.ent (e : Str × Sy) : PyData := .tuple [nmD e.1, e.2.d]
theorem Sy.es_map : ∀ es : List (Str × Sy), Sy.es es = es.map Sy.ent
  | [] => by unfold Sy.es; rfl
  | (w, t) :: r => by unfold Sy.es; rw [Sy.es_map r]; rfl
def Sy.kids : Sy → List Sy
  | .node _ ts => ts
  | .map es => es.map Prod.snd
  | _ => []
theorem Sy.kid_lt {t k : Sy} (h : k ∈ t.kids) : sizeOf k < sizeOf t := by
  cases t with
  | node c ts => have := List.sizeOf_lt_of_mem (as := ts) h; simp only [Sy.node.sizeOf_spec]; omega
  | map es =>
    obtain ⟨e, he, rfl⟩ := List.mem_map.mp h
    have := List.sizeOf_lt_of_mem he
    have e2 : sizeOf e = 1 + sizeOf e.1 + sizeOf e.2 := by cases e; rfl
    simp only [Sy.map.sizeOf_spec]
    omega
  | sum _ _ => cases h
  | name _ => cases h
  | addr _ => cases h
  | unk _ => cases h
theorem Sy.ind {p : Sy → Prop} (h : ∀ t : Sy, (∀ k ∈ t.kids, p k) → p t) (t : Sy) : p t := by
  have : ∀ n (t : Sy), sizeOf t ≤ n → p t := by
    intro n
    induction n with
    | zero => intro t ht; cases t <;> simp at ht
    | succ n ih => exact fun t ht => h t fun k hk => ih k (by have := Sy.kid_lt hk; omega)
  exact this _ t (Nat.le_refl _)
def Sy.ht (t : Sy) : Nat := 1 + (t.kids.attach.map fun k => k.1.ht).foldr max 0
termination_by sizeOf t
decreasing_by exact Sy.kid_lt k.2
theorem Sy.ht_eq (t : Sy) : t.ht = 1 + (t.kids.map Sy.ht).foldr max 0 := by
  rw [Sy.ht, List.attach_map_val (f := Sy.ht)]
theorem Sy.ht_kid {t k : Sy} (h : k ∈ t.kids) : k.ht + 1 ≤ t.ht := by
  have := le_fmax (List.mem_map.mpr ⟨k, h, rfl⟩ : k.ht ∈ t.kids.map Sy.ht)
  rw [Sy.ht_eq t]; omega
theorem Sy.ht_le {t : Sy} {n : Nat} (h : ∀ k ∈ t.kids, k.ht ≤ n) : t.ht ≤ n + 1 := by
  rw [Sy.ht_eq t]
  have := fmax_le (n := n) (l := t.kids.map Sy.ht) fun x hx => by
    obtain ⟨k, hk, rfl⟩ := List.mem_map.mp hx
    exact h k hk
  omega
theorem Sy.ht_pos (t : Sy) : 1 ≤ t.ht := by rw [Sy.ht_eq t]; omega
/-- what a part weighs -/
def Sy.wt : Sy → Nat
  | .map es => 1 + es.length
  | _ => 1
def Sy.size (t : Sy) : Nat := t.wt + (t.kids.attach.map fun k => k.1.size).sum
termination_by sizeOf t
decreasing_by exact Sy.kid_lt k.2
theorem Sy.size_eq (t : Sy) : t.size = t.wt + (t.kids.map Sy.size).sum := by
  rw [Sy.size, List.attach_map_val (f := Sy.size)]
theorem Sy.wt_pos (t : Sy) : 1 ≤ t.wt := by cases t <;> first | exact Nat.le_refl 1 | exact Nat.le_add_right 1 _
theorem Sy.size_pos (t : Sy) : 1 ≤ t.size := by rw [Sy.size_eq t]; have := t.wt_pos; omega
/-- the unknowns that stand in a part itself, in all of it -/
def Sy.own : Sy → List Int
  | .unk n => [n]
  | .sum ps _ => ps.map Prod.fst
  | _ => []
def Sy.fnd (t : Sy) : List Int := t.own ++ (t.kids.attach.map fun k => k.1.fnd).flatten
termination_by sizeOf t
decreasing_by exact Sy.kid_lt k.2
theorem Sy.fnd_eq (t : Sy) : t.fnd = t.own ++ (t.kids.map Sy.fnd).flatten := by
  rw [Sy.fnd, List.attach_map_val (f := Sy.fnd)]
/-- a property of all parts -/
inductive AlS (p : Sy → Prop) : Sy → Prop
  | mk {t : Sy} : p t → (∀ k ∈ t.kids, AlS p k) → AlS p t
theorem AlS.at_ {p : Sy → Prop} {t : Sy} (h : AlS p t) : p t := by cases h; assumption
theorem AlS.kid {p : Sy → Prop} {t k : Sy} (h : AlS p t) (hk : k ∈ t.kids) : AlS p k := by cases h with | mk _ h => exact h k hk
/-- a drawn part -/
def sN : Sy → Prop
  | .sum ps _ => ps.length ≤ 3 ∧ (∀ p ∈ ps, 0 ≤ p.1 ∧ p.1 ≤ 40) ∧ (ps.map Prod.fst).Nodup
  | .name s => SOk s
  | .addr _ => True
  | .unk n => 0 ≤ n ∧ n ≤ 40
  | .node c ts => SOk c ∧ ts.length ≤ 3
  | .map es => es.length ≤ 10 ∧ ∀ e ∈ es, SOk e.1
abbrev SN : Sy → Prop := AlS sN
theorem SN.len {t : Sy} (h : SN t) : t.kids.length ≤ 10 := by
  have := h.at_
  cases t with
  | node c ts => have := this.2; show ts.length ≤ 10; omega
  | map es => show (es.map Prod.snd).length ≤ 10; rw [List.length_map]; exact this.1
  | _ => exact Nat.zero_le _
theorem lay_all : ∀ {ds : List PyData}, (∀ d ∈ ds, d.canLay0 = true) → PyData.canLayAll0 ds = true
  | [], _ => rfl
  | d :: r, h => by
    show (d.canLay0 && PyData.canLayAll0 r) = true
    rw [h d List.mem_cons_self, lay_all fun x hx => h x (List.mem_cons_of_mem _ hx)]; rfl
theorem lay_tup {ds : List PyData} (h : ∀ d ∈ ds, d.canLay0 = true) : (PyData.tuple ds).canLay0 = true := lay_all h
theorem lay2 {a b : PyData} (ha : a.canLay0 = true) (hb : b.canLay0 = true) : (PyData.tuple [a, b]).canLay0 = true := lay_tup fun d hd => by
  rcases List.mem_cons.mp hd with rfl | hd
  · exact ha
  · rw [List.mem_singleton.mp hd]; exact hb
theorem lay3 {a b c : PyData} (ha : a.canLay0 = true) (hb : b.canLay0 = true) (hc : c.canLay0 = true) : (PyData.tuple [a, b, c]).canLay0 = true := lay_tup fun d hd => by
  rcases List.mem_cons.mp hd with rfl | hd
  · exact ha
  rcases List.mem_cons.mp hd with rfl | hd
  · exact hb
  · rw [List.mem_singleton.mp hd]; exact hc
theorem wSok : ∀ x ∈ (["sum", "name", "addr", "unknown", "node", "map"] : List Str), SOk x := by decide +kernel
theorem SN.lay {t : Sy} (h : SN t) : t.d.canLay0 = true := by
  induction t using Sy.ind with
  | h t ih =>
    have hl := h.at_
    cases t with
    | sum ps n =>
      unfold Sy.d
      refine lay3 (wSok "sum" (by decide)) (lay_tup fun d hd => ?_) rfl
      obtain ⟨p, _, rfl⟩ := List.mem_map.mp hd
      exact lay2 rfl rfl
    | name s => unfold Sy.d; exact lay2 (wSok "name" (by decide)) hl
    | addr n => unfold Sy.d; exact lay2 (wSok "addr" (by decide)) rfl
    | unk n => unfold Sy.d; exact lay2 (wSok "unknown" (by decide)) rfl
    | node c ts =>
      unfold Sy.d
      rw [Sy.ds_map]
      refine lay3 (wSok "node" (by decide)) hl.1 (lay_tup fun d hd => ?_)
      obtain ⟨k, hk, rfl⟩ := List.mem_map.mp hd
      exact ih k hk (h.kid hk)
    | map es =>
      unfold Sy.d
      rw [Sy.es_map]
      refine lay3 (wSok "map" (by decide)) rfl (lay_tup fun d hd => ?_)
      obtain ⟨e, he, rfl⟩ := List.mem_map.mp hd
      have hk : e.2 ∈ (Sy.map es).kids := List.mem_map.mpr ⟨e, he, rfl⟩
      exact lay2 (lay2 (wSok "name" (by decide)) (hl.2 e he)) (ih e.2 hk (h.kid hk))
theorem depth_all : ∀ {ds : List PyData} {n : Nat}, (∀ d ∈ ds, d.depth ≤ n) → PyData.depthAll ds ≤ n
  | [], _, _ => Nat.zero_le _
  | d :: r, n, h => by
    have h1 := h d List.mem_cons_self
    have h2 := depth_all (ds := r) (n := n) fun x hx => h x (List.mem_cons_of_mem _ hx)
    show max _ _ ≤ n
    omega
theorem Sy.depth (t : Sy) : t.d.depth ≤ 3 * t.ht := by
  induction t using Sy.ind with
  | h t ih =>
    have hpos := t.ht_pos
    cases t with
    | sum ps n =>
      unfold Sy.d
      have : PyData.depthAll (ps.map prD) ≤ 1 := depth_all fun d hd => by
        obtain ⟨p, _, rfl⟩ := List.mem_map.mp hd
        exact Nat.le_refl _
      show max 0 (max (PyData.depthAll (ps.map prD) + 1) (max 0 0)) + 1 ≤ _
      omega
    | node c ts =>
      unfold Sy.d
      rw [Sy.ds_map]
      have : PyData.depthAll (ts.map Sy.d) ≤ 3 * (Sy.node c ts).ht - 3 := depth_all fun d hd => by
        obtain ⟨k, hk, rfl⟩ := List.mem_map.mp hd
        have h1 := ih k hk
        have h2 := Sy.ht_kid (t := .node c ts) hk
        omega
      show max 0 (max 0 (max (PyData.depthAll (ts.map Sy.d) + 1) 0)) + 1 ≤ _
      omega
    | map es =>
      unfold Sy.d
      rw [Sy.es_map]
      have : PyData.depthAll (es.map Sy.ent) ≤ 3 * (Sy.map es).ht - 2 := depth_all fun d hd => by
        obtain ⟨e, he, rfl⟩ := List.mem_map.mp hd
        have hk : e.2 ∈ (Sy.map es).kids := List.mem_map.mpr ⟨e, he, rfl⟩
        have h1 := ih e.2 hk
        have h2 := Sy.ht_kid hk
        have := e.2.ht_pos
        unfold Sy.ent
        show max 1 (max e.2.d.depth 0) + 1 ≤ _
        omega
      show max 0 (max 0 (max (PyData.depthAll (es.map Sy.ent) + 1) 0)) + 1 ≤ _
      omega
    | name n => unfold Sy.d; show max 0 (max 0 0) + 1 ≤ _; omega
    | addr n => unfold Sy.d; show max 0 (max 0 0) + 1 ≤ _; omega
    | unk n => unfold Sy.d; show max 0 (max 0 0) + 1 ≤ _; omega
/-! what a term becomes -/
abbrev Gt := List (Str × Sy)
theorem lookA_cons {α β : Type} [DecidableEq α] (k : α) (v : β) (r : List (α × β)) (s : α) : lookA ((k, v) :: r) s = match lookA r s with | some t => some t | none => if k = s then some v else none := rfl
theorem lookA_snoc {β : Type} : ∀ (l : List (Str × β)) (k : Str) (v : β) (s : Str), lookA (l ++ [(k, v)]) s = if k = s then some v else lookA l s
  | [], k, v, s => by rw [List.nil_append, lookA_cons]; rfl
  | (j, u) :: l, k, v, s => by
    rw [List.cons_append, lookA_cons, lookA_snoc l k v s, lookA_cons]
    by_cases h : k = s
    · simp [h]
    · simp [h]
def due (G : Gt) (t : Tm) : Sy := match t with
  | .int n => .sum [] n
  | .name s => .name s
  | .addr n => .addr n
  | .var s => (lookA G s).getD (.name s)
  | .node c ts => .node c (ts.attach.map fun k => due G k.1)
  | .map es => .map (es.attach.map fun e => (e.1.1, due G e.1.2))
  | .form _ _ => .name ""
termination_by sizeOf t
decreasing_by
  · exact Tm.kid_lt (t := .node c ts) k.2
  · exact Tm.kid_lt (t := .map es) (List.mem_map.mpr ⟨e.1, e.2, rfl⟩)
theorem due_node (G : Gt) (c : Str) (ts : List Tm) : due G (.node c ts) = .node c (ts.map (due G)) := by
  rw [due, List.attach_map_val (f := due G)]
theorem due_map (G : Gt) (es : List (Str × Tm)) : due G (.map es) = .map (es.map fun e => (e.1, due G e.2)) := by
  rw [due, List.attach_map_val (f := fun e : Str × Tm => (e.1, due G e.2))]
/-- a drawn term -/
def gN (G : Gt) : Tm → Prop
  | .int _ => True
  | .name s => SOk s
  | .addr _ => True
  | .var s => ∃ t, lookA G s = some t
  | .node c ts => SOk c ∧ ts.length ≤ 3
  | .map es => es.length ≤ 10 ∧ ∀ e ∈ es, SOk e.1
  | .form _ _ => False
abbrev GN (G : Gt) : Tm → Prop := Al (gN G)
/-- a drawn table: its terms have no parts -/
def GOk (G : Gt) : Prop := ∀ s t, lookA G s = some t → SN t ∧ t.kids = []
theorem due_sn {G : Gt} (g : GOk G) {t : Tm} (h : GN G t) : SN (due G t) := by
  induction t using Tm.ind with
  | h t ih =>
    have hl := h.at_
    cases t with
    | int n => rw [due]; exact .mk ⟨Nat.zero_le _, fun p hp => absurd hp List.not_mem_nil, List.nodup_nil⟩ fun k hk => absurd hk List.not_mem_nil
    | name s => rw [due]; exact .mk hl fun k hk => absurd hk List.not_mem_nil
    | addr n => rw [due]; exact .mk trivial fun k hk => absurd hk List.not_mem_nil
    | var s => obtain ⟨u, e⟩ := hl; rw [due, e]; exact (g s u e).1
    | node c ts =>
      rw [due_node]
      refine .mk ⟨hl.1, by rw [List.length_map]; exact hl.2⟩ fun k hk => ?_
      obtain ⟨k', hk', rfl⟩ := List.mem_map.mp (show k ∈ ts.map (due G) from hk)
      exact ih k' hk' (h.kid (show k' ∈ (Tm.node c ts).kids from hk'))
    | map es =>
      rw [due_map]
      refine .mk ⟨by rw [List.length_map]; exact hl.1, fun e he => ?_⟩ fun k hk => ?_
      · obtain ⟨e', he', rfl⟩ := List.mem_map.mp he
        exact hl.2 e' he'
      · obtain ⟨e, he, rfl⟩ := List.mem_map.mp (show k ∈ (es.map fun e => (e.1, due G e.2)).map Prod.snd from hk)
        obtain ⟨e', he', rfl⟩ := List.mem_map.mp he
        have hk : e'.2 ∈ (Tm.map es).kids := List.mem_map.mpr ⟨e', he', rfl⟩
        exact ih _ hk (h.kid hk)
    | form f ts => exact hl.elim
theorem due_ht {G : Gt} (g : GOk G) {t : Tm} (h : GN G t) : (due G t).ht ≤ t.ht := by
  have leaf : ∀ {u : Sy}, u.kids = [] → u.ht ≤ 1 := fun {u} e => Sy.ht_le (n := 0) fun k hk => by rw [e] at hk; cases hk
  induction t using Tm.ind with
  | h t ih =>
    have hl := h.at_
    have hp := t.ht_pos
    cases t with
    | int n => rw [due]; have := leaf (u := .sum [] n) rfl; omega
    | name s => rw [due]; have := leaf (u := .name s) rfl; omega
    | addr n => rw [due]; have := leaf (u := .addr n) rfl; omega
    | var s => obtain ⟨u, e⟩ := hl; rw [due, e]; have := leaf (g s u e).2; show u.ht ≤ _; omega
    | node c ts =>
      rw [due_node]
      have := Sy.ht_le (t := .node c (ts.map (due G))) (n := (Tm.node c ts).ht - 1) fun k hk => by
        obtain ⟨k', hk', rfl⟩ := List.mem_map.mp (show k ∈ ts.map (due G) from hk)
        have h1 := ih k' hk' (h.kid (show k' ∈ (Tm.node c ts).kids from hk'))
        have h2 := Tm.ht_kid (t := .node c ts) hk'
        omega
      omega
    | map es =>
      rw [due_map]
      have := Sy.ht_le (t := .map (es.map fun e => (e.1, due G e.2))) (n := (Tm.map es).ht - 1) fun k hk => by
        obtain ⟨e, he, rfl⟩ := List.mem_map.mp (show k ∈ (es.map fun e => (e.1, due G e.2)).map Prod.snd from hk)
        obtain ⟨e', he', rfl⟩ := List.mem_map.mp he
        have hk : e'.2 ∈ (Tm.map es).kids := List.mem_map.mpr ⟨e', he', rfl⟩
        have h1 := ih _ hk (h.kid hk)
        have h2 := Tm.ht_kid hk
        show (due G e'.2).ht ≤ _
        omega
      omega
    | form f ts => exact hl.elim
end PK
namespace PK
open PySem L2
/-! the stack of the walk that parts_of does -/
theorem cut_drop (xs : List V) (i : Nat) (h : i ≤ xs.length) : cutV xs (some (i : Int)) none = xs.drop i := by
  unfold cutV
  have e : HT.sIx xs.length 0 (some (i : Int)) = i := by
    rw [HT.sIx_nat]; omega
  rw [e, HT.sIx_none, List.take_of_length_le (by rw [List.length_drop]; omega)]
structure OffL (f : Addr) (H H' : Hp) : Prop where
  a : ∃ k, H f = some (.lst k)
  keep : ∀ b o, b ≠ f → H b = some o → H' b = some o
section
variable {f : Addr} {K : PySem.W.Frag} {H H1 H2 : Hp}
theorem OffL.seqT {a : Addr} {xs : List V} (x : OffL f H H1) (h : SqT K H a xs) : SqT K H1 a xs := by
  obtain ⟨k, hk⟩ := x.a
  have nl : ∀ {o : HO}, H a = some o → (∀ y, o ≠ .lst y) → a ≠ f := fun e d z => by
    rw [z, hk] at e; cases e; exact d _ rfl
  rcases h with (h | ⟨o, h⟩) | h
  · exact .inl (.inl (x.keep _ _ (nl h (fun _ => HO.noConfusion)) h))
  · exact .inl (.inr ⟨o, x.keep _ _ (nl h (fun _ => HO.noConfusion)) h⟩)
  · exact .inr h
end
/-- the stack of the walk that parts_of does -/
def popS (ts : List Tm) : List Tm := ts.dropLast ++ (match ts.getLast? with | some k => k.kids.reverse | none => [])
def stk (t : Tm) : Nat → List Tm
  | 0 => [t]
  | n + 1 => popS (stk t n)
theorem popS_snoc (r : List Tm) (k : Tm) : popS (r ++ [k]) = r ++ k.kids.reverse := by
  unfold popS
  rw [List.dropLast_concat, List.getLast?_append]; rfl
theorem stk_todo (t : Tm) : ∀ j, j ≤ t.parts.length → todo (stk t j) = t.parts.drop j
  | 0, _ => by rw [show stk t 0 = [t] from rfl, todo_one, List.drop_zero]
  | j + 1, h => by
    have ih := stk_todo t j (by omega)
    show todo (popS (stk t j)) = _
    rcases List.eq_nil_or_concat (stk t j) with e | ⟨r, k, e⟩
    · rw [e, todo_nil] at ih
      have := congrArg List.length ih
      rw [List.length_drop, List.length_nil] at this
      omega
    · rw [List.concat_eq_append] at e
      rw [e, popS_snoc]
      rw [e, todo_snoc] at ih
      have := congrArg List.tail ih
      rw [List.tail_drop] at this
      exact this
theorem stk_at (t : Tm) {j : Nat} {k : Tm} (h : t.parts[j]? = some k) : ∃ r, stk t j = r ++ [k] ∧ stk t (j + 1) = r ++ k.kids.reverse := by
  obtain ⟨hj, e⟩ := List.getElem?_eq_some_iff.mp h
  have ih := stk_todo t j (by omega)
  rcases List.eq_nil_or_concat (stk t j) with e2 | ⟨r, k', e2⟩
  · rw [e2, todo_nil] at ih
    have := congrArg List.length ih
    rw [List.length_drop, List.length_nil] at this
    omega
  · rw [List.concat_eq_append] at e2
    rw [e2, todo_snoc, List.drop_eq_getElem_cons hj, e] at ih
    obtain rfl : k' = k := (List.cons.inj ih).1
    exact ⟨r, e2, by show popS (stk t j) = _; rw [e2, popS_snoc]⟩
theorem stk_end (t : Tm) : stk t t.parts.length = [] := by
  have := stk_todo t t.parts.length (Nat.le_refl _)
  rw [List.drop_length] at this
  rcases List.eq_nil_or_concat (stk t t.parts.length) with e | ⟨r, k, e⟩
  · exact e
  · rw [List.concat_eq_append] at e
    rw [e, todo_snoc] at this
    cases this
theorem stk_len (t : Tm) {j : Nat} (h : j ≤ t.parts.length) : (stk t j).length ≤ t.parts.length := by
  have h1 := stk_todo t j h
  have h2 : ∀ ts : List Tm, ts.length ≤ (todo ts).length := fun ts => by
    unfold todo
    rw [List.length_flatten, List.map_map]
    have : ∀ l : List Tm, l.length ≤ (l.map (List.length ∘ Tm.parts)).sum := fun l => by
      induction l with
      | nil => exact Nat.zero_le _
      | cons a l ih =>
        rw [List.map_cons, List.sum_cons, List.length_cons]
        have : 1 ≤ (List.length ∘ Tm.parts) a := by
          show 1 ≤ a.parts.length
          rw [Tm.parts_len]; exact a.size_pos
        omega
    have := this ts.reverse
    rw [List.length_reverse] at this
    exact this
  have := h2 (stk t j)
  rw [h1, List.length_drop] at this
  omega
theorem al_parts {p : Tm → Prop} {t : Tm} : ∀ {x : Tm}, Al p t → x ∈ t.parts → Al p x := by
  induction t using Tm.ind with
  | h t ih =>
    intro x h hx
    rw [Tm.parts_eq] at hx
    rcases List.mem_cons.mp hx with rfl | hx
    · exact h
    · obtain ⟨l, hl, hkl⟩ := List.mem_flatten.mp hx
      obtain ⟨z, hz, rfl⟩ := List.mem_map.mp hl
      exact ih z hz (h.kid hz) hkl
theorem GN.len {G : Gt} {t : Tm} (h : GN G t) : t.kids.length ≤ 10 := by
  have := h.at_
  cases t with
  | node c ts => have := this.2; show ts.length ≤ 10; omega
  | map es => show (es.map Prod.snd).length ≤ 10; rw [List.length_map]; exact this.1
  | form f ts => exact this.elim
  | _ => exact Nat.zero_le _
end PK
namespace PK
open PySem L2
/-! the program: what a term becomes -/
theorem eqU {k : Nat} {A : Around} (hr : Room k A) : A.units + 190 < cLine := by have := hr.un; omega
def BindS (K : PySem.W.Frag) (H : Hp) (kvs : List (Key × V)) (G : Gt) : Prop := ∀ s t, lookA G s = some t → ∃ v, valV kvs (Sum.inr s) = some v ∧ Dt K H v t.d
theorem BindS.same {K : PySem.W.Frag} {H H' : Hp} {kvs : List (Key × V)} {G : Gt} (h : BindS K H kvs G) (s : Same H H') : BindS K H' kvs G := fun w t e => by
  obtain ⟨v, h1, h2⟩ := h w t e
  exact ⟨v, h1, h2.same s⟩
theorem BindS.mono {K : PySem.W.Frag} {H H' : Hp} {kvs : List (Key × V)} {G : Gt} (h : BindS K H kvs G) (k : ∀ v d, Dt K H v d → Dt K H' v d) : BindS K H' kvs G := fun w t e => by
  obtain ⟨v, h1, h2⟩ := h w t e
  exact ⟨v, h1, k _ _ h2⟩
def spInt (K : PySem.W.Frag) : Sp := fun vs H Q _ => ∃ n : Int, vs = [.int n] ∧ ∀ (H' : Hp) (v : V), Same H H' → Dt K H' v (Sy.sum [] n).d → Q v H'
def spSyp (K : PySem.W.Frag) : Sp := fun vs H Q _ => ∃ (pw : V) (t : Tm) (il ub : Addr) (iv : List V) (kvs : List (Key × V)) (G : Gt), vs = [pw, .ref il, .ref ub] ∧ Dt K H pw t.d ∧ H il = some (.lst iv) ∧ DtAll K H iv (t.kids.map fun k => (due G k).d) ∧ H ub = some (.dK kvs) ∧ BindS K H kvs G ∧ gN G t ∧
  ∀ (H' : Hp) (v : V), Same H H' → Dt K H' v (due G t).d → Q v H'
def spSym (K : PySem.W.Frag) : Sp := fun vs H Q _ => ∃ (v : V) (t : Tm) (ub : Addr) (kvs : List (Key × V)) (G : Gt), vs = [v, .ref ub] ∧ Dt K H v t.d ∧ H ub = some (.dK kvs) ∧ BindS K H kvs G ∧ GN G t ∧ t.size ≤ 1000000 ∧
  ∀ (H' : Hp) (v : V), Same H H' → Dt K H' v (due G t).d → Q v H'
section
variable {P : Program} {w : World} {K : PySem.W.Frag} {mg : Str → Option Value} {base : Heap} {aF : Addr}
abbrev s_integer : Stmt := topS 6
theorem sc_integer : FnScope ["n"] ["n"] (defScope s_integer) := ⟨rfl, rfl, rfl, by decide +kernel, rfl, by decide +kernel, by decide +kernel⟩
-- slots: 0:n
abbrev s_symbolic_part : Stmt := topS 9
theorem sc_symbolic_part : FnScope ["part", "inner", "unknowns", "head", "worth", "entry", "word", "_"] ["part", "inner", "unknowns"] (defScope s_symbolic_part) := ⟨rfl, rfl, rfl, by decide +kernel, rfl, by decide +kernel, by decide +kernel⟩
-- slots: 0:part 1:inner 2:unknowns 3:head 4:worth 5:entry(comp) 6:word(comp) 7:_(comp)
abbrev s_symbolic : Stmt := topS 8
theorem sc_symbolic : FnScope ["term", "unknowns", "made", "part", "start", "inner"] ["term", "unknowns"] (defScope s_symbolic) := ⟨rfl, rfl, rfl, by decide +kernel, rfl, by decide +kernel, by decide +kernel⟩
-- slots: 0:term 1:unknowns 2:made 3:part 4:start 5:inner
theorem ok_int {f : Addr} {fd : FuncData} (F : Fun K "integer" "integer" s_integer f fd) : FnOk P w K mg base CX0 1 f fd ["n"] (spInt K) := by
  refine F.ok sc_integer (fun vs H Q E h => ?_) (fun cdv A outer s H vs Q E hr h => ?_)
  · obtain ⟨_, rfl, _⟩ := h
    rfl
  obtain ⟨n, rfl, q⟩ := h
  refine ⟨_, (pss_one (ps_ret (pe_tup (pa_cons pe_str (pa_cons (pe_tup pa_nil) (pa_cons (pv 0) pa_nil)))))), ?_⟩
  refine ⟨small (by show 0 ≤ _; decide), fun p1 hp1 => ⟨_, rfl, small (by show 3 ≤ _; decide), fun p2 hp2 => q _ _ ((same_new hp1).trans (same_new hp2)) ?_⟩⟩
  unfold Sy.d
  exact Dt.mk3 hp2 (.str _) (.tup (SqT.of upd_same) .nil) (.int _)
theorem ok_syp {f : Addr} {fd : FuncData} (F : Fun K "_symbolic_part" "_symbolic_part" s_symbolic_part f fd) (T : TxtZ K mg aF) (C_integer : C8.Cal P w K mg base 1 "integer" (spInt K) []) : FnOk P w K mg base CX0 2 f fd ["part", "inner", "unknowns"] (spSyp K) := by
  refine F.ok sc_symbolic_part (fun vs H Q E h => ?_) (fun cdv A outer s H vs Q E hr h => ?_)
  · obtain ⟨_, _, _, _, _, _, _, rfl, _⟩ := h
    rfl
  obtain ⟨pw, t, il, ub, iv, kvs, G, rfl, hv, hil, div, hub, bs, gn, q⟩ := h
  refine ⟨_, (pss_cons (ps_par (i := 3) (j := 4) (by rfl) sc_symbolic_part.nd rfl rfl (by decide) rfl rfl (pa_cons (pe_ix ix_tup (pv 0) pe_int (fun _ _ => rfl)) (pa_cons (pe_ix ix_tup (pv 0) pe_int (fun _ _ => rfl)) pa_nil)) (by rfl))
    (pss_cons (ps_if (pt_cmpR op_eq (pv 3) pe_str (nomark _)) (pss_one (ps_ret (C8.pe_c C_integer hr (by decide) rfl (pa_cons (pv 4) pa_nil)))) pss_nil)
    (pss_cons (ps_if (pt_cmpR op_eq (pv 3) pe_str (nomark _)) (pss_one (ps_ret (pe_dget (hu_of hr) (pv 2) (pv 4) (fun _ _ => rfl)))) pss_nil)
    (pss_cons (ps_if (pt_cmpR op_eq (pv 3) pe_str (nomark _)) (pss_one (ps_ret (pe_tup (pa_cons pe_str (pa_cons pe_non (pa_cons (pe_callTy call_tuple_of (by rfl) T.z_tuple (by decide +kernel) (pa_cons (pe_lc (own := [("entry", 5), ("word", 6), ("_", 7)]) (g := (gTup K 2 (gCons (gTup K 2 (gCons (gName 6) (gCons (gName 7) gNil))) (gCons (gName 5) gNil)))) (tt := tYes) (by rfl) sc_symbolic_part.nd (PKZ.pi_zipP (by rfl) T.z_zip (pa_cons (pv 4) (pa_cons (pv 1) pa_nil))) (blkOk_by (N := ["part", "inner", "unknowns", "head", "worth", "entry", "word", "_"]) (sc := defScope s_symbolic_part) (by decide +kernel)) (fun _ _ _ _ _ => (pg_tup (by rfl) (pgs_cons (pg_tup (by rfl) (pgs_cons (pg_name (i := 6) sc_symbolic_part.nd rfl (Or.inl rfl)) (pgs_cons (pg_name (i := 7) sc_symbolic_part.nd rfl (Or.inl rfl)) pgs_nil))) (pgs_cons (pg_name (i := 5) sc_symbolic_part.nd rfl (Or.inl rfl)) pgs_nil)))) (fun _ _ _ _ _ => pts_nil) (fun _ _ _ _ _ => (pe_tup (pa_cons (pe_tup (pa_cons pe_str (pa_cons (pv 6) pa_nil))) (pa_cons (pv 5) pa_nil))))) pa_nil)) pa_nil)))))) pss_nil)
    (pss_cons (ps_if (pt_cmpR op_eq (pv 3) pe_str (nomark _)) (pss_one (ps_ret (pe_tup (pa_cons pe_str (pa_cons (pv 4) (pa_cons (pe_callTy call_tuple_of (by rfl) T.z_tuple (by decide +kernel) (pa_cons (pv 1) pa_nil)) pa_nil)))))) pss_nil)
    (pss_one (ps_ret (pv 0)))))))), ?_⟩
  have hv0 := hv
  cases t with
  | form f ts => exact gn.elim
  | int n =>
    unfold Tm.d at hv
    obtain ⟨a, x, y, rfl, hs, h1, h2⟩ := Dt.t2 hv
    obtain rfl := h1.s
    cases h2
    rw [due] at q
    exact vTx rfl hs rfl (vTx rfl hs rfl ⟨_, _, rfl, _, rfl, rfl, _, rfl, sT rfl ⟨_, rfl, n, rfl, q⟩⟩)
  | var s =>
    unfold Tm.d at hv
    obtain ⟨a, x, y, rfl, hs, h1, h2⟩ := Dt.t2 hv
    obtain rfl := h1.s
    obtain rfl := h2.s
    obtain ⟨u, e⟩ := gn
    obtain ⟨v, ev, dv⟩ := bs s u e
    rw [due, e] at q
    exact vTx rfl hs rfl (vTx rfl hs rfl ⟨_, _, rfl, _, rfl, rfl, _, rfl, sF (by decide +kernel) ⟨_, rfl, rfl, _, rfl, sT rfl ⟨_, rfl, _, rfl, ub, v, rfl, by rw [← ev]; exact DGet.k (k := Sum.inr s) hub, q H v (Same.refl H) dv⟩⟩⟩)
  | name s =>
    unfold Tm.d at hv
    obtain ⟨a, x, y, rfl, hs, h1, h2⟩ := Dt.t2 hv
    obtain rfl := h1.s
    rw [due] at q
    refine vTx rfl hs rfl (vTx rfl hs rfl ⟨_, _, rfl, _, rfl, rfl, _, rfl, sF (by decide +kernel) ⟨_, rfl, rfl, _, rfl, sF (by decide +kernel) ⟨_, rfl, rfl, _, rfl, sF (by decide +kernel) ⟨_, rfl, rfl, _, rfl, sF (by decide +kernel) ⟨_, rfl, q H _ (Same.refl H) ?_⟩⟩⟩⟩⟩)
    unfold Sy.d
    unfold Tm.d at hv0
    exact hv0
  | addr n =>
    unfold Tm.d at hv
    obtain ⟨a, x, y, rfl, hs, h1, h2⟩ := Dt.t2 hv
    obtain rfl := h1.s
    rw [due] at q
    refine vTx rfl hs rfl (vTx rfl hs rfl ⟨_, _, rfl, _, rfl, rfl, _, rfl, sF (by decide +kernel) ⟨_, rfl, rfl, _, rfl, sF (by decide +kernel) ⟨_, rfl, rfl, _, rfl, sF (by decide +kernel) ⟨_, rfl, rfl, _, rfl, sF (by decide +kernel) ⟨_, rfl, q H _ (Same.refl H) ?_⟩⟩⟩⟩⟩)
    unfold Sy.d
    unfold Tm.d at hv0
    exact hv0
  | node c ts =>
    unfold Tm.d at hv
    obtain ⟨a, x, y, z, rfl, hs, h1, h2, h3⟩ := Dt.t3 hv
    obtain rfl := h1.s
    obtain rfl := h2.s
    rw [due_node] at q
    refine vTx rfl hs rfl (vTx rfl hs rfl ⟨_, _, rfl, _, rfl, rfl, _, rfl, sF (by decide +kernel) ⟨_, rfl, rfl, _, rfl, sF (by decide +kernel) ⟨_, rfl, rfl, _, rfl, sF (by decide +kernel) ⟨_, rfl, rfl, _, rfl, sT rfl ⟨_, rfl, _, rfl, il, iv, rfl, .inl ⟨SqL.of hil, fun p1 hp1 => ⟨small (by show 3 ≤ _; decide), fun p2 hp2 => q _ _ ((same_new hp1).trans (same_new hp2)) ?_⟩⟩⟩⟩⟩⟩⟩)
    unfold Sy.d
    rw [Sy.ds_map, List.map_map]
    exact Dt.mk3 hp2 (.str _) (.str _) (.tup (SqT.of upd_same) (div.same (same_new hp1)))
  | map es =>
    unfold Tm.d at hv
    obtain ⟨a, x, y, rfl, hs, h1, h2⟩ := Dt.t2 hv
    obtain rfl := h1.s
    obtain ⟨b, ys, rfl, hb, hys⟩ := Dt.tn h2
    rw [Tm.es_map] at hys
    have ly : ys.length = es.length := by rw [hys.lenD, List.length_map]
    have li : iv.length = es.length := by rw [div.lenD, List.length_map]; show (es.map Prod.snd).length = _; rw [List.length_map]
    have l10 : es.length ≤ 10 := gn.1
    rw [due_map] at q
    refine vTx rfl hs rfl (vTx rfl hs rfl ⟨_, _, rfl, _, rfl, rfl, _, rfl, sF (by decide +kernel) ⟨_, rfl, rfl, _, rfl, sF (by decide +kernel) ⟨_, rfl, rfl, _, rfl, sT rfl ?_⟩⟩⟩)
    refine ⟨_, rfl, _, rfl, .t, .l, b, il, ys, iv, rfl, hb, SqL.of hil, fun D hD => lcS (K := K) (PKZ.walk_zipP (n := iv.length) (by omega)) hD (by omega) (fun ds => ds = ((es.take ds.length).map fun e => (e.1, due G e.2)).map Sy.ent) rfl (fun H' s => ⟨Same.seqT s hb, SqL.of (s _ _ hil)⟩) ?_ ?_⟩
    · rintro i x H1 H2 ds R hi s ⟨U, x1, y1, rfl, hU, rfl, g1, g2⟩ jd len r
      obtain ⟨e, ge, dx⟩ := DtAll.getX hys g1
      obtain ⟨d2, gd, dy⟩ := DtAll.getX div g2
      rw [List.getElem?_map] at ge gd
      cases e0 : es[i]? with
      | none => rw [e0] at ge; cases ge
      | some en =>
      rw [e0] at ge
      cases ge
      have gk : (Tm.map es).kids[i]? = some en.2 := by show (es.map Prod.snd)[i]? = _; rw [List.getElem?_map, e0]; rfl
      rw [gk] at gd
      cases gd
      unfold Tm.ent at dx
      obtain ⟨a1, u1, w1, rfl, hs1, j1, j2⟩ := Dt.t2 (dx.same s)
      obtain rfl := j1.s
      refine ⟨U, _, rfl, SqT.of upd_same, rfl, _, _, rfl, ⟨a1, _, rfl, Same.seqT (same_new hU) hs1, rfl, _, _, rfl, _, _, rfl, rfl, _, _, rfl, rfl, rfl, ?_⟩⟩
      refine ⟨_, rfl, small (by show 2 ≤ _; decide), fun p hp => ⟨_, rfl, small (by show 2 ≤ _; decide), fun p' hp' => r (Sy.ent (en.1, due G en.2)) _ _ (((same_new hU).trans (same_new hp)).trans (same_new hp')) ?_ ?_⟩⟩
      · unfold Sy.ent nmD
        exact Dt.mk2 hp' (Dt.mk2 hp (.str _) (.str _)) (((dy.same s).new hU).same (same_new hp))
      · rw [List.length_append, len, show i + [Sy.ent (en.1, due G en.2)].length = i + 1 from rfl, List.take_add_one, e0, List.map_append, List.map_append]
        rw [len] at jd
        rw [← jd]; rfl
    · rintro H' vs ds s hw dz len jd
      rw [len, li, List.take_length] at jd
      rw [jd] at dz
      refine ⟨D, _, rfl, .inl ⟨SqL.of hw, fun p1 hp1 => ⟨small (by show 3 ≤ _; decide), fun p2 hp2 => q _ _ ((s.trans (same_new hp1)).trans (same_new hp2)) ?_⟩⟩⟩
      unfold Sy.d
      rw [Sy.es_map]
      exact Dt.mk3 hp2 (.str _) .non (.tup (SqT.of upd_same) (dz.same (same_new hp1)))
theorem ok_sym {f : Addr} {fd : FuncData} (F : Fun K "symbolic" "symbolic" s_symbolic f fd) (T : TxtZ K mg aF) (C_symbolic_part : C8.Cal P w K mg base 2 "_symbolic_part" (spSyp K) []) (C_children : C8.Cal P w K mg base 1 "children" (spKids K) []) (C_parts_of : PKL.CalGE P w K mg base 2 "parts_of" (spPg K)) : FnOk P w K mg base CX0 6 f fd ["term", "unknowns"] (spSym K) := by
  refine F.ok sc_symbolic (fun vs H Q E h => ?_) (fun cdv A outer s H vs Q E hr h => ?_)
  · obtain ⟨_, _, _, _, _, rfl, _⟩ := h
    rfl
  obtain ⟨v, t, ub, kvs, G, rfl, hv, hub, bs, gn, hsz, q⟩ := h
  refine ⟨_, (pss_cons (ps_set (i := 2) sc_symbolic.nd rfl (Or.inl rfl) (pe_lst pa_nil))
    (pss_cons (ps_for PassesOwn.never rfl (pi_list (pe_revL (PKL.pe_listOf C_parts_of hr (by decide) rfl (pa_cons (pv 0) pa_nil) (by rfl) T.z_list (by decide +kernel)))) (pg_name (i := 3) sc_symbolic.nd rfl (Or.inl rfl)) (pss_cons (ps_set (i := 4) sc_symbolic.nd rfl (Or.inl rfl) (pe_op op_sub (pe_callB call_len_seq (by rfl) T.z_len (by decide +kernel) (pa_cons (pv 2) pa_nil)) (pe_callB call_len_seq (by rfl) T.z_len (by decide +kernel) (pa_cons (C8.pe_c C_children hr (by decide) rfl (pa_cons (pv 3) pa_nil)) pa_nil))))
    (pss_cons (ps_set (i := 5) sc_symbolic.nd rfl (Or.inl rfl) (pe_revL (pe_slice sl_list (pv 2) (po_some (pv 4)) po_none)))
    (pss_cons (L2.PKR.ps_delFrom (pv 2) (pv 4))
    (pss_one (ps_expr (pe_bm PySem.F.plainAttrs_list PySem.F.slot_list_append PySem.F.type_list_append mt_append (pv 2) (pa_cons (C8.pe_c C_symbolic_part hr (by decide) rfl (pa_cons (pv 3) (pa_cons (pv 5) (pa_cons (pv 1) pa_nil)))) pa_nil))))))))
    (pss_one (ps_ret (pe_ix ix_list (pv 2) pe_int (fun _ _ => rfl)))))), ?_⟩
  refine ⟨small (by show 0 ≤ _; decide), fun ma hma => ?_⟩
  have s2 := same_new (o := .lst []) hma
  refine ⟨_, rfl, v, t, rfl, hv.same s2, by omega, fun H2 ws s3 dws p1 hp1 => ⟨p1, ws, rfl, SqL.of upd_same, fun pl hpl => ?_⟩⟩
  have lws : ws.length = t.parts.length := by rw [dws.lenD, List.length_map]
  have s4 := (same_new (o := .lst ws) hp1).trans (same_new (o := .lst ws.reverse) hpl)
  have hma5 := s4 _ _ (s3 _ _ (upd_same (H := H) (a := ma) (o := .lst [])))
  have hpl5 : (upd (upd H2 p1 (.lst ws)) pl (.lst ws.reverse)) pl = some (.lst ws.reverse) := upd_same
  have s15 : Same H (upd (upd H2 p1 (.lst ws)) pl (.lst ws.reverse)) := (s2.trans s3).trans s4
  have dws5 := dws.same s4
  have npm : pl ≠ ma := fun e => by rw [e, same_new (o := .lst ws) hp1 _ _ (s3 _ _ (upd_same (H := H) (a := ma) (o := .lst [])))] at hpl; cases hpl
  generalize upd (upd H2 p1 (.lst ws)) pl (.lst ws.reverse) = H5 at hma5 hpl5 s15 dws5 ⊢
  have sB : ∀ H', OffL ma H5 H' → Same H H' := fun H' o b u h => o.keep b u (ne_of_none h hma) (s15 _ _ h)
  refine ⟨pl, rfl, ⟨_, SqL.of hpl5⟩, for_it (walk_list (K := K) (xs := ws.reverse)) (fun i σ H' => ∃ (o5 o6 o7 : Option V) (xs : List V), σ = [some v, some (.ref ub), some (.ref ma), o5, o6, o7] ∧ OffL ma H5 H' ∧ H' ma = some (.lst xs) ∧ DtAll K H' xs ((stk t (t.parts.length - i)).map fun k => (due G k).d)) ?_ ?_ ?_ ?_⟩
  · refine ⟨_, _, _, [], rfl, ⟨⟨_, hma5⟩, fun _ _ _ h => h⟩, hma5, ?_⟩
    rw [Nat.sub_zero, stk_end]
    exact .nil
  · rintro i σ H' _ ⟨_, _, _, _, _, o, _⟩
    exact SqL.of (o.keep _ _ npm hpl5)
  · rintro i x σ H6 H6 hi ⟨o5, o6, o7, xs, rfl, o1, hma6, trs⟩ ⟨rfl, gx⟩
    rw [List.length_reverse] at hi
    obtain ⟨j, ej⟩ : ∃ j, t.parts.length - i = j + 1 := ⟨t.parts.length - i - 1, by omega⟩
    have ej2 : t.parts.length - (i + 1) = j := by omega
    rw [List.getElem?_reverse hi, show ws.length - 1 - i = j by omega] at gx
    obtain ⟨dd, gd, dx⟩ := dws5.getX gx
    rw [List.getElem?_map] at gd
    cases e0 : t.parts[j]? with
    | none => rw [e0] at gd; cases gd
    | some k =>
    rw [e0] at gd
    cases gd
    obtain ⟨r, e1, e2⟩ := stk_at t e0
    rw [ej, e2, List.map_append] at trs
    obtain ⟨us, zs, rfl, tu, tz⟩ := DtAll.splitR trs
    have lu := tu.lenD
    have lz := tz.lenD
    rw [List.length_map] at lu
    rw [List.length_map, List.length_reverse] at lz
    have hk := List.mem_of_getElem? e0
    have gk : GN G k := al_parts gn hk
    have l10 : k.kids.length ≤ 10 := GN.len gk
    have lr : r.length ≤ 1000000 := by
      have := stk_len t (j := j) (by omega)
      rw [e1, List.length_append, Tm.parts_len] at this
      omega
    have dx6 : Dt K H6 x k.d := Dt.mono (fun _ _ y => o1.seqT y) _ _ dx
    refine ⟨_, rfl, ma, _, rfl, .inl (SqL.of hma6), _, rfl, x, k, rfl, dx6, by omega, fun H7 p7 ys7 s7 hp7 dy7 => ⟨p7, ys7, rfl, .inr hp7, ?_⟩⟩
    have ly : ys7.length = k.kids.length := by rw [dy7.lenD, List.length_map]
    have hma7 := s7 _ _ hma6
    refine ⟨_, _, rfl, rfl, ?_⟩
    have es : (((us ++ zs).length : Nat) : Int) - ((ys7.length : Nat) : Int) = ((us.length : Nat) : Int) := by rw [List.length_append]; omega
    dsimp only
    rw [es]
    refine ⟨_, rfl, _, rfl, _, rfl, ma, _, rfl, SqL.of hma7, fun p8 hp8 => ⟨p8, _, rfl, SqL.of upd_same, fun p9 hp9 => ?_⟩⟩
    rw [cut_drop _ _ (by rw [List.length_append]; omega), List.drop_left] at hp9 ⊢
    have s9 := (same_new (o := .lst zs) hp8).trans (same_new (o := .lst zs.reverse) hp9)
    have hma9 := s9 _ _ hma7
    have hp99 : (upd (upd H7 p8 (.lst zs)) p9 (.lst zs.reverse)) p9 = some (.lst zs.reverse) := upd_same
    have n9 : p9 ≠ ma := fun e => by rw [e, same_new (o := .lst zs) hp8 _ _ hma7] at hp9; cases hp9
    generalize upd (upd H7 p8 (.lst zs)) p9 (.lst zs.reverse) = H9 at s9 hma9 hp99 ⊢
    have s69 := s7.trans s9
    refine ⟨_, rfl, _, rfl, ma, _, us.length, rfl, rfl, hma9, by rw [List.length_append]; omega, ?_⟩
    rw [List.take_left]
    have o69 : OffL ma H6 (upd H9 ma (.lst us)) := ⟨⟨_, hma6⟩, fun b o n h => by rw [upd_ne n]; exact s69 _ _ h⟩
    have o510 : OffL ma H5 (upd H9 ma (.lst us)) := ⟨⟨_, hma5⟩, fun b o n h => o69.keep _ _ n (o1.keep _ _ n h)⟩
    have hma10 : (upd H9 ma (.lst us)) ma = some (.lst us) := upd_same
    have hp10 : (upd H9 ma (.lst us)) p9 = some (.lst zs.reverse) := by rw [upd_ne n9]; exact hp99
    generalize upd H9 ma (.lst us) = H10 at o69 o510 hma10 hp10 ⊢
    have tz10 : DtAll K H10 zs.reverse (k.kids.map fun k => (due G k).d) := by
      have := (DtAll.mono (fun _ _ y => o69.seqT y) _ _ tz).rev
      rw [← List.map_reverse, List.reverse_reverse] at this
      exact this
    have s110 := sB _ o510
    have dx10 : Dt K H10 x k.d := Dt.mono (fun _ _ y => o69.seqT y) _ _ dx6
    refine ⟨_, rfl, .inl ⟨rfl, _, SqL.of hma10⟩, _, rfl, _, rfl, _, rfl, ?_⟩
    refine ⟨x, k, p9, ub, zs.reverse, kvs, G, rfl, dx10, hp10, tz10, s110 _ _ hub, bs.same s110, gk.at_, fun H11 v11 s11 dv => ?_⟩
    have hma11 := s11 _ _ hma10
    refine ⟨ma, us, v11, rfl, rfl, hma11, smallL (by omega), ?_⟩
    refine ⟨_, _, _, us ++ [v11], rfl, ⟨o510.a, fun b u n h => by rw [upd_ne n]; exact s11 _ _ (o510.keep _ _ n h)⟩, upd_same, ?_⟩
    rw [ej2, e1, List.map_append]
    exact DtAll.upd ((DtAll.same (DtAll.mono (fun _ _ y => o69.seqT y) _ _ tu) s11).append (.cons dv .nil)) hma11
  rintro σ H6 ⟨o5, o6, o7, xs, rfl, o1, hma6, trs⟩
  rw [List.length_reverse, lws, Nat.sub_self] at trs
  cases trs with
  | cons a b =>
  cases b
  exact ⟨_, rfl, ma, _, 0, _, rfl, rfl, SqL.of hma6, rfl, q H6 _ (sB _ o1) a⟩
end
end PK
namespace PK
open PySem L2
/-! the program: size, unknowns -/
def spInn (K : PySem.W.Frag) : Sp := fun vs H Q _ => ∃ (v : V) (t : Sy), vs = [v] ∧ Dt K H v t.d ∧ t.kids.length ≤ 100000 ∧ ∀ (H' : Hp) (p : Addr) (ws : List V), Same H H' → H p = none → H' p = some (.lst ws) → DtAll K H' ws (t.kids.map Sy.d) → Q (.ref p) H'
def szs (ts : List Sy) : Nat := (ts.map Sy.size).sum
theorem szs_app (a b : List Sy) : szs (a ++ b) = szs a + szs b := by unfold szs; rw [List.map_append, List.sum_append]
theorem szs_len : ∀ ts : List Sy, ts.length ≤ szs ts
  | [] => Nat.zero_le _
  | t :: ts => by
    have := szs_len ts
    have := t.size_pos
    show _ + 1 ≤ t.size + szs ts
    omega
theorem szs_snoc (a : List Sy) (t : Sy) : szs (a ++ [t]) = szs a + (t.wt + szs t.kids) := by
  rw [szs_app]
  have := t.size_eq
  show _ + (t.size + 0) = _ + (t.wt + (t.kids.map Sy.size).sum)
  omega
def spSiz (K : PySem.W.Frag) : Sp := fun vs H Q _ => ∃ (v : V) (t : Sy), vs = [v] ∧ Dt K H v t.d ∧ SN t ∧ t.size ≤ 3000000 ∧ ∀ H', Same H H' → Q (.int (t.size : Nat)) H'
def Sy.tag : Sy → Str
  | .sum _ _ => "sum" | .name _ => "name" | .addr _ => "addr" | .unk _ => "unknown" | .node _ _ => "node" | .map _ => "map"
theorem Sy.hd {K : PySem.W.Frag} {H : Hp} {v : V} {t : Sy} (h : Dt K H v t.d) : ∃ (a : Addr) (r : List V), v = .ref a ∧ SqT K H a (.str t.tag :: r) := by
  cases t with
  | sum ps n => unfold Sy.d at h; obtain ⟨a, x, y, z, rfl, hs, h1, _⟩ := Dt.t3 h; obtain rfl := h1.s; exact ⟨a, _, rfl, hs⟩
  | node c ts => unfold Sy.d at h; obtain ⟨a, x, y, z, rfl, hs, h1, _⟩ := Dt.t3 h; obtain rfl := h1.s; exact ⟨a, _, rfl, hs⟩
  | map es => unfold Sy.d at h; obtain ⟨a, x, y, z, rfl, hs, h1, _⟩ := Dt.t3 h; obtain rfl := h1.s; exact ⟨a, _, rfl, hs⟩
  | name s => unfold Sy.d at h; obtain ⟨a, x, y, rfl, hs, h1, _⟩ := Dt.t2 h; obtain rfl := h1.s; exact ⟨a, _, rfl, hs⟩
  | addr s => unfold Sy.d at h; obtain ⟨a, x, y, rfl, hs, h1, _⟩ := Dt.t2 h; obtain rfl := h1.s; exact ⟨a, _, rfl, hs⟩
  | unk s => unfold Sy.d at h; obtain ⟨a, x, y, rfl, hs, h1, _⟩ := Dt.t2 h; obtain rfl := h1.s; exact ⟨a, _, rfl, hs⟩
section
variable {P : Program} {w : World} {K : PySem.W.Frag} {mg : Str → Option Value} {base : Heap} {aF : Addr}
abbrev s_inner_terms : Stmt := topS 10
theorem sc_inner_terms : FnScope ["term", "_", "entry"] ["term"] (defScope s_inner_terms) := ⟨rfl, rfl, rfl, by decide +kernel, rfl, by decide +kernel, by decide +kernel⟩
-- slots: 0:term 1:_(comp) 2:entry(comp)
abbrev s_size : Stmt := topS 11
theorem sc_size : FnScope ["term", "many", "waiting", "part"] ["term"] (defScope s_size) := ⟨rfl, rfl, rfl, by decide +kernel, rfl, by decide +kernel, by decide +kernel⟩
-- slots: 0:term 1:many 2:waiting 3:part
theorem ok_inn {f : Addr} {fd : FuncData} (F : Fun K "inner_terms" "inner_terms" s_inner_terms f fd) (T : Txt K mg) : FnOk P w K mg base CX0 1 f fd ["term"] (spInn K) := by
  refine F.ok sc_inner_terms (fun vs H Q E h => ?_) (fun cdv A outer s H vs Q E hr h => ?_)
  · obtain ⟨_, _, rfl, _⟩ := h
    rfl
  obtain ⟨v, t, rfl, hv, hl, q⟩ := h
  refine ⟨_, (pss_cons (ps_if (pt_cmpR op_eq (pe_ix ix_tup (pv 0) pe_int (fun _ _ => rfl)) pe_str (nomark _)) (pss_one (ps_ret (pe_callTy call_list_of (by rfl) T.z_list (by decide +kernel) (pa_cons (pe_ix ix_tup (pv 0) pe_int (fun _ _ => rfl)) pa_nil)))) pss_nil)
    (pss_cons (ps_if (pt_cmpR op_eq (pe_ix ix_tup (pv 0) pe_int (fun _ _ => rfl)) pe_str (nomark _)) (pss_one (ps_ret (pe_lc (own := [("_", 1), ("entry", 2)]) (g := (gTup K 2 (gCons (gName 1) (gCons (gName 2) gNil)))) (tt := tYes) (by rfl) sc_inner_terms.nd (pi_tup (pe_ix ix_tup (pv 0) pe_int (fun _ _ => rfl))) (blkOk_by (N := ["term", "_", "entry"]) (sc := defScope s_inner_terms) (by decide +kernel)) (fun _ _ _ _ _ => (pg_tup (by rfl) (pgs_cons (pg_name (i := 1) sc_inner_terms.nd rfl (Or.inl rfl)) (pgs_cons (pg_name (i := 2) sc_inner_terms.nd rfl (Or.inl rfl)) pgs_nil)))) (fun _ _ _ _ _ => pts_nil) (fun _ _ _ _ _ => (pv 2))))) pss_nil)
    (pss_one (ps_ret (pe_lst pa_nil))))), ?_⟩
  obtain ⟨a, r, rfl, hs⟩ := Sy.hd hv
  refine vTx rfl hs (atI_nat (j := 0) rfl) ⟨rfl, _, rfl, ?_⟩
  cases t with
  | node c ts =>
    unfold Sy.d at hv
    obtain ⟨a', x, y, z, e, hsq, h1, h2, h3⟩ := Dt.t3 hv
    cases e
    obtain ⟨b, ys, rfl, hb, hys⟩ := Dt.tn h3
    rw [Sy.ds_map] at hys
    exact sT rfl (vTx rfl hsq rfl ⟨b, ys, rfl, .inr hb, fun p hp => q _ p ys (same_new hp) hp upd_same (hys.same (same_new hp))⟩)
  | map es =>
    unfold Sy.d at hv
    obtain ⟨a', x, y, z, e, hsq, h1, h2, h3⟩ := Dt.t3 hv
    cases e
    obtain ⟨b, ys, rfl, hb, hys⟩ := Dt.tn h3
    rw [Sy.es_map] at hys
    have ly : ys.length = es.length := by rw [hys.lenD, List.length_map]
    have le : (Sy.map es).kids.length = es.length := by show (es.map Prod.snd).length = _; rw [List.length_map]
    refine sF (show ("map" : Str) ≠ "node" by decide +kernel) (vTx rfl hs (atI_nat (j := 0) rfl) ⟨rfl, _, rfl, sT rfl (vTx rfl hsq rfl ⟨b, rfl, ⟨_, hb⟩, fun D hD => lcS (K := K) (walk_tup (xs := ys)) hD (by omega) (fun ds => ds = ((es.take ds.length).map fun e => e.2.d)) rfl (fun H' s => Same.seqT s hb) ?_ ?_⟩)⟩)
    · rintro i x H1 H1 ds R' hi s1 ⟨rfl, gx⟩ jd len r'
      obtain ⟨d, gd, dx⟩ := DtAll.getX hys gx
      rw [List.getElem?_map] at gd
      cases e0 : es[i]? with
      | none => rw [e0] at gd; cases gd
      | some k =>
      rw [e0] at gd
      cases gd
      unfold Sy.ent at dx
      obtain ⟨a3, x3, y3, rfl, hs3, h31, h32⟩ := Dt.t2 (dx.same s1)
      refine ⟨a3, _, rfl, hs3, rfl, _, _, rfl, _, _, rfl, rfl, rfl, _, rfl, r' k.2.d _ _ (Same.refl H1) h32 ?_⟩
      rw [List.length_append, len, show i + [k.2.d].length = i + 1 from rfl, List.take_add_one, e0, List.map_append]
      rw [len] at jd
      rw [← jd]; rfl
    rintro H1 ws ds s1 hws da len jd
    rw [len, ly, List.take_length] at jd
    rw [jd] at da
    refine q H1 D ws s1 hD hws ?_
    show DtAll K H1 ws ((es.map Prod.snd).map Sy.d)
    rw [List.map_map]; exact da
  | sum ps n => exact sF (show ("sum" : Str) ≠ "node" by decide +kernel) (vTx rfl hs (atI_nat (j := 0) rfl) ⟨rfl, _, rfl, sF (show ("sum" : Str) ≠ "map" by decide +kernel) ⟨small (by show 0 ≤ _; decide), fun p hp => q _ p [] (same_new hp) hp upd_same .nil⟩⟩)
  | name s => exact sF (show ("name" : Str) ≠ "node" by decide +kernel) (vTx rfl hs (atI_nat (j := 0) rfl) ⟨rfl, _, rfl, sF (show ("name" : Str) ≠ "map" by decide +kernel) ⟨small (by show 0 ≤ _; decide), fun p hp => q _ p [] (same_new hp) hp upd_same .nil⟩⟩)
  | addr s => exact sF (show ("addr" : Str) ≠ "node" by decide +kernel) (vTx rfl hs (atI_nat (j := 0) rfl) ⟨rfl, _, rfl, sF (show ("addr" : Str) ≠ "map" by decide +kernel) ⟨small (by show 0 ≤ _; decide), fun p hp => q _ p [] (same_new hp) hp upd_same .nil⟩⟩)
  | unk s => exact sF (show ("unknown" : Str) ≠ "node" by decide +kernel) (vTx rfl hs (atI_nat (j := 0) rfl) ⟨rfl, _, rfl, sF (show ("unknown" : Str) ≠ "map" by decide +kernel) ⟨small (by show 0 ≤ _; decide), fun p hp => q _ p [] (same_new hp) hp upd_same .nil⟩⟩)
theorem ok_siz {f : Addr} {fd : FuncData} (F : Fun K "size" "size" s_size f fd) (T : Txt K mg) (C_inner_terms : C8.Cal P w K mg base 1 "inner_terms" (spInn K) []) : FnOk P w K mg base CX0 2 f fd ["term"] (spSiz K) := by
  refine F.ok sc_size (fun vs H Q E h => ?_) (fun cdv A outer s H vs Q E hr h => ?_)
  · obtain ⟨_, _, rfl, _⟩ := h
    rfl
  obtain ⟨v, t, rfl, hv, sn, hz, q⟩ := h
  refine ⟨_, (pss_cons (ps_set (i := 1) sc_size.nd rfl (Or.inl rfl) pe_int)
    (pss_cons (ps_set (i := 2) sc_size.nd rfl (Or.inl rfl) (pe_lst (pa_cons (pv 0) pa_nil)))
    (pss_cons (ps_while PassesOwn.never (pt_truth (pv 2) (by intro _; rfl)) (pss_cons (ps_set (i := 3) sc_size.nd rfl (Or.inl rfl) (pe_bm0 PySem.F.plainAttrs_list PySem.F.slot_list_pop PySem.F.type_list_pop mt_pop (pv 2)))
    (C8.pss_cut (ps_aug (i := 1) sc_size.nd rfl (Or.inl rfl) (pe_op op_add pe_int (pe_ifExp (pt_cmpR op_eq (pe_ix ix_tup (pv 3) pe_int (fun _ _ => rfl)) pe_str (nomark _)) (pe_callB call_len_seq (by rfl) T.z_len (by decide +kernel) (pa_cons (pe_ix ix_tup (pv 3) pe_int (fun _ _ => rfl)) pa_nil)) pe_int)) ip_add)
    (pss_one (ps_expr (pe_bm PySem.F.plainAttrs_list PySem.F.slot_list_extend PySem.F.type_list_extend mt_extend (pv 2) (pa_cons (C8.pe_c C_inner_terms hr (by decide) rfl (pa_cons (pv 3) pa_nil)) pa_nil)))))))
    (pss_one (ps_ret (pv 1)))))), ?_⟩
  refine ⟨_, rfl, small (by show 1 ≤ _; decide), fun Wa hW => ?_⟩
  refine ⟨fun n σ H' => ∃ (ts : List Sy) (xs : List V) (many : Nat) (o : Option V), n = szs ts ∧ σ = [some v, some (.int (many : Nat)), some (.ref Wa), o] ∧ Same H H' ∧ H' Wa = some (.lst xs) ∧ DtAll K H' xs (ts.map Sy.d) ∧ many + szs ts = t.size ∧ ∀ x ∈ ts, SN x, ⟨_, [t], [v], 0, _, rfl, rfl, same_new hW, upd_same, .cons (hv.same (same_new hW)) .nil, ?_, fun x hx => ?_⟩, ?_⟩
  · show 0 + (t.size + 0) = t.size; omega
  · rw [List.mem_singleton.mp hx]; exact sn
  rintro n σ H1 ⟨ts, xs, many, o, rfl, rfl, s, hW1, dx, em, ok⟩
  refine ⟨_, rfl, !xs.isEmpty, .inl ⟨xs, SqL.of hW1, rfl⟩, ?_⟩
  rcases List.eq_nil_or_concat ts with rfl | ⟨r, k, rfl⟩
  · cases dx
    have : many = t.size := by have : many + 0 = t.size := em; omega
    rw [this]
    exact iteF ⟨_, rfl, q H1 s⟩
  rw [List.concat_eq_append] at dx em ok ⊢
  rw [List.map_append] at dx
  obtain ⟨us, zs, rfl, d1, d2⟩ := DtAll.splitR dx
  cases d2 with
  | cons dz dn =>
  cases dn
  rename_i z
  rw [show (!(us ++ [z]).isEmpty) = true by simp]
  have lus : us.length = r.length := by rw [d1.lenD, List.length_map]
  have lr := szs_len r
  have e0 := szs_snoc r k
  have kwt := k.wt_pos
  have lkk := szs_len k.kids
  have snk := ok k (List.mem_append_right _ (List.mem_singleton.mpr rfl))
  have hWH := hW
  refine iteT ⟨fun σ' H' => ∃ m', m' < szs (r ++ [k]) ∧ ∃ (ts : List Sy) (xs : List V) (many : Nat) (o : Option V), m' = szs ts ∧ σ' = [some v, some (.int (many : Nat)), some (.ref Wa), o] ∧ Same H H' ∧ H' Wa = some (.lst xs) ∧ DtAll K H' xs (ts.map Sy.d) ∧ many + szs ts = t.size ∧ ∀ x ∈ ts, SN x, fun _ _ h => h, ?_⟩
  refine ⟨_, rfl, .inl ⟨rfl, _, SqL.of hW1⟩, Wa, _, z, rfl, rfl, hW1, by rw [List.length_append]; simp, ?_⟩
  rw [List.dropLast_concat]
  have s2 : Same H (upd H1 Wa (.lst us)) := Same.upd s hW
  have dz2 : Dt K (upd H1 Wa (.lst us)) z k.d := Dt.mono (fun _ _ y => seqT_upd y hW1) _ _ dz
  have d12 : DtAll K (upd H1 Wa (.lst us)) us (r.map Sy.d) := DtAll.mono (fun _ _ y => seqT_upd y hW1) _ _ d1
  have hW2 : (upd H1 Wa (.lst us)) Wa = some (.lst us) := upd_same
  generalize upd H1 Wa (.lst us) = H2 at s2 dz2 d12 hW2 ⊢
  obtain ⟨a, r', rfl, hsq⟩ := Sy.hd dz2
  have l10 := snk.len
  refine ⟨fun σ' H' => σ' = [some v, some (.int ((many + k.wt : Nat) : Int)), some (.ref Wa), some (.ref a)] ∧ H' = H2, ?_, ?_⟩
  · refine ⟨_, rfl, vTx rfl hsq (atI_nat (j := 0) rfl) ⟨rfl, _, rfl, ?_⟩⟩
    have fin : ∀ m : Nat, k.wt = 1 + m → [some v, some (V.int ((many : Nat) + ((1 : Int) + (m : Nat)))), some (V.ref Wa), some (V.ref a)] = [some v, some (.int ((many + k.wt : Nat) : Int)), some (.ref Wa), some (.ref a)] := fun m e => by
      rw [e, show ((many : Nat) : Int) + ((1 : Int) + (m : Nat)) = ((many + (1 + m) : Nat) : Int) by omega]
    cases k with
    | map es =>
      unfold Sy.d at dz2
      obtain ⟨a', x, y, z, e, hsq2, h1, h2, h3⟩ := Dt.t3 dz2
      cases e
      obtain ⟨b, ys, rfl, hb, hys⟩ := Dt.tn h3
      rw [Sy.es_map] at hys
      have ly : ys.length = es.length := by rw [hys.lenD, List.length_map]
      exact sT rfl (vTx rfl hsq2 rfl ⟨b, ys, rfl, .inr hb, _, _, rfl, rfl, _, _, rfl, rfl, fin ys.length (by rw [ly]; rfl), rfl⟩)
    | sum ps n => exact sF (show ("sum" : Str) ≠ "map" by decide +kernel) ⟨_, _, rfl, rfl, _, _, rfl, rfl, fin 0 rfl, rfl⟩
    | node c ts => exact sF (show ("node" : Str) ≠ "map" by decide +kernel) ⟨_, _, rfl, rfl, _, _, rfl, rfl, fin 0 rfl, rfl⟩
    | name s => exact sF (show ("name" : Str) ≠ "map" by decide +kernel) ⟨_, _, rfl, rfl, _, _, rfl, rfl, fin 0 rfl, rfl⟩
    | addr s => exact sF (show ("addr" : Str) ≠ "map" by decide +kernel) ⟨_, _, rfl, rfl, _, _, rfl, rfl, fin 0 rfl, rfl⟩
    | unk s => exact sF (show ("unknown" : Str) ≠ "map" by decide +kernel) ⟨_, _, rfl, rfl, _, _, rfl, rfl, fin 0 rfl, rfl⟩
  rintro σ' H' ⟨rfl, rfl⟩
  refine ⟨_, rfl, .inl ⟨rfl, _, SqL.of hW2⟩, _, rfl, .ref a, k, rfl, dz2, by omega, fun H3 p3 ws3 s3 hp3 hp33 dws3 => ?_⟩
  have lw3 : ws3.length = k.kids.length := by rw [dws3.lenD, List.length_map]
  have hW3 := s3 _ _ hW2
  refine ⟨Wa, p3, us, ws3, rfl, rfl, hW3, hp33, small (by omega), szs (r ++ k.kids), by rw [szs_app, e0]; omega, r ++ k.kids, us ++ ws3, many + k.wt, _, rfl, rfl, Same.upd (s2.trans s3) hW, upd_same, ?_, by rw [szs_app]; omega, fun x hx => ?_⟩
  · rw [List.map_append]
    exact ((d12.same s3).append dws3).upd hW3
  · rcases List.mem_append.mp hx with hx | hx
    · exact ok x (List.mem_append_left _ hx)
    · exact snk.kid hx
end
end PK
namespace PK
open PySem L2
/-! the program: unknowns -/
theorem nd_le {α : Type} [DecidableEq α] : ∀ {l m : List α}, l.Nodup → (∀ x ∈ l, x ∈ m) → l.length ≤ m.length
  | [], _, _, _ => Nat.zero_le _
  | x :: l, m, nd, h => by
    obtain ⟨hx, nl⟩ := List.nodup_cons.mp nd
    have := nd_le (l := l) (m := m.erase x) nl fun y hy => (List.mem_erase_of_ne (fun e => hx (by rw [← e]; exact hy))).mpr (h y (List.mem_cons_of_mem _ hy))
    have hm := h x List.mem_cons_self
    rw [List.length_erase_of_mem hm] at this
    have := List.length_pos_of_mem hm
    rw [List.length_cons]; omega
/-- a dict whose keys are these small integers -/
structure Ky (kvs : List (Key × V)) (ks : List Int) : Prop where
  eq : kvs.map (·.1) = ks.map Sum.inl
  nd : ks.Nodup
  le : ∀ x ∈ ks, 0 ≤ x ∧ x ≤ 40
theorem Ky.len {kvs : List (Key × V)} {ks : List Int} (h : Ky kvs ks) : ks.length ≤ 41 := by
  have := nd_le (m := (List.range 41).map fun n : Nat => (n : Int)) h.nd fun x hx => by
    have := h.le x hx
    exact List.mem_map.mpr ⟨x.toNat, List.mem_range.mpr (by omega), by omega⟩
  rw [List.length_map, List.length_range] at this
  exact this
theorem Ky.lenK {kvs : List (Key × V)} {ks : List Int} (h : Ky kvs ks) : kvs.length = ks.length := by
  have := congrArg List.length h.eq
  rw [List.length_map, List.length_map] at this
  exact this
theorem Ky.put {kvs : List (Key × V)} {ks : List Int} (h : Ky kvs ks) {x : Int} (hx : 0 ≤ x ∧ x ≤ 40) (v : V) : ∃ ks', Ky (putK kvs (Sum.inl x) v) ks' ∧ ∀ y, y ∈ ks' ↔ y ∈ ks ∨ y = x := by
  by_cases hm : x ∈ ks
  · refine ⟨ks, ⟨?_, h.nd, h.le⟩, fun y => ⟨.inl, fun z => z.elim id fun e => by rw [e]; exact hm⟩⟩
    have ha : (kvs.any fun kv => decide (kv.1 = (Sum.inl x : Key))) = true := by
      have : (Sum.inl x : Key) ∈ kvs.map (·.1) := by rw [h.eq]; exact List.mem_map.mpr ⟨x, hm, rfl⟩
      obtain ⟨e, he, e2⟩ := List.mem_map.mp this
      exact List.any_eq_true.mpr ⟨e, he, decide_eq_true e2⟩
    unfold putK
    rw [if_pos ha, List.map_map, ← h.eq]
    refine List.map_congr_left fun kv _ => ?_
    show (if kv.1 = (Sum.inl x : Key) then (kv.1, v) else kv).1 = kv.1
    split <;> rfl
  · have hn : valV kvs (Sum.inl x : Key) = none := by
      cases e : valV kvs (Sum.inl x : Key) with
      | none => rfl
      | some u =>
        have ha : (kvs.any fun kv => decide (kv.1 = (Sum.inl x : Key))) = true := by rw [valV_any, e]; rfl
        obtain ⟨kv, hkv, e2⟩ := List.any_eq_true.mp ha
        have : (Sum.inl x : Key) ∈ ks.map Sum.inl := by rw [← h.eq]; exact List.mem_map.mpr ⟨kv, hkv, of_decide_eq_true e2⟩
        obtain ⟨z, hz, e3⟩ := List.mem_map.mp this
        cases e3
        exact absurd hz hm
    refine ⟨ks ++ [x], ⟨?_, ?_, fun y hy => ?_⟩, fun y => by rw [List.mem_append, List.mem_singleton]⟩
    · rw [putK_new v hn, List.map_append, List.map_append, h.eq]; rfl
    · refine List.nodup_append.mpr ⟨h.nd, by simp, fun a ha b hb => ?_⟩
      rw [List.mem_singleton.mp hb]
      rintro rfl
      exact hm ha
    · rcases List.mem_append.mp hy with hy | hy
      · exact h.le y hy
      · rw [List.mem_singleton.mp hy]; exact hx
theorem Ky.merge : ∀ {more kvs : List (Key × V)} {ks ms : List Int}, Ky kvs ks → more.map (·.1) = ms.map Sum.inl → (∀ x ∈ ms, 0 ≤ x ∧ x ≤ 40) → ∃ ks', Ky (mergeK kvs more) ks' ∧ ∀ y, y ∈ ks' ↔ y ∈ ks ∨ y ∈ ms
  | [], kvs, ks, ms, h, e, _ => by
    cases ms with
    | nil => exact ⟨ks, h, fun y => ⟨.inl, fun z => z.elim id fun z => absurd z List.not_mem_nil⟩⟩
    | cons _ _ => cases e
  | (k, v) :: more, kvs, ks, ms, h, e, hl => by
    cases ms with
    | nil => cases e
    | cons m ms =>
      rw [List.map_cons, List.map_cons, List.cons.injEq] at e
      have e1 : k = Sum.inl m := e.1
      subst e1
      obtain ⟨ks1, k1, m1⟩ := h.put (hl m List.mem_cons_self) v
      obtain ⟨ks2, k2, m2⟩ := Ky.merge (more := more) k1 e.2 fun x hx => hl x (List.mem_cons_of_mem _ hx)
      exact ⟨ks2, k2, fun y => by rw [m2, m1, List.mem_cons, or_assoc]⟩
def nms : Sy → List Sy
  | .map es => es.map fun e => .name e.1
  | _ => []
theorem szs_nms (es : List (Str × Sy)) : szs (es.map fun e => Sy.name e.1) = es.length := by
  induction es with
  | nil => rfl
  | cons e es ih =>
    have : (Sy.name e.1).size = 1 + 0 := Sy.size_eq (.name e.1)
    show (Sy.name e.1).size + szs (es.map fun e => Sy.name e.1) = es.length + 1
    omega
def spUnk (K : PySem.W.Frag) : Sp := fun vs H Q _ => ∃ (v : V) (t : Sy), vs = [v] ∧ Dt K H v t.d ∧ SN t ∧ t.size ≤ 3000000 ∧
  ∀ (H' : Hp) (p : Addr) (ys : List Int), Same H H' → H' p = some (.lst (ys.map V.int)) → ys.Pairwise (· ≤ ·) → ys.Nodup → (∀ x, x ∈ ys ↔ x ∈ t.fnd) → Q (.ref p) H'
section
variable {P : Program} {w : World} {K : PySem.W.Frag} {mg : Str → Option Value} {base : Heap} {aF : Addr}
abbrev s_unknowns_in : Stmt := topS 12
theorem sc_unknowns_in : FnScope ["term", "found", "waiting", "part", "u", "_", "name"] ["term"] (defScope s_unknowns_in) := ⟨rfl, rfl, rfl, by decide +kernel, rfl, by decide +kernel, by decide +kernel⟩
-- slots: 0:term 1:found 2:waiting 3:part 4:u(comp) 5:_(comp) 6:name(comp)
theorem ok_unk {f : Addr} {fd : FuncData} (F : Fun K "unknowns_in" "unknowns_in" s_unknowns_in f fd) (T : Txt K mg) (C_inner_terms : C8.Cal P w K mg base 1 "inner_terms" (spInn K) []) : FnOk P w K mg base CX0 2 f fd ["term"] (spUnk K) := by
  refine F.ok sc_unknowns_in (fun vs H Q E h => ?_) (fun cdv A outer s H vs Q E hr h => ?_)
  · obtain ⟨_, _, rfl, _⟩ := h
    rfl
  obtain ⟨v, t, rfl, hv, sn, hz, q⟩ := h
  refine ⟨_, (pss_cons (ps_set (i := 1) sc_unknowns_in.nd rfl (Or.inl rfl) pe_dnewK)
    (pss_cons (ps_set (i := 2) sc_unknowns_in.nd rfl (Or.inl rfl) (pe_lst (pa_cons (pv 0) pa_nil)))
    (pss_cons (ps_while PassesOwn.never (pt_truth (pv 2) (by intro _; rfl)) (pss_cons (ps_set (i := 3) sc_unknowns_in.nd rfl (Or.inl rfl) (pe_bm0 PySem.F.plainAttrs_list PySem.F.slot_list_pop PySem.F.type_list_pop mt_pop (pv 2)))
    (C8.pss_cut (ps_if (pt_cmpR op_eq (pe_ix ix_tup (pv 3) pe_int (fun _ _ => rfl)) pe_str (nomark _)) (pss_one (ps_dput (hu_of hr) (pv 1) (pe_ix ix_tup (pv 3) pe_int (fun _ _ => rfl)) pe_bl rfl)) (pss_one (ps_if (pt_cmpR op_eq (pe_ix ix_tup (pv 3) pe_int (fun _ _ => rfl)) pe_str (nomark _)) (pss_one (ps_expr (pe_bm PySem.F.plainAttrs_dict PySem.F.slot_dict_update PySem.F.type_dict_update PKD.mt_update (pv 1) (pa_cons (pe_dc (own := [("u", 4), ("_", 5)]) (g := (gTup K 2 (gCons (gName 4) (gCons (gName 5) gNil)))) (tt := tYes) (by rfl) sc_unknowns_in.nd (pi_tup (pe_ix ix_tup (pv 3) pe_int (fun _ _ => rfl))) (blkOk_by (N := ["term", "found", "waiting", "part", "u", "_", "name"]) (sc := defScope s_unknowns_in) (by decide +kernel)) (fun _ _ _ _ _ => (pg_tup (by rfl) (pgs_cons (pg_name (i := 4) sc_unknowns_in.nd rfl (Or.inl rfl)) (pgs_cons (pg_name (i := 5) sc_unknowns_in.nd rfl (Or.inl rfl)) pgs_nil)))) (fun _ _ _ _ _ => pts_nil) (fun _ _ _ _ _ => (pv 4)) (fun _ _ _ _ _ => pe_bl)) pa_nil)))) (pss_one (ps_if (pt_cmpR op_eq (pe_ix ix_tup (pv 3) pe_int (fun _ _ => rfl)) pe_str (nomark _)) (pss_cons (ps_if (pt_cmpR op_notN (pe_ix ix_tup (pv 3) pe_int (fun _ _ => rfl)) pe_non (nomark _)) (pss_one (ps_dput (hu_of hr) (pv 1) (pe_ix ix_tup (pv 3) pe_int (fun _ _ => rfl)) pe_bl rfl)) pss_nil)
    (pss_one (ps_expr (pe_bm PySem.F.plainAttrs_list PySem.F.slot_list_extend PySem.F.type_list_extend mt_extend (pv 2) (pa_cons (pe_lc (own := [("name", 6), ("_", 5)]) (g := (gTup K 2 (gCons (gName 6) (gCons (gName 5) gNil)))) (tt := tYes) (by rfl) sc_unknowns_in.nd (pi_tup (pe_ix ix_tup (pv 3) pe_int (fun _ _ => rfl))) (blkOk_by (N := ["term", "found", "waiting", "part", "u", "_", "name"]) (sc := defScope s_unknowns_in) (by decide +kernel)) (fun _ _ _ _ _ => (pg_tup (by rfl) (pgs_cons (pg_name (i := 6) sc_unknowns_in.nd rfl (Or.inl rfl)) (pgs_cons (pg_name (i := 5) sc_unknowns_in.nd rfl (Or.inl rfl)) pgs_nil)))) (fun _ _ _ _ _ => pts_nil) (fun _ _ _ _ _ => (pv 6))) pa_nil))))) pss_nil)))))
    (pss_one (ps_expr (pe_bm PySem.F.plainAttrs_list PySem.F.slot_list_extend PySem.F.type_list_extend mt_extend (pv 2) (pa_cons (C8.pe_c C_inner_terms hr (by decide) rfl (pa_cons (pv 3) pa_nil)) pa_nil)))))))
    (pss_one (ps_ret (pe_callB (call_sortedDI (by rfl)) (by rfl) T.z_sorted (by decide +kernel) (pa_cons (pv 1) pa_nil))))))), ?_⟩
  refine fun D hD => ?_
  have s0 := same_new (o := .dK []) hD
  refine ⟨_, rfl, small (by show 1 ≤ _; decide), fun Wa hW => ?_⟩
  have hWH : H Wa = none := by
    cases e : H Wa with
    | none => rfl
    | some o => rw [s0 _ _ e] at hW; cases hW
  have nDW : D ≠ Wa := ne_of_none (upd_same (H := H) (a := D) (o := .dK [])) hW
  have s1 := s0.trans (same_new (o := .lst [v]) hW)
  refine ⟨fun n σ H' => ∃ (ts : List Sy) (xs : List V) (kvs : List (Key × V)) (ks : List Int) (o3 : Option V), n = szs ts ∧ σ = [some v, some (.ref D), some (.ref Wa), o3, none, none, none] ∧ Same H H' ∧ H' Wa = some (.lst xs) ∧ H' D = some (.dK kvs) ∧ Ky kvs ks ∧ DtAll K H' xs (ts.map Sy.d) ∧ szs ts ≤ 3000000 ∧ (∀ x ∈ ts, SN x) ∧ ∀ x, x ∈ t.fnd ↔ x ∈ ks ∨ ∃ u ∈ ts, x ∈ u.fnd, ⟨_, [t], [v], [], [], _, rfl, rfl, s1, upd_same, same_new (o := .lst [v]) hW _ _ (upd_same (H := H) (a := D) (o := .dK [])), ⟨rfl, List.nodup_nil, fun x h => absurd h List.not_mem_nil⟩, .cons (hv.same s1) .nil, ?_, fun x hx => ?_, fun x => ?_⟩, ?_⟩
  · show t.size + 0 ≤ _; omega
  · rw [List.mem_singleton.mp hx]; exact sn
  · exact ⟨fun h => .inr ⟨t, List.mem_singleton.mpr rfl, h⟩, fun h => h.elim (fun h => absurd h List.not_mem_nil) fun ⟨u, hu, h⟩ => by rw [List.mem_singleton.mp hu] at h; exact h⟩
  rintro n σ H1 ⟨ts, xs, kvs, ks, o3, rfl, rfl, s, hW1, hD1, ky, dx, hsz, ok, mem⟩
  refine ⟨_, rfl, !xs.isEmpty, .inl ⟨xs, SqL.of hW1, rfl⟩, ?_⟩
  rcases List.eq_nil_or_concat ts with rfl | ⟨r, k, rfl⟩
  · cases dx
    have l41 := ky.len
    refine iteF ⟨_, rfl, D, kvs, ks, rfl, .inl hD1, ky.eq, by omega, fun ys p pm so hp => ?_⟩
    refine q _ p ys (s.trans (same_new hp)) upd_same so (pm.nodup_iff.mpr ky.nd) fun x => ?_
    rw [pm.mem_iff, mem x]
    exact ⟨.inl, fun z => z.elim id fun ⟨u, hu, _⟩ => absurd hu List.not_mem_nil⟩
  rw [List.concat_eq_append] at dx hsz ok mem ⊢
  rw [List.map_append] at dx
  obtain ⟨us, zs, rfl, d1, d2⟩ := DtAll.splitR dx
  cases d2 with
  | cons dz dn =>
  cases dn
  rename_i z
  rw [show (!(us ++ [z]).isEmpty) = true by simp]
  have lus : us.length = r.length := by rw [d1.lenD, List.length_map]
  have lr := szs_len r
  have e0 := szs_snoc r k
  have kwt := k.wt_pos
  have lkk := szs_len k.kids
  have snk := ok k (List.mem_append_right _ (List.mem_singleton.mpr rfl))
  have l10 := snk.len
  refine iteT ⟨fun σ' H' => ∃ m', m' < szs (r ++ [k]) ∧ ∃ (ts : List Sy) (xs : List V) (kvs : List (Key × V)) (ks : List Int) (o3 : Option V), m' = szs ts ∧ σ' = [some v, some (.ref D), some (.ref Wa), o3, none, none, none] ∧ Same H H' ∧ H' Wa = some (.lst xs) ∧ H' D = some (.dK kvs) ∧ Ky kvs ks ∧ DtAll K H' xs (ts.map Sy.d) ∧ szs ts ≤ 3000000 ∧ (∀ x ∈ ts, SN x) ∧ ∀ x, x ∈ t.fnd ↔ x ∈ ks ∨ ∃ u ∈ ts, x ∈ u.fnd, fun _ _ h => h, ?_⟩
  refine ⟨_, rfl, .inl ⟨rfl, _, SqL.of hW1⟩, Wa, _, z, rfl, rfl, hW1, by rw [List.length_append]; simp, ?_⟩
  rw [List.dropLast_concat]
  have s2 : Same H (upd H1 Wa (.lst us)) := Same.upd s hWH
  have dz2 : Dt K (upd H1 Wa (.lst us)) z k.d := Dt.mono (fun _ _ y => seqT_upd y hW1) _ _ dz
  have d12 : DtAll K (upd H1 Wa (.lst us)) us (r.map Sy.d) := DtAll.mono (fun _ _ y => seqT_upd y hW1) _ _ d1
  have hW2 : (upd H1 Wa (.lst us)) Wa = some (.lst us) := upd_same
  have hD2 : (upd H1 Wa (.lst us)) D = some (.dK kvs) := by rw [upd_ne nDW]; exact hD1
  generalize upd H1 Wa (.lst us) = H2 at s2 dz2 d12 hW2 hD2 ⊢
  obtain ⟨a, r', rfl, hsq⟩ := Sy.hd dz2
  have l41 := ky.len
  have lkv := ky.lenK
  refine ⟨fun σ' H' => ∃ (xs' : List V) (kvs' : List (Key × V)) (ks' : List Int), σ' = [some v, some (.ref D), some (.ref Wa), some (.ref a), none, none, none] ∧ Same H H' ∧ H' Wa = some (.lst xs') ∧ H' D = some (.dK kvs') ∧ Ky kvs' ks' ∧ (∀ y, y ∈ ks' ↔ y ∈ ks ∨ y ∈ k.own) ∧ DtAll K H' xs' ((r ++ nms k).map Sy.d) ∧ Dt K H' (.ref a) k.d, ?_, ?_⟩
  · have sk := snk.at_
    cases k with
    | unk n =>
      unfold Sy.d at dz2
      have dz3 := dz2
      obtain ⟨a', x, y, e, hsq2, h1, h2⟩ := Dt.t2 dz2
      cases e
      cases h2
      obtain ⟨ks', k1, m1⟩ := ky.put sk (.bl true)
      have lz := length_putK kvs (Sum.inl n : Key) (.bl true)
      refine vTx rfl hsq (atI_nat (j := 0) rfl) ⟨rfl, _, rfl, sT rfl ⟨_, rfl, vTx rfl hsq2 rfl ⟨D, _, rfl, DPut.k (k := Sum.inl n) hD2 (smallL (by omega)), us, _, ks', rfl, Same.upd s2 hD, by rw [upd_ne nDW.symm]; exact hW2, upd_same, k1, fun y => by rw [m1]; exact or_congr Iff.rfl ⟨fun e => by rw [e]; exact List.mem_singleton.mpr rfl, List.mem_singleton.mp⟩, ?_, ?_⟩⟩⟩
      · show DtAll K _ us ((r ++ []).map Sy.d)
        rw [List.append_nil]
        exact DtAll.mono (fun _ _ y => seqT_updK y hD2) _ _ d12
      · unfold Sy.d
        exact Dt.mono (fun _ _ y => seqT_updK y hD2) _ _ dz3
    | sum ps n =>
      have dz3 := dz2
      unfold Sy.d at dz2
      obtain ⟨a', x, y, z, e, hsq2, h1, h2, h3⟩ := Dt.t3 dz2
      cases e
      obtain ⟨b, ys, rfl, hb, hys⟩ := Dt.tn h2
      have ly : ys.length = ps.length := by rw [hys.lenD, List.length_map]
      have l3 : ps.length ≤ 3 := sk.1
      refine vTx rfl hsq (atI_nat (j := 0) rfl) ⟨rfl, _, rfl, sF (show ("sum" : Str) ≠ "unknown" by decide +kernel) (vTx rfl hsq (atI_nat (j := 0) rfl) ⟨rfl, _, rfl, sT rfl ?_⟩)⟩
      refine ⟨_, rfl, .inr (.inr (.inl ⟨rfl, .inl ⟨_, hD2⟩⟩)), vTx rfl hsq2 rfl ⟨b, rfl, ⟨_, hb⟩, fun D2 hD22 => dc_tup (K := K) (a := b) (xs := ys) (fun i H' => ∃ kv2 ks2, Same H2 H' ∧ H' D2 = some (.dK kv2) ∧ Ky kv2 ks2 ∧ ∀ y, y ∈ ks2 ↔ y ∈ (ps.take i).map Prod.fst) ?_ ?_ ?_ ?_⟩⟩
      · exact ⟨[], [], same_new hD22, upd_same, ⟨rfl, List.nodup_nil, fun x h => absurd h List.not_mem_nil⟩, fun y => Iff.rfl⟩
      · rintro i H' _ ⟨_, _, s3, _⟩
        exact Same.seqT s3 hb
      · rintro i x H3 gx ⟨kv2, ks2, s3, hD3, ky2, m2⟩
        obtain ⟨dd, gd, dx⟩ := DtAll.getX hys gx
        rw [List.getElem?_map] at gd
        cases e1 : ps[i]? with
        | none => rw [e1] at gd; cases gd
        | some p =>
        rw [e1] at gd
        cases gd
        unfold prD at dx
        obtain ⟨a3, x3, y3, rfl, hs3, h31, h32⟩ := Dt.t2 (dx.same s3)
        cases h31
        have hp := sk.2.1 p (List.mem_of_getElem? e1)
        obtain ⟨ks3, k3, m3⟩ := ky2.put hp (.bl true)
        have := ky2.len
        have := ky2.lenK
        refine ⟨a3, _, rfl, hs3, rfl, _, _, rfl, _, _, rfl, rfl, rfl, _, rfl, kv2, Sum.inl p.1, rfl, hD3, smallL (by omega), _, ks3, Same.upd s3 hD22, upd_same, k3, fun y => ?_⟩
        rw [m3, m2, List.take_add_one, e1, List.map_append, List.mem_append]
        exact or_congr Iff.rfl ⟨fun e => by rw [e]; exact List.mem_singleton.mpr rfl, List.mem_singleton.mp⟩
      rintro H3 ⟨kv2, ks2, s3, hD3, ky2, m2⟩
      rw [ly, List.take_length] at m2
      have hD23 := s3 _ _ hD2
      have nD2 : D ≠ D2 := ne_of_none hD2 hD22
      obtain ⟨ks', k1, m1⟩ := ky.merge ky2.eq ky2.le
      have := ky2.len
      have := ky2.lenK
      refine ⟨D, D2, kvs, kv2, rfl, rfl, nD2, hD23, hD3, small (by omega), us, _, ks', rfl, Same.upd (s2.trans s3) hD, by rw [upd_ne nDW.symm]; exact s3 _ _ hW2, upd_same, k1, fun y => by rw [m1, m2]; exact Iff.rfl, ?_, ?_⟩
      · show DtAll K _ us ((r ++ []).map Sy.d)
        rw [List.append_nil]
        exact DtAll.mono (fun _ _ y => seqT_updK y hD23) _ _ (d12.same s3)
      · exact Dt.mono (fun _ _ y => seqT_updK y hD23) _ _ (dz3.same s3)
    | map es =>
      have dz3 := dz2
      unfold Sy.d at dz2
      obtain ⟨a', x, y, z, e, hsq2, h1, h2, h3⟩ := Dt.t3 dz2
      cases e
      cases h2
      obtain ⟨b, ys, rfl, hb, hys⟩ := Dt.tn h3
      rw [Sy.es_map] at hys
      have ly : ys.length = es.length := by rw [hys.lenD, List.length_map]
      have l10' : es.length ≤ 10 := sk.1
      refine vTx rfl hsq (atI_nat (j := 0) rfl) ⟨rfl, _, rfl, sF (show ("map" : Str) ≠ "unknown" by decide +kernel) (vTx rfl hsq (atI_nat (j := 0) rfl) ⟨rfl, _, rfl, sF (show ("map" : Str) ≠ "sum" by decide +kernel) (vTx rfl hsq (atI_nat (j := 0) rfl) ⟨rfl, _, rfl, sT rfl ?_⟩)⟩)⟩
      refine vTx rfl hsq2 rfl ⟨rfl, _, rfl, iteF ?_⟩
      refine ⟨_, rfl, .inl ⟨rfl, _, SqL.of hW2⟩, vTx rfl hsq2 rfl ⟨b, rfl, ⟨_, hb⟩, fun D3 hD3 => lcS (K := K) (walk_tup (xs := ys)) hD3 (by omega) (fun ds => ds = ((es.take ds.length).map fun e => (Sy.name e.1).d)) rfl (fun H' s => Same.seqT s hb) ?_ ?_⟩⟩
      · rintro i x H3 H3 ds R' hi s3 ⟨rfl, gx⟩ jd len r''
        obtain ⟨d, gd, dx⟩ := DtAll.getX hys gx
        rw [List.getElem?_map] at gd
        cases e1 : es[i]? with
        | none => rw [e1] at gd; cases gd
        | some en =>
        rw [e1] at gd
        cases gd
        unfold Sy.ent at dx
        obtain ⟨a3, x3, y3, rfl, hs3, h31, h32⟩ := Dt.t2 (dx.same s3)
        refine ⟨a3, _, rfl, hs3, rfl, _, _, rfl, _, _, rfl, rfl, rfl, _, rfl, r'' (Sy.name en.1).d _ _ (Same.refl H3) (by unfold Sy.d; exact h31) ?_⟩
        rw [List.length_append, len, show i + [(Sy.name en.1).d].length = i + 1 from rfl, List.take_add_one, e1, List.map_append]
        rw [len] at jd
        rw [← jd]; rfl
      rintro H3 ws ds s3 hws da len jd
      rw [len, ly, List.take_length] at jd
      rw [jd] at da
      have lw : ws.length = es.length := by rw [da.lenD, List.length_map]
      have hW3 := s3 _ _ hW2
      refine ⟨Wa, D3, us, ws, rfl, rfl, hW3, hws, small (by omega), us ++ ws, kvs, ks, rfl, Same.upd (s2.trans s3) hWH, upd_same, by rw [upd_ne nDW]; exact s3 _ _ hD2, ky, fun y => ⟨.inl, fun z => z.elim id fun z => absurd z List.not_mem_nil⟩, ?_, ?_⟩
      · rw [List.map_append]
        refine DtAll.upd ((d12.same s3).append ?_) hW3
        show DtAll K H3 ws ((es.map fun e => Sy.name e.1).map Sy.d)
        rw [List.map_map]; exact da
      · exact Dt.mono (fun _ _ y => seqT_upd y hW3) _ _ (dz3.same s3)
    | node c ts =>
      refine vTx rfl hsq (atI_nat (j := 0) rfl) ⟨rfl, _, rfl, sF (show ("node" : Str) ≠ "unknown" by decide +kernel) (vTx rfl hsq (atI_nat (j := 0) rfl) ⟨rfl, _, rfl, sF (show ("node" : Str) ≠ "sum" by decide +kernel) (vTx rfl hsq (atI_nat (j := 0) rfl) ⟨rfl, _, rfl, sF (show ("node" : Str) ≠ "map" by decide +kernel) ?_⟩)⟩)⟩
      exact ⟨us, kvs, ks, rfl, s2, hW2, hD2, ky, fun y => ⟨.inl, fun z => z.elim id fun z => absurd z List.not_mem_nil⟩, by show DtAll K _ us ((r ++ []).map Sy.d); rw [List.append_nil]; exact d12, dz2⟩
    | name s =>
      refine vTx rfl hsq (atI_nat (j := 0) rfl) ⟨rfl, _, rfl, sF (show ("name" : Str) ≠ "unknown" by decide +kernel) (vTx rfl hsq (atI_nat (j := 0) rfl) ⟨rfl, _, rfl, sF (show ("name" : Str) ≠ "sum" by decide +kernel) (vTx rfl hsq (atI_nat (j := 0) rfl) ⟨rfl, _, rfl, sF (show ("name" : Str) ≠ "map" by decide +kernel) ?_⟩)⟩)⟩
      exact ⟨us, kvs, ks, rfl, s2, hW2, hD2, ky, fun y => ⟨.inl, fun z => z.elim id fun z => absurd z List.not_mem_nil⟩, by show DtAll K _ us ((r ++ []).map Sy.d); rw [List.append_nil]; exact d12, dz2⟩
    | addr s =>
      refine vTx rfl hsq (atI_nat (j := 0) rfl) ⟨rfl, _, rfl, sF (show ("addr" : Str) ≠ "unknown" by decide +kernel) (vTx rfl hsq (atI_nat (j := 0) rfl) ⟨rfl, _, rfl, sF (show ("addr" : Str) ≠ "sum" by decide +kernel) (vTx rfl hsq (atI_nat (j := 0) rfl) ⟨rfl, _, rfl, sF (show ("addr" : Str) ≠ "map" by decide +kernel) ?_⟩)⟩)⟩
      exact ⟨us, kvs, ks, rfl, s2, hW2, hD2, ky, fun y => ⟨.inl, fun z => z.elim id fun z => absurd z List.not_mem_nil⟩, by show DtAll K _ us ((r ++ []).map Sy.d); rw [List.append_nil]; exact d12, dz2⟩
  rintro σ' H3 ⟨xs', kvs', ks', rfl, s3, hW3, hD3, ky3, m3, dx3, dz3⟩
  have lx := dx3.lenD
  rw [List.length_map, List.length_append] at lx
  have hn : szs (nms k) + 1 ≤ k.wt ∧ (nms k).length ≤ 10 ∧ (∀ x ∈ nms k, SN x) ∧ ∀ u ∈ nms k, ∀ x, x ∉ u.fnd := by
    cases k with
    | map es =>
      have sk := snk.at_
      refine ⟨by show szs (es.map fun e => Sy.name e.1) + 1 ≤ 1 + es.length; rw [szs_nms]; omega, by show (es.map fun e => Sy.name e.1).length ≤ 10; rw [List.length_map]; exact sk.1, fun x hx => ?_, fun u hu x hx => ?_⟩
      · obtain ⟨e, he, rfl⟩ := List.mem_map.mp (show x ∈ es.map fun e => Sy.name e.1 from hx)
        exact .mk (sk.2 e he) fun k hk => absurd hk List.not_mem_nil
      · obtain ⟨e, he, rfl⟩ := List.mem_map.mp (show u ∈ es.map fun e => Sy.name e.1 from hu)
        rw [Sy.fnd_eq] at hx
        exact absurd hx List.not_mem_nil
    | _ => exact ⟨Nat.le_refl 1, Nat.zero_le _, (fun x hx => absurd hx List.not_mem_nil), fun u hu => absurd hu List.not_mem_nil⟩
  refine ⟨_, rfl, .inl ⟨rfl, _, SqL.of hW3⟩, _, rfl, .ref a, k, rfl, dz3, by omega, fun H4 p4 ws4 s4 hp4 hp44 dws4 => ?_⟩
  have lw4 : ws4.length = k.kids.length := by rw [dws4.lenD, List.length_map]
  have hW4 := s4 _ _ hW3
  refine ⟨Wa, p4, xs', ws4, rfl, rfl, hW4, hp44, small (by omega), szs ((r ++ nms k) ++ k.kids), by rw [szs_app, szs_app, e0]; omega, (r ++ nms k) ++ k.kids, xs' ++ ws4, kvs', ks', _, rfl, rfl, Same.upd (s3.trans s4) hWH, upd_same, by rw [upd_ne nDW]; exact s4 _ _ hD3, ky3, ?_, by rw [szs_app, szs_app]; omega, fun x hx => ?_, fun x => ?_⟩
  · rw [List.map_append]
    exact ((dx3.same s4).append dws4).upd hW4
  · rcases List.mem_append.mp hx with hx | hx
    · rcases List.mem_append.mp hx with hx | hx
      · exact ok x (List.mem_append_left _ hx)
      · exact hn.2.2.1 x hx
    · exact snk.kid hx
  · rw [mem x, m3 x]
    constructor
    · rintro (h | ⟨u, hu, h⟩)
      · exact .inl (.inl h)
      · rcases List.mem_append.mp hu with hu | hu
        · exact .inr ⟨u, List.mem_append_left _ (List.mem_append_left _ hu), h⟩
        · rw [List.mem_singleton.mp hu, Sy.fnd_eq] at h
          rcases List.mem_append.mp h with h | h
          · exact .inl (.inr h)
          · obtain ⟨l, hl, hx⟩ := List.mem_flatten.mp h
            obtain ⟨k', hk', rfl⟩ := List.mem_map.mp hl
            exact .inr ⟨k', List.mem_append_right _ hk', hx⟩
    · rintro ((h | h) | ⟨u, hu, h⟩)
      · exact .inl h
      · exact .inr ⟨k, List.mem_append_right _ (List.mem_singleton.mpr rfl), by rw [Sy.fnd_eq]; exact List.mem_append_left _ h⟩
      · rcases List.mem_append.mp hu with hu | hu
        · rcases List.mem_append.mp hu with hu | hu
          · exact .inr ⟨u, List.mem_append_left _ hu, h⟩
          · exact absurd h (hn.2.2.2 u hu x)
        · exact .inr ⟨k, List.mem_append_right _ (List.mem_singleton.mpr rfl), by rw [Sy.fnd_eq]; exact List.mem_append_right _ (List.mem_flatten.mpr ⟨_, List.mem_map.mpr ⟨u, hu, rfl⟩, h⟩)⟩
end
end PK
namespace PK
open PySem L2
/-! the program: a part put elsewhere -/
def kidAt (t : Sy) (k : Nat) : Sy := (t.kids[k]?).getD t
def sub (t : Sy) (way : List Nat) (i : Nat) : Sy := (way.take i).foldl kidAt t
theorem sub_succ {t : Sy} {way : List Nat} {i : Nat} (h : i < way.length) : sub t way (i + 1) = kidAt (sub t way i) way[i] := by
  unfold sub
  rw [List.take_add_one, List.getElem?_eq_getElem h, List.foldl_append]; rfl
theorem sub_cons (t : Sy) (k : Nat) (w : List Nat) (i : Nat) : sub t (k :: w) (i + 1) = sub (kidAt t k) w i := by
  unfold sub
  rw [List.take_succ_cons]; rfl
/-- a way that stands -/
def Wy (t : Sy) (way : List Nat) : Prop := ∀ i (h : i < way.length), ∃ c ts, sub t way i = .node c ts ∧ way[i] < ts.length
def put (p : Sy) : List Nat → Sy → Sy
  | [], _ => p
  | k :: w, .node c ts => .node c (ts.set k (put p w (ts[k]?.getD p)))
  | _ :: _, t => t
theorem put_at {p t : Sy} {way : List Nat} {i : Nat} (h : i < way.length) {c : Str} {ts : List Sy} (e : sub t way i = .node c ts) (hk : way[i] < ts.length) : put p (way.drop i) (sub t way i) = .node c (ts.set way[i] (put p (way.drop (i + 1)) (sub t way (i + 1)))) := by
  rw [List.drop_eq_getElem_cons h, sub_succ h, e]
  show Sy.node c (ts.set way[i] (put p (way.drop (i + 1)) (ts[way[i]]?.getD p))) = _
  have : kidAt (.node c ts) way[i] = ts[way[i]]?.getD p := by
    show (ts[way[i]]?).getD _ = _
    rw [List.getElem?_eq_getElem hk]; rfl
  rw [this]
theorem Wy.tail {t : Sy} {k : Nat} {w : List Nat} (h : Wy t (k :: w)) : Wy (kidAt t k) w := fun i hi => by
  obtain ⟨c, ts, e, l⟩ := h (i + 1) (by rw [List.length_cons]; omega)
  exact ⟨c, ts, by rw [← sub_cons]; exact e, l⟩
theorem Wy.head {t : Sy} {k : Nat} {w : List Nat} (h : Wy t (k :: w)) : ∃ c ts, t = .node c ts ∧ k < ts.length := h 0 (Nat.succ_pos _)
theorem put_sn {p : Sy} (sp : SN p) : ∀ {way : List Nat} {t : Sy}, SN t → Wy t way → SN (put p way t) ∧ (put p way t).ht ≤ t.ht + p.ht
  | [], t, _, _ => ⟨sp, by show p.ht ≤ _; omega⟩
  | k :: w, t, st, wy => by
    obtain ⟨c, ts, rfl, hk⟩ := wy.head
    have ek : kidAt (.node c ts) k = ts[k] := by show (ts[k]?).getD _ = _; rw [List.getElem?_eq_getElem hk]; rfl
    have hm : ts[k] ∈ (Sy.node c ts).kids := List.getElem_mem hk
    have wt := wy.tail
    rw [ek] at wt
    obtain ⟨h1, h2⟩ := put_sn sp (st.kid hm) wt
    have h3 := Sy.ht_kid hm
    have e1 : put p (k :: w) (.node c ts) = .node c (ts.set k (put p w ts[k])) := by
      show Sy.node c (ts.set k (put p w (ts[k]?.getD p))) = _
      rw [List.getElem?_eq_getElem hk]; rfl
    rw [e1]
    have sk := st.at_
    refine ⟨.mk ⟨sk.1, by rw [List.length_set]; exact sk.2⟩ fun x hx => ?_, ?_⟩
    · rcases List.mem_or_eq_of_mem_set (show x ∈ ts.set k (put p w ts[k]) from hx) with h | rfl
      · exact st.kid (show x ∈ (Sy.node c ts).kids from h)
      · exact h1
    · have := Sy.ht_le (t := .node c (ts.set k (put p w ts[k]))) (n := (Sy.node c ts).ht - 1 + p.ht) fun x hx => by
        rcases List.mem_or_eq_of_mem_set (show x ∈ ts.set k (put p w ts[k]) from hx) with h | rfl
        · have := Sy.ht_kid (show x ∈ (Sy.node c ts).kids from h); omega
        · omega
      have := (Sy.node c ts).ht_pos
      omega
theorem sub_sn {t : Sy} (h : SN t) : ∀ (way : List Nat) (i : Nat), SN (sub t way i)
  | way, 0 => by rw [show sub t way 0 = t from by unfold sub; rw [List.take_zero]; rfl]; exact h
  | way, i + 1 => by
    have ih := sub_sn h way i
    by_cases hi : i < way.length
    · rw [sub_succ hi]
      unfold kidAt
      cases e : (sub t way i).kids[way[i]]? with
      | none => exact ih
      | some k => exact ih.kid (List.mem_of_getElem? e)
    · have : sub t way (i + 1) = sub t way i := by
        unfold sub
        rw [List.take_of_length_le (by omega), List.take_of_length_le (by omega)]
      rw [this]; exact ih
def wyD (way : List Nat) : PyData := .tuple (way.map fun k => .int (k : Nat))
theorem catA {K : PySem.W.Frag} {H : Hp} {a b : Addr} {xs ys : List V} {Q : VK} (ha : SqT K H a xs) (hb : SqT K H b ys) (hl : xs.length + ys.length ≤ sizeLine) (q : ∀ (H' : Hp) (p : Addr), Same H H' → SqT K H' p (xs ++ ys) → Q (.ref p) H') : rCatA K (.ref a) (.ref b) H Q :=
  ⟨a, b, xs, ys, rfl, rfl, ha, hb, hl, fun e => q H b (Same.refl H) (by rw [e]; exact hb), fun _ e => q H a (Same.refl H) (by rw [e, List.append_nil]; exact ha), fun _ _ p hp => q _ p (same_new hp) (SqT.of upd_same)⟩
theorem cut_take (xs : List V) (i : Nat) (h : i ≤ xs.length) : cutV xs none (some (i : Int)) = xs.take i := by
  unfold cutV
  have e : HT.sIx xs.length xs.length (some (i : Int)) = i := by
    rw [HT.sIx_nat]; omega
  rw [e, HT.sIx_none, List.drop_zero, Nat.sub_zero]
theorem DtAll.take {K : PySem.W.Frag} {H : Hp} : ∀ {vs : List V} {ds : List PyData} (k : Nat), DtAll K H vs ds → DtAll K H (vs.take k) (ds.take k)
  | _, _, 0, _ => .nil
  | _, _, _ + 1, .nil => .nil
  | _, _, k + 1, .cons a b => .cons a (DtAll.take k b)
theorem DtAll.drop {K : PySem.W.Frag} {H : Hp} : ∀ {vs : List V} {ds : List PyData} (k : Nat), DtAll K H vs ds → DtAll K H (vs.drop k) (ds.drop k)
  | _, _, 0, h => h
  | _, _, _ + 1, .nil => .nil
  | _, _, k + 1, .cons _ b => DtAll.drop k b
theorem set_split {α : Type} {l : List α} {k : Nat} (h : k < l.length) (x : α) : l.set k x = l.take k ++ x :: l.drop (k + 1) := List.set_eq_take_append_cons_drop.trans (by rw [if_pos h])
def spWp (K : PySem.W.Frag) : Sp := fun vs H Q _ => ∃ (v wv pw : V) (t p : Sy) (way : List Nat), vs = [v, wv, pw] ∧ Dt K H v t.d ∧ Dt K H wv (wyD way) ∧ Dt K H pw p.d ∧ SN t ∧ Wy t way ∧ way.length ≤ 100 ∧ ∀ (H' : Hp) (v' : V), Same H H' → Dt K H' v' (put p way t).d → Q v' H'
section
variable {P : Program} {w : World} {K : PySem.W.Frag} {mg : Str → Option Value} {base : Heap} {aF : Addr}
abbrev s_with_part : Stmt := topS 3
theorem sc_with_part : FnScope ["term", "way", "part", "nodes", "place", "node"] ["term", "way", "part"] (defScope s_with_part) := ⟨rfl, rfl, rfl, by decide +kernel, rfl, by decide +kernel, by decide +kernel⟩
-- slots: 0:term 1:way 2:part 3:nodes 4:place 5:node
abbrev s_replaced : Stmt := topS 13
theorem sc_replaced : FnScope ["term", "way", "part"] ["term", "way", "part"] (defScope s_replaced) := ⟨rfl, rfl, rfl, by decide +kernel, rfl, by decide +kernel, by decide +kernel⟩
-- slots: 0:term 1:way 2:part
theorem ok_wp {f : Addr} {fd : FuncData} (F : Fun K "with_part" "with_part" s_with_part f fd) (T : TxtZ K mg aF) : FnOk P w K mg base CX0 1 f fd ["term", "way", "part"] (spWp K) := by
  refine F.ok sc_with_part (fun vs H Q E h => ?_) (fun cdv A outer s H vs Q E hr h => ?_)
  · obtain ⟨_, _, _, _, _, _, rfl, _⟩ := h
    rfl
  obtain ⟨v, wv, pw, t, p, way, rfl, hv, hw, hp, sn, wy, lw, q⟩ := h
  refine ⟨_, (pss_cons (ps_set (i := 3) sc_with_part.nd rfl (Or.inl rfl) (pe_lst pa_nil))
    (pss_cons (ps_for PassesOwn.never rfl (pi_tup (pv 1)) (pg_name (i := 4) sc_with_part.nd rfl (Or.inl rfl)) (pss_cons (ps_expr (pe_bm PySem.F.plainAttrs_list PySem.F.slot_list_append PySem.F.type_list_append mt_append (pv 3) (pa_cons (pv 0) pa_nil)))
    (pss_one (ps_set (i := 0) sc_with_part.nd rfl (Or.inl rfl) (pe_ix ix_tup (pe_ix ix_tup (pv 0) pe_int (fun _ _ => rfl)) (pv 4) (fun _ _ => rfl))))))
    (pss_cons (ps_for PassesOwn.never rfl (pi_list (pe_revL (PKZ.pe_listZip (by rfl) (by rfl) T.z_list (by decide +kernel) (by rfl) T.z_zip (pa_cons (pv 3) (pa_cons (pv 1) pa_nil))))) (pg_tup (by rfl) (pgs_cons (pg_name (i := 5) sc_with_part.nd rfl (Or.inl rfl)) (pgs_cons (pg_name (i := 4) sc_with_part.nd rfl (Or.inl rfl)) pgs_nil))) (pss_one (ps_set (i := 2) sc_with_part.nd rfl (Or.inl rfl) (pe_tup (pa_cons pe_str (pa_cons (pe_ix ix_tup (pv 5) pe_int (fun _ _ => rfl)) (pa_cons (pe_op op_catA (pe_op op_catA (pe_slice sl_tup (pe_ix ix_tup (pv 5) pe_int (fun _ _ => rfl)) po_none (po_some (pv 4))) (pe_tup (pa_cons (pv 2) pa_nil))) (pe_slice sl_tup (pe_ix ix_tup (pv 5) pe_int (fun _ _ => rfl)) (po_some (pe_op op_add (pv 4) pe_int)) po_none)) pa_nil)))))))
    (pss_one (ps_ret (pv 2)))))), ?_⟩
  obtain ⟨wa, wvs, rfl, hwa, dwv⟩ := Dt.tn hw
  have lwv : wvs.length = way.length := by rw [dwv.lenD, List.length_map]
  refine ⟨small (by show 0 ≤ _; decide), fun na hna => ?_⟩
  have s0 := same_new (o := .lst []) hna
  refine ⟨_, rfl, wa, rfl, ⟨_, Same.seqT s0 hwa⟩, for_it (walk_tup (K := K) (xs := wvs)) (fun i σ H' => ∃ (v' : V) (o4 : Option V) (ns : List V), σ = [some v', some (.ref wa), some pw, some (.ref na), o4, none] ∧ Same H H' ∧ H' na = some (.lst ns) ∧ Dt K H' v' (sub t way i).d ∧ DtAll K H' ns ((List.range i).map fun j => (sub t way j).d)) ?_ ?_ ?_ ?_⟩
  · exact ⟨v, _, [], rfl, s0, upd_same, hv.same s0, .nil⟩
  · rintro i σ H' _ ⟨_, _, _, _, s, _⟩
    exact Same.seqT s hwa
  · rintro i x σ H1 H1 hi ⟨v', o4, ns, rfl, s1, hna1, dv', dns⟩ ⟨rfl, gx⟩
    have hi2 : i < way.length := by omega
    obtain ⟨dd, gd, dx⟩ := dwv.getX gx
    rw [List.getElem?_map, List.getElem?_eq_getElem hi2] at gd
    cases gd
    cases dx
    obtain ⟨c, ts, e, hk⟩ := wy i hi2
    have lns : ns.length = i := by rw [dns.lenD, List.length_map, List.length_range]
    refine ⟨_, rfl, .inl ⟨rfl, _, SqL.of hna1⟩, _, rfl, na, ns, v', rfl, rfl, hna1, smallL (by omega), ?_⟩
    have s2 : Same H (upd H1 na (.lst (ns ++ [v']))) := Same.upd s1 hna
    have up : ∀ v d, Dt K H1 v d → Dt K (upd H1 na (.lst (ns ++ [v']))) v d := fun v d z => Dt.mono (fun _ _ y => seqT_upd y hna1) _ _ z
    have dv2 := up _ _ dv'
    rw [e] at dv2
    unfold Sy.d at dv2
    obtain ⟨a, x1, y1, z1, rfl, hsq, h1, h2, h3⟩ := Dt.t3 dv2
    obtain ⟨b, ys, rfl, hb, hys⟩ := Dt.tn h3
    rw [Sy.ds_map] at hys
    obtain ⟨y2, gy, dy⟩ := DtAll.getD hys (show (ts.map Sy.d)[way[i]]? = some ts[way[i]].d by rw [List.getElem?_map, List.getElem?_eq_getElem hk]; rfl)
    refine vTx rfl hsq rfl ⟨_, rfl, b, ys, _, y2, rfl, rfl, hb, atI_nat gy, y2, _, ns ++ [.ref a], rfl, s2, upd_same, ?_, ?_⟩
    · rw [sub_succ hi2, e]
      have : kidAt (.node c ts) way[i] = ts[way[i]] := by show (ts[way[i]]?).getD _ = _; rw [List.getElem?_eq_getElem hk]; rfl
      rw [this]; exact dy
    · rw [List.range_succ, List.map_append]
      exact DtAll.mono (fun _ _ y => seqT_upd y hna1) _ _ (dns.append (.cons dv' .nil))
  rintro σ H1 ⟨v', o4, ns, rfl, s1, hna1, dv', dns⟩
  rw [lwv] at dns dv'
  have lns : ns.length = way.length := by rw [dns.lenD, List.length_map, List.length_range]
  have hwa1 := Same.seqT s1 hwa
  refine ⟨_, rfl, _, rfl, na, wa, ns, wvs, rfl, .inl (SqL.of hna1), .inr hwa1, small (by omega), fun H2 pz zs s2 hpz hzs lzs hpz2 gz => ⟨pz, _, rfl, SqL.of hpz2, fun pr hpr => ?_⟩⟩
  have lz : zs.length = way.length := by omega
  have s3 := same_new (o := .lst (zs.map V.ref).reverse) hpr
  have s13 : Same H (upd H2 pr (.lst (zs.map V.ref).reverse)) := Same.trans (Same.trans s1 s2) s3
  have hpr3 : (upd H2 pr (.lst (zs.map V.ref).reverse)) pr = some (.lst (zs.map V.ref).reverse) := upd_same
  have gz3 : ∀ (j : Nat) (tz : Addr), zs[j]? = some tz → ∃ x y, ns[j]? = some x ∧ wvs[j]? = some y ∧ SqT K (upd H2 pr (.lst (zs.map V.ref).reverse)) tz [x, y] := fun j tz e => by
    obtain ⟨x, y, g1, g2, g3⟩ := gz j tz e
    exact ⟨x, y, g1, g2, Same.seqT s3 (.inl (.inl g3))⟩
  have dns3 := dns.same (Same.trans s2 s3)
  generalize upd H2 pr (.lst (zs.map V.ref).reverse) = H3 at s13 hpr3 gz3 dns3 ⊢
  refine ⟨pr, rfl, ⟨_, SqL.of hpr3⟩, for_it (walk_list (K := K) (xs := (zs.map V.ref).reverse)) (fun i σ H' => ∃ (o4 o5 : Option V) (pv' : V), σ = [some v', some (.ref wa), some pv', some (.ref na), o4, o5] ∧ Same H3 H' ∧ Dt K H' pv' (put p (way.drop (way.length - i)) (sub t way (way.length - i))).d) ?_ ?_ ?_ ?_⟩
  · refine ⟨_, _, pw, rfl, Same.refl H3, ?_⟩
    rw [Nat.sub_zero, List.drop_length]
    exact hp.same s13
  · rintro i σ H' _ ⟨_, _, _, _, s, _⟩
    exact SqL.of (s _ _ hpr3)
  · rintro i x σ H4 H4 hi ⟨o4', o5', pv', rfl, s4, dp⟩ ⟨rfl, gx⟩
    rw [List.length_reverse, List.length_map] at hi
    obtain ⟨j, ej⟩ : ∃ j, way.length - i = j + 1 := ⟨way.length - i - 1, by omega⟩
    have ej2 : way.length - (i + 1) = j := by omega
    have hj : j < way.length := by omega
    rw [List.getElem?_reverse (by rw [List.length_map]; exact hi), List.length_map, show zs.length - 1 - i = j by omega, List.getElem?_map] at gx
    cases e1 : zs[j]? with
    | none => rw [e1] at gx; cases gx
    | some tz =>
    rw [e1] at gx
    cases gx
    obtain ⟨x1, y1, g1, g2, g3⟩ := gz3 j tz e1
    obtain ⟨c, ts, e, hk⟩ := wy j hj
    obtain ⟨d1, gd1, dx1⟩ := dns3.getX g1
    rw [List.getElem?_map, List.getElem?_range hj] at gd1
    cases gd1
    obtain ⟨d2, gd2, dx2⟩ := dwv.getX g2
    rw [List.getElem?_map, List.getElem?_eq_getElem hj] at gd2
    cases gd2
    cases dx2
    have dx4 := dx1.same s4
    have dx4 : Dt K H4 x1 (sub t way j).d := dx4
    rw [e] at dx4
    unfold Sy.d at dx4
    obtain ⟨a, u1, u2, u3, rfl, hsq, h1, h2, h3⟩ := Dt.t3 dx4
    obtain rfl := h2.s
    obtain ⟨b, ys, rfl, hb, hys⟩ := Dt.tn h3
    rw [Sy.ds_map] at hys
    have ly : ys.length = ts.length := by rw [hys.lenD, List.length_map]
    have lt3 : ts.length ≤ 3 := by
      have := (sub_sn sn way j)
      rw [e] at this
      exact this.at_.2
    refine ⟨tz, _, rfl, Same.seqT s4 g3, rfl, _, _, rfl, _, _, rfl, rfl, ?_⟩
    refine vTx rfl hsq rfl (vTx rfl hsq rfl ⟨_, rfl, _, rfl, b, ys, rfl, hb, by rw [HT.sIx_nat]; omega, fun p1 hp1 => ⟨_, rfl, small (by show 1 ≤ _; decide), fun p2 hp2 => ?_⟩⟩)
    rw [cut_take _ _ (by omega)] at hp2 ⊢
    have s5 := same_new (o := .tup (ys.take way[j])) hp1
    have s6 := same_new (o := .tup [pv']) hp2
    refine catA (Same.seqT s6 (SqT.of upd_same)) (SqT.of upd_same) (small (by rw [List.length_take]; show _ + 1 ≤ _; omega)) fun H5 p3 s7 hp3 => ?_
    have s57 := (s5.trans s6).trans s7
    refine vTx rfl (Same.seqT s57 hsq) rfl ⟨_, rfl, _, _, rfl, rfl, _, rfl, b, ys, rfl, Same.seqT s57 hb, ?_, fun p4 hp4 => ?_⟩
    · rw [show ((way[j] : Nat) : Int) + 1 = ((way[j] + 1 : Nat) : Int) by omega, HT.sIx_nat]; omega
    rw [show ((way[j] : Nat) : Int) + 1 = ((way[j] + 1 : Nat) : Int) by omega, cut_drop _ _ (by omega)]
    have s8 := same_new (o := .tup (ys.drop (way[j] + 1))) hp4
    refine catA (Same.seqT s8 hp3) (SqT.of upd_same) (small (by rw [List.length_append, List.length_take, List.length_drop]; show _ + 1 + _ ≤ _; omega)) fun H6 p5 s9 hp5 => ⟨small (by show 3 ≤ _; decide), fun p6 hp6 => ?_⟩
    have s49 := (s57.trans s8).trans s9
    refine ⟨_, _, .ref p6, rfl, (s4.trans s49).trans (same_new hp6), ?_⟩
    rw [ej2, put_at hj e hk]
    unfold Sy.d
    rw [Sy.ds_map, set_split hk, List.map_append, List.map_cons, List.map_take, List.map_drop]
    rw [ej] at dp
    refine Dt.mk3 hp6 (.str _) (.str _) (.tup hp5 ?_)
    rw [List.append_assoc]
    exact ((DtAll.take _ hys).same s49).append (.cons (dp.same s49) ((DtAll.drop _ hys).same s49))
  rintro σ H4 ⟨o4', o5', pv', rfl, s4, dp⟩
  rw [List.length_reverse, List.length_map, lz, Nat.sub_self, List.drop_zero] at dp
  exact ⟨_, rfl, q H4 _ (s13.trans s4) dp⟩
def spRp (K : PySem.W.Frag) : Sp := spWp K
theorem ok_rp {f : Addr} {fd : FuncData} (F : Fun K "replaced" "replaced" s_replaced f fd) (C_with_part : C8.Cal P w K mg base 1 "with_part" (spWp K) []) : FnOk P w K mg base CX0 2 f fd ["term", "way", "part"] (spWp K) := by
  refine F.ok sc_replaced (fun vs H Q E h => ?_) (fun cdv A outer s H vs Q E hr h => ?_)
  · obtain ⟨_, _, _, _, _, _, rfl, _⟩ := h
    rfl
  obtain ⟨v, wv, pw, t, p, way, rfl, h⟩ := h
  refine ⟨_, (pss_one (ps_ret (C8.pe_c C_with_part hr (by decide) rfl (pa_cons (pv 0) (pa_cons (pv 1) (pa_cons (pv 2) pa_nil)))))), ?_⟩
  exact ⟨_, rfl, _, rfl, _, rfl, v, wv, pw, t, p, way, rfl, h⟩
end
end PK
namespace PK
open PySem L2
/-! sums added -/
abbrev IF := Int → Option Int
def updF (f : IF) (u m : Int) : IF := fun x => if x = u then some m else f x
/-- a dict of integers, as a function -/
structure Fk (kvs : List (Key × V)) (f : IF) : Prop where
  val : ∀ u, valV kvs (Sum.inl u) = (f u).map V.int
  ky : ∃ ks, Ky kvs ks ∧ ∀ u, u ∈ ks ↔ (f u).isSome = true
theorem Fk.nil : Fk [] (fun _ => none) := ⟨fun _ => rfl, [], ⟨rfl, List.nodup_nil, fun x h => absurd h List.not_mem_nil⟩, fun u => ⟨fun h => absurd h List.not_mem_nil, fun h => nomatch h⟩⟩
theorem Fk.put {kvs : List (Key × V)} {f : IF} (h : Fk kvs f) {u : Int} (hu : 0 ≤ u ∧ u ≤ 40) (m : Int) : Fk (putK kvs (Sum.inl u) (.int m)) (updF f u m) := by
  obtain ⟨ks, k1, m1⟩ := h.ky
  obtain ⟨ks', k2, m2⟩ := k1.put hu (.int m)
  refine ⟨fun x => ?_, ks', k2, fun x => ?_⟩
  · rw [valV_put]
    unfold updF
    by_cases e : x = u
    · rw [if_pos (by rw [e]), if_pos e]; rfl
    · rw [if_neg (fun z => e (Sum.inl.inj z)), if_neg e]; exact h.val x
  · rw [m2, m1]
    unfold updF
    by_cases e : x = u
    · rw [if_pos e]; exact ⟨fun _ => rfl, fun _ => .inr e⟩
    · rw [if_neg e]; exact ⟨fun z => z.elim id fun z => absurd z e, .inl⟩
theorem Fk.len {kvs : List (Key × V)} {f : IF} (h : Fk kvs f) : kvs.length ≤ 41 := by
  obtain ⟨ks, k1, _⟩ := h.ky
  have := k1.len
  have := k1.lenK
  omega
def fOf (P : List (Int × Int)) : IF := P.foldl (fun f p => updF f p.1 p.2) fun _ => none
def fAdd (f : IF) (sign : Int) (P : List (Int × Int)) : IF := P.foldl (fun f p => updF f p.1 ((f p.1).getD 0 + sign * p.2)) f
theorem fAdd_snoc (f : IF) (s : Int) (P : List (Int × Int)) (p : Int × Int) : fAdd f s (P ++ [p]) = updF (fAdd f s P) p.1 ((fAdd f s P p.1).getD 0 + s * p.2) := by unfold fAdd; rw [List.foldl_append]; rfl
theorem fOf_snoc (P : List (Int × Int)) (p : Int × Int) : fOf (P ++ [p]) = updF (fOf P) p.1 p.2 := by unfold fOf; rw [List.foldl_append]; rfl
theorem Fk.merge : ∀ {P : List (Int × Int)} {kvs : List (Key × V)} {f : IF}, Fk kvs f → (∀ p ∈ P, 0 ≤ p.1 ∧ p.1 ≤ 40) → Fk (mergeK kvs (P.map fun p => ((Sum.inl p.1 : Key), V.int p.2))) (P.foldl (fun f p => updF f p.1 p.2) f)
  | [], _, _, h, _ => h
  | p :: P, kvs, f, h, hp => Fk.merge (P := P) (h.put (hp p List.mem_cons_self) p.2) fun x hx => hp x (List.mem_cons_of_mem _ hx)
/-- what is left of a function over its keys -/
def resL (f : IF) (ys : List Int) : List (Int × Int) := (ys.filter fun u => !decide (f u = some 0)).map fun u => (u, (f u).getD 0)
theorem asc_eq : ∀ {l m : List Int}, l.Pairwise (· ≤ ·) → l.Nodup → m.Pairwise (· ≤ ·) → m.Nodup → (∀ x, x ∈ l ↔ x ∈ m) → l = m
  | [], [], _, _, _, _, _ => rfl
  | [], b :: m, _, _, _, _, h => absurd ((h b).mpr List.mem_cons_self) List.not_mem_nil
  | a :: l, [], _, _, _, _, h => absurd ((h a).mp List.mem_cons_self) List.not_mem_nil
  | a :: l, b :: m, la, ln, ma, mn, h => by
    obtain ⟨l1, l2⟩ := List.pairwise_cons.mp la
    obtain ⟨l3, l4⟩ := List.nodup_cons.mp ln
    obtain ⟨m1, m2⟩ := List.pairwise_cons.mp ma
    obtain ⟨m3, m4⟩ := List.nodup_cons.mp mn
    have e : a = b := by
      have h1 := (h a).mp List.mem_cons_self
      have h2 := (h b).mpr List.mem_cons_self
      rcases List.mem_cons.mp h1 with e | h1
      · exact e
      rcases List.mem_cons.mp h2 with e | h2
      · exact e.symm
      have := m1 a h1
      have := l1 b h2
      omega
    subst e
    rw [asc_eq l2 l4 m2 m4 fun x => ?_]
    constructor
    · intro hx
      rcases List.mem_cons.mp ((h x).mp (List.mem_cons_of_mem _ hx)) with e | hx'
      · rw [e] at hx; exact absurd hx l3
      · exact hx'
    · intro hx
      rcases List.mem_cons.mp ((h x).mpr (List.mem_cons_of_mem _ hx)) with e | hx'
      · rw [e] at hx; exact absurd hx m3
      · exact hx'
/-- a drawn sum: its tuple is known to its object -/
structure SmV (K : PySem.W.Frag) (H : Hp) (v : V) (P : List (Int × Int)) (n : Int) : Prop where
  ex : ∃ (a p : Addr) (o : Obj) (as : List Addr), v = .ref a ∧ SqT K H a [.str "sum", .ref p, .int n] ∧ H p = some (.frz o (.tup (as.map V.ref))) ∧ o.dict = none ∧ Paired (fun a pr => SqT K H a [.int pr.1, .int pr.2]) as P
  le : P.length ≤ 3
  bd : ∀ p ∈ P, 0 ≤ p.1 ∧ p.1 ≤ 40
theorem paired_dt {K : PySem.W.Frag} {H : Hp} : ∀ {as : List Addr} {P : List (Int × Int)}, Paired (fun a pr => SqT K H a [.int pr.1, .int pr.2]) as P → DtAll K H (as.map V.ref) (P.map prD)
  | _, _, .nil => .nil
  | _, _, .cons h t => .cons (.tup h (.cons (.int _) (.cons (.int _) .nil))) (paired_dt t)
theorem SmV.dt {K : PySem.W.Frag} {H : Hp} {v : V} {P : List (Int × Int)} {n : Int} (h : SmV K H v P n) : Dt K H v (Sy.sum P n).d := by
  obtain ⟨a, p, o, as, rfl, hs, hp, _, pr⟩ := h.ex
  unfold Sy.d
  exact .tup hs (.cons (.str _) (.cons (.tup (.inl (.inr ⟨o, hp⟩)) (paired_dt pr)) (.cons (.int _) .nil)))
theorem paired_kv {K : PySem.W.Frag} {H : Hp} : ∀ {as : List Addr} {P : List (Int × Int)}, Paired (fun a pr => SqT K H a [.int pr.1, .int pr.2]) as P → Paired (fun p kv => SqT K H p [kV kv.1, kv.2]) as (P.map fun p => ((Sum.inl p.1 : Key), V.int p.2))
  | _, _, .nil => .nil
  | _, _, .cons h t => .cons h (paired_kv t)
theorem paired_len {α β : Type} {R : α → β → Prop} : ∀ {as : List α} {P : List β}, Paired R as P → as.length = P.length
  | _, _, .nil => rfl
  | _, _, .cons _ t => by rw [List.length_cons, List.length_cons, paired_len t]
theorem paired_get {α β : Type} {R : α → β → Prop} : ∀ {as : List α} {P : List β} {i : Nat} {a : α}, Paired R as P → as[i]? = some a → ∃ p, P[i]? = some p ∧ R a p
  | _, _, _, _, .nil, e => by simp at e
  | _, _, 0, _, .cons h _, e => by simp at e; subst e; exact ⟨_, rfl, h⟩
  | _, _, i + 1, _, .cons _ t, e => by
    obtain ⟨p, h1, h2⟩ := paired_get (i := i) t (by simpa using e)
    exact ⟨p, by simpa using h1, h2⟩
theorem resL_snoc (f : IF) (l : List Int) (u : Int) : resL f (l ++ [u]) = resL f l ++ (if f u = some 0 then [] else [(u, (f u).getD 0)]) := by
  unfold resL
  rw [List.filter_append]
  by_cases h : f u = some 0 <;> simp [h]
theorem resL_len (f : IF) (l : List Int) : (resL f l).length ≤ l.length := by
  unfold resL
  rw [List.length_map]
  exact List.length_filter_le _ _
theorem getD_map (o : Option Int) : (o.map V.int).getD (.int 0) = .int (o.getD 0) := by cases o <;> rfl
theorem cm {s m : Int} (h : s = 1 ∨ s = -1) : CMul s m := .inl (by rcases h with rfl | rfl <;> exact ⟨by decide, by decide⟩)
def addD (f : IF) (n : Int) (ys : List Int) : PyData := (Sy.sum (resL f ys) n).d
def spAdd (K : PySem.W.Frag) : Sp := fun vs H Q _ => ∃ (v1 v2 : V) (P1 P2 : List (Int × Int)) (n1 n2 sign : Int), vs = [v1, v2, .int sign] ∧ SmV K H v1 P1 n1 ∧ SmV K H v2 P2 n2 ∧ (sign = 1 ∨ sign = -1) ∧
  ∀ (H' : Hp) (v : V) (ys : List Int), Same H H' → ys.Pairwise (· ≤ ·) → ys.Nodup → (∀ u, u ∈ ys ↔ (fAdd (fOf P1) sign P2 u).isSome = true) → Dt K H' v (addD (fAdd (fOf P1) sign P2) (n1 + sign * n2) ys) → Q v H'
section
variable {P : Program} {w : World} {K : PySem.W.Frag} {mg : Str → Option Value} {base : Heap} {aF : Addr}
abbrev s_added : Stmt := topS 7
theorem sc_added : FnScope ["one", "other", "sign", "multiples", "u", "multiple"] ["one", "other", "sign"] (defScope s_added) := ⟨rfl, rfl, rfl, by decide +kernel, rfl, by decide +kernel, by decide +kernel⟩
-- slots: 0:one 1:other 2:sign 3:multiples(cell) 4:u 5:multiple
abbrev s_law_added : Stmt := topS 27
theorem sc_law_added : FnScope ["one", "other", "sign", "total", "pair", "parts", "u"] ["one", "other", "sign"] (defScope s_law_added) := ⟨rfl, rfl, rfl, by decide +kernel, rfl, by decide +kernel, by decide +kernel⟩
-- slots: 0:one 1:other 2:sign 3:total(cell) 4:pair 5:parts 6:u(comp)
theorem ok_add {f : Addr} {fd : FuncData} (F : Fun K "added" "added" s_added f fd) (T : TxtZ K mg aF) : FnOk P w K mg base CX0 1 f fd ["one", "other", "sign"] (spAdd K) := by
  refine F.ok sc_added (fun vs H Q E h => ?_) (fun cdv A outer s H vs Q E hr h => ?_)
  · obtain ⟨_, _, _, _, _, _, _, rfl, _⟩ := h
    rfl
  obtain ⟨v1, v2, P1, P2, n1, n2, sign, rfl, sm1, sm2, hsg, q⟩ := h
  refine ⟨_, (pss_cons (ps_set (i := 3) sc_added.nd rfl (Or.inr rfl) (pe_callTy (PKD.call_dictT (by rfl)) (by rfl) T.z_dict (by decide +kernel) (pa_cons (pe_ix ix_tup (pv 0) pe_int (fun _ _ => rfl)) pa_nil)))
    (pss_cons (ps_for PassesOwn.never rfl (pi_tup (pe_ix ix_tup (pv 1) pe_int (fun _ _ => rfl))) (pg_tup (by rfl) (pgs_cons (pg_name (i := 4) sc_added.nd rfl (Or.inl rfl)) (pgs_cons (pg_name (i := 5) sc_added.nd rfl (Or.inl rfl)) pgs_nil))) (pss_one (ps_dput (hu_of hr) (pv 3) (pv 4) (pe_op op_add (pe_dget2 (hu_of hr) (pv 3) (pv 4) pe_int ⟨by rfl, by rfl, by rfl, by rfl⟩) (pe_op op_mul (pv 2) (pv 5))) rfl)))
    (pss_one (ps_ret (pe_tup (pa_cons pe_str (pa_cons (pe_callTy call_tuple_of (by rfl) T.z_tuple (by decide +kernel) (pa_cons (pe_lc (own := [("u", 4)]) (g := (gName 4)) (by rfl) sc_added.nd (pi_list (pe_callB (call_sortedDI (by rfl)) (by rfl) T.z_sorted (by decide +kernel) (pa_cons (pv 3) pa_nil))) (blkOk_by (N := ["one", "other", "sign", "multiples", "u", "multiple"]) (sc := defScope s_added) (by decide +kernel)) (fun _ _ _ _ _ => (pg_name (i := 4) sc_added.nd rfl (Or.inl rfl))) (fun _ _ _ _ _ => pts_one (pt_cmpR op_ne (pe_dget (hu_of hr) (pv 3) (pv 4) (fun _ _ => rfl)) pe_int (nomark _))) (fun _ _ _ _ _ => (pe_tup (pa_cons (pv 4) (pa_cons (pe_dget (hu_of hr) (pv 3) (pv 4) (fun _ _ => rfl)) pa_nil))))) pa_nil)) (pa_cons (pe_op op_add (pe_ix ix_tup (pv 0) pe_int (fun _ _ => rfl)) (pe_op op_mul (pv 2) (pe_ix ix_tup (pv 1) pe_int (fun _ _ => rfl)))) pa_nil)))))))), ?_⟩
  obtain ⟨a1, p1, o1, as1, rfl, hs1, hp1, ho1, pr1⟩ := sm1.ex
  obtain ⟨a2, p2, o2, as2, rfl, hs2, hp2, ho2, pr2⟩ := sm2.ex
  have l1 := paired_len pr1
  have l2 := paired_len pr2
  have lP2 := sm2.le
  refine vTx rfl hs1 rfl ⟨p1, o1, as1, _, rfl, hp1, ho1, paired_kv pr1, fun D hD => ?_⟩
  have s1 := same_new (o := .dK (mergeK [] (P1.map fun p => ((Sum.inl p.1 : Key), V.int p.2)))) hD
  have fk1 : Fk (mergeK [] (P1.map fun p => ((Sum.inl p.1 : Key), V.int p.2))) (fOf P1) := Fk.merge Fk.nil sm1.bd
  have sq2 : SqT K H p2 (as2.map V.ref) := .inl (.inr ⟨o2, hp2⟩)
  refine vTx rfl (Same.seqT s1 hs2) rfl ⟨p2, rfl, ⟨_, Same.seqT s1 sq2⟩, for_it (walk_tup (K := K) (xs := as2.map V.ref)) (fun i σ H' => ∃ (o4 o5 : Option V) (kvs : List (Key × V)), σ = [some (.ref a1), some (.ref a2), some (.int sign), some (.ref D), o4, o5] ∧ Same H H' ∧ H' D = some (.dK kvs) ∧ Fk kvs (fAdd (fOf P1) sign (P2.take i))) ?_ ?_ ?_ ?_⟩
  · exact ⟨_, _, _, rfl, s1, upd_same, fk1⟩
  · rintro i σ H' _ ⟨_, _, _, _, s, _⟩
    exact Same.seqT s sq2
  · rintro i x σ H2 H2 hi ⟨o4, o5, kvs, rfl, s2, hD2, fk⟩ ⟨rfl, gx⟩
    rw [List.length_map] at hi
    rw [List.getElem?_map, List.getElem?_eq_getElem hi] at gx
    cases gx
    obtain ⟨pr, ep, hpr⟩ := paired_get pr2 (List.getElem?_eq_getElem hi)
    have hb := sm2.bd pr (List.mem_of_getElem? ep)
    have lk := fk.len
    refine ⟨_, _, rfl, Same.seqT s2 hpr, rfl, _, _, rfl, _, _, rfl, rfl, ?_⟩
    refine ⟨_, rfl, D, rfl, .inl ⟨_, .inl hD2⟩, _, rfl, _, DGet.k (k := Sum.inl pr.1) hD2, _, rfl, _, rfl, _, _, rfl, rfl, cm hsg, ?_⟩
    refine ⟨(fAdd (fOf P1) sign (P2.take i) pr.1).getD 0, sign * pr.2, by rw [fk.val, getD_map], rfl, _, rfl, _, rfl, D, _, rfl, DPut.k (k := Sum.inl pr.1) hD2 (smallL (by omega)), ?_⟩
    refine ⟨_, _, _, rfl, Same.upd s2 hD, upd_same, ?_⟩
    rw [List.take_add_one, ep]
    show Fk _ (fAdd (fOf P1) sign (P2.take i ++ [pr]))
    rw [fAdd_snoc]
    exact fk.put hb _
  rintro σ H2 ⟨o4, o5, kvs, rfl, s2, hD2, fk⟩
  rw [List.length_map, l2, List.take_length] at fk
  obtain ⟨ks, ky, mk⟩ := fk.ky
  have l41 := ky.len
  refine ⟨_, rfl, D, kvs, ks, rfl, .inl hD2, ky.eq, by omega, fun ys py pm so hpy => ?_⟩
  have s3 := same_new (o := .lst (ys.map V.int)) hpy
  have lys : ys.length = ks.length := pm.length_eq
  have hpy3 : (upd H2 py (.lst (ys.map V.int))) py = some (.lst (ys.map V.int)) := upd_same
  have hD3 := s3 _ _ hD2
  have s23 := s2.trans s3
  generalize upd H2 py (.lst (ys.map V.int)) = H3 at s3 hpy3 hD3 s23 ⊢
  refine ⟨py, rfl, ⟨_, SqL.of hpy3⟩, fun E2 hE2 => lc_it (walk_list (K := K) (xs := ys.map V.int)) (fun i H' => ∃ ws : List V, Same H3 H' ∧ H' E2 = some (.lst ws) ∧ DtAll K H' ws ((resL (fAdd (fOf P1) sign P2) (ys.take i)).map prD)) ?_ ?_ ?_ ?_⟩
  · exact ⟨[], same_new hE2, upd_same, .nil⟩
  · rintro i H' _ ⟨_, s, _⟩
    exact SqL.of (s _ _ hpy3)
  · rintro i x H4 H4 hi ⟨ws, s4, hE4, dws⟩ ⟨rfl, gx⟩
    rw [List.length_map] at hi
    rw [List.getElem?_map, List.getElem?_eq_getElem hi] at gx
    cases gx
    have hu : ys[i] ∈ ks := pm.mem_iff.mp (List.getElem_mem hi)
    obtain ⟨m, em⟩ := Option.isSome_iff_exists.mp ((mk _).mp hu)
    have ev : valV kvs (Sum.inl ys[i]) = some (.int m) := by rw [fk.val, em]; rfl
    have hD4 := s4 _ _ hD3
    have lw := dws.lenD
    rw [List.length_map] at lw
    have lr := resL_len (fAdd (fOf P1) sign P2) (ys.take i)
    rw [List.length_take] at lr
    rw [List.take_add_one, List.getElem?_eq_getElem hi]
    refine ⟨rfl, _, rfl, _, rfl, D, _, rfl, by rw [← ev]; exact DGet.k (k := Sum.inl ys[i]) hD4, rfl, _, rfl, ?_⟩
    rw [show (ys.take i ++ (some ys[i]).toList) = ys.take i ++ [ys[i]] from rfl]
    have rs := resL_snoc (fAdd (fOf P1) sign P2) (ys.take i) ys[i]
    rw [em] at rs
    by_cases h0 : m = 0
    · rw [if_pos (by rw [h0]), List.append_nil] at rs
      rw [rs, decide_eq_true (show V.int m = V.int 0 by rw [h0])]
      exact iteF ⟨ws, s4, hE4, dws⟩
    · rw [if_neg (fun z => h0 (Option.some.inj z))] at rs
      rw [rs, decide_eq_false (fun z : V.int m = V.int 0 => h0 (V.int.inj z))]
      refine iteT ⟨_, rfl, _, rfl, _, rfl, D, _, rfl, by rw [← ev]; exact DGet.k (k := Sum.inl ys[i]) hD4, small (by show 2 ≤ _; decide), fun p hp => ?_⟩
      have s5 := same_new (o := .tup [.int ys[i], .int m]) hp
      have hE5 := s5 _ _ hE4
      refine ⟨ws, hE5, smallL (by omega), ws ++ [.ref p], Same.upd (s4.trans s5) hE2, upd_same, ?_⟩
      rw [List.map_append]
      exact DtAll.upd ((dws.same s5).append (.cons (Dt.mk2 hp (.int _) (.int _)) .nil)) hE5
  rintro H4 ⟨ws, s4, hE4, dws⟩
  rw [List.length_map, List.take_length] at dws
  refine ⟨E2, _, rfl, .inl ⟨SqL.of hE4, fun p5 hp5 => ?_⟩⟩
  have s5 := same_new (o := .tup ws) hp5
  have s25 := (s23.trans s4).trans s5
  refine vTx rfl (Same.seqT s25 hs1) rfl ⟨_, rfl, vTx rfl (Same.seqT s25 hs2) rfl ⟨_, _, rfl, rfl, cm hsg, _, _, rfl, rfl, small (by show 3 ≤ _; decide), fun p6 hp6 => ?_⟩⟩
  refine q _ _ ys (s25.trans (same_new hp6)) so (pm.nodup_iff.mpr ky.nd) (fun u => by rw [pm.mem_iff, mk]) ?_
  unfold addD Sy.d
  exact Dt.mk3 hp6 (.str _) (.tup (SqT.of upd_same) (dws.same s5)) (.int _)
theorem ok_ladd {f : Addr} {fd : FuncData} (F : Fun K "_law_added" "_law_added" s_law_added f fd) (T : TxtZ K mg aF) : FnOk P w K mg base CX0 1 f fd ["one", "other", "sign"] (spAdd K) := by
  refine F.ok sc_law_added (fun vs H Q E h => ?_) (fun cdv A outer s H vs Q E hr h => ?_)
  · obtain ⟨_, _, _, _, _, _, _, rfl, _⟩ := h
    rfl
  obtain ⟨v1, v2, P1, P2, n1, n2, sign, rfl, sm1, sm2, hsg, q⟩ := h
  refine ⟨_, (pss_cons (ps_set (i := 3) sc_law_added.nd rfl (Or.inr rfl) pe_dnewK)
    (pss_cons (ps_for PassesOwn.never rfl (pi_tup (pe_ix ix_tup (pv 0) pe_int (fun _ _ => rfl))) (pg_name (i := 4) sc_law_added.nd rfl (Or.inl rfl)) (pss_one (ps_dput (hu_of hr) (pv 3) (pe_ix ix_tup (pv 4) pe_int (fun _ _ => rfl)) (pe_ix ix_tup (pv 4) pe_int (fun _ _ => rfl)) rfl)))
    (pss_cons (ps_for PassesOwn.never rfl (pi_tup (pe_ix ix_tup (pv 1) pe_int (fun _ _ => rfl))) (pg_name (i := 4) sc_law_added.nd rfl (Or.inl rfl)) (pss_one (ps_dput (hu_of hr) (pv 3) (pe_ix ix_tup (pv 4) pe_int (fun _ _ => rfl)) (pe_op op_add (pe_dget2 (hu_of hr) (pv 3) (pe_ix ix_tup (pv 4) pe_int (fun _ _ => rfl)) pe_int ⟨by rfl, by rfl, by rfl, by rfl⟩) (pe_op op_mul (pv 2) (pe_ix ix_tup (pv 4) pe_int (fun _ _ => rfl)))) rfl)))
    (pss_cons (ps_setLc (i := 5) (own := [("u", 6)]) (g := (gName 6)) (tt := tYes) (by rfl) sc_law_added.nd rfl rfl (sw_true rfl rfl rfl (by decide +kernel)) (pi_list (pe_callB (call_sortedDI (by rfl)) (by rfl) T.z_sorted (by decide +kernel) (pa_cons (pv 3) pa_nil))) (blkOk_by (N := ["one", "other", "sign", "total", "pair", "parts", "u"]) (sc := defScope s_law_added) (by decide +kernel)) (fun _ _ _ _ _ => (pg_name (i := 6) sc_law_added.nd rfl (Or.inl rfl))) (fun _ _ _ _ _ => pts_nil) (fun _ _ _ _ _ => (pe_tup (pa_cons (pv 6) (pa_cons (pe_dget (hu_of hr) (pv 3) (pv 6) (fun _ _ => rfl)) pa_nil)))))
    (pss_one (ps_ret (pe_tup (pa_cons pe_str (pa_cons (pe_callTy call_tuple_of (by rfl) T.z_tuple (by decide +kernel) (pa_cons (pe_lc (own := [("pair", 4)]) (g := (gName 4)) (by rfl) sc_law_added.nd (pi_list (pv 5)) (blkOk_by (N := ["one", "other", "sign", "total", "pair", "parts", "u"]) (sc := defScope s_law_added) (by decide +kernel)) (fun _ _ _ _ _ => (pg_name (i := 4) sc_law_added.nd rfl (Or.inl rfl))) (fun _ _ _ _ _ => pts_one (pt_cmpR op_ne (pe_ix (r := rIxT K) ix_tup (pv 4) pe_int (fun _ _ => rfl)) pe_int (nomark _))) (fun _ _ _ _ _ => (pv 4))) pa_nil)) (pa_cons (pe_op op_add (pe_ix ix_tup (pv 0) pe_int (fun _ _ => rfl)) (pe_op op_mul (pv 2) (pe_ix ix_tup (pv 1) pe_int (fun _ _ => rfl)))) pa_nil)))))))))), ?_⟩
  obtain ⟨a1, p1, o1, as1, rfl, hs1, hp1, ho1, pr1⟩ := sm1.ex
  obtain ⟨a2, p2, o2, as2, rfl, hs2, hp2, ho2, pr2⟩ := sm2.ex
  have l1 := paired_len pr1
  have l2 := paired_len pr2
  have lP2 := sm2.le
  refine fun D hD => ?_
  have s0 := same_new (o := .dK []) hD
  have sq1 : SqT K H p1 (as1.map V.ref) := .inl (.inr ⟨o1, hp1⟩)
  have sq2 : SqT K H p2 (as2.map V.ref) := .inl (.inr ⟨o2, hp2⟩)
  refine vTx rfl (Same.seqT s0 hs1) rfl ⟨p1, rfl, ⟨_, Same.seqT s0 sq1⟩, for_it (walk_tup (K := K) (xs := as1.map V.ref)) (fun i σ H' => ∃ (o4 : Option V) (kvs : List (Key × V)), σ = [some (.ref a1), some (.ref a2), some (.int sign), some (.ref D), o4, none, none] ∧ Same H H' ∧ H' D = some (.dK kvs) ∧ Fk kvs (fOf (P1.take i))) ?_ ?_ ?_ ?_⟩
  · exact ⟨_, _, rfl, s0, upd_same, Fk.nil⟩
  · rintro i σ H' _ ⟨_, _, _, s, _⟩
    exact Same.seqT s sq1
  · rintro i x σ H2 H2 hi ⟨o4, kvs, rfl, s2, hD2, fk⟩ ⟨rfl, gx⟩
    rw [List.length_map] at hi
    rw [List.getElem?_map, List.getElem?_eq_getElem hi] at gx
    cases gx
    obtain ⟨pr, ep, hpr⟩ := paired_get pr1 (List.getElem?_eq_getElem hi)
    have hb := sm1.bd pr (List.mem_of_getElem? ep)
    have lk := fk.len
    refine vTx rfl (Same.seqT s2 hpr) rfl ⟨_, rfl, vTx rfl (Same.seqT s2 hpr) rfl ⟨D, _, rfl, DPut.k (k := Sum.inl pr.1) hD2 (smallL (by omega)), _, _, rfl, Same.upd s2 hD, upd_same, ?_⟩⟩
    rw [List.take_add_one, ep]
    show Fk _ (fOf (P1.take i ++ [pr]))
    rw [fOf_snoc]
    exact fk.put hb _
  rintro σ H1 ⟨o4, kvs1, rfl, s1, hD1, fk1⟩
  rw [List.length_map, l1, List.take_length] at fk1
  refine vTx rfl (Same.seqT s1 hs2) rfl ⟨p2, rfl, ⟨_, Same.seqT s1 sq2⟩, for_it (walk_tup (K := K) (xs := as2.map V.ref)) (fun i σ H' => ∃ (o4 : Option V) (kvs : List (Key × V)), σ = [some (.ref a1), some (.ref a2), some (.int sign), some (.ref D), o4, none, none] ∧ Same H H' ∧ H' D = some (.dK kvs) ∧ Fk kvs (fAdd (fOf P1) sign (P2.take i))) ?_ ?_ ?_ ?_⟩
  · exact ⟨_, _, rfl, s1, hD1, fk1⟩
  · rintro i σ H' _ ⟨_, _, _, s, _⟩
    exact Same.seqT s sq2
  · rintro i x σ H2 H2 hi ⟨o4, kvs, rfl, s2, hD2, fk⟩ ⟨rfl, gx⟩
    rw [List.length_map] at hi
    rw [List.getElem?_map, List.getElem?_eq_getElem hi] at gx
    cases gx
    obtain ⟨pr, ep, hpr⟩ := paired_get pr2 (List.getElem?_eq_getElem hi)
    have hb := sm2.bd pr (List.mem_of_getElem? ep)
    have lk := fk.len
    have hpr2 := Same.seqT s2 hpr
    refine ⟨_, rfl, D, rfl, .inl ⟨_, .inl hD2⟩, vTx rfl hpr2 rfl ⟨_, DGet.k (k := Sum.inl pr.1) hD2, _, rfl, vTx rfl hpr2 rfl ⟨_, _, rfl, rfl, cm hsg, ?_⟩⟩⟩
    refine ⟨(fAdd (fOf P1) sign (P2.take i) pr.1).getD 0, sign * pr.2, by rw [fk.val, getD_map], rfl, _, rfl, vTx rfl hpr2 rfl ⟨D, _, rfl, DPut.k (k := Sum.inl pr.1) hD2 (smallL (by omega)), ?_⟩⟩
    refine ⟨_, _, rfl, Same.upd s2 hD, upd_same, ?_⟩
    rw [List.take_add_one, ep]
    show Fk _ (fAdd (fOf P1) sign (P2.take i ++ [pr]))
    rw [fAdd_snoc]
    exact fk.put hb _
  rintro σ H2 ⟨o4, kvs, rfl, s2, hD2, fk⟩
  rw [List.length_map, l2, List.take_length] at fk
  obtain ⟨ks, ky, mk⟩ := fk.ky
  have l41 := ky.len
  refine ⟨_, rfl, D, kvs, ks, rfl, .inl hD2, ky.eq, by omega, fun ys py pm so hpy => ?_⟩
  have s3 := same_new (o := .lst (ys.map V.int)) hpy
  have lys : ys.length = ks.length := pm.length_eq
  have hpy3 : (upd H2 py (.lst (ys.map V.int))) py = some (.lst (ys.map V.int)) := upd_same
  have hD3 := s3 _ _ hD2
  have s23 := s2.trans s3
  generalize upd H2 py (.lst (ys.map V.int)) = H3 at s3 hpy3 hD3 s23 ⊢
  refine ⟨py, rfl, ⟨_, SqL.of hpy3⟩, fun E2 hE2 => lc_it (walk_list (K := K) (xs := ys.map V.int)) (fun i H' => ∃ ws : List V, Same H3 H' ∧ H' E2 = some (.lst ws) ∧ DtAll K H' ws ((ys.take i).map fun u => prD (u, (fAdd (fOf P1) sign P2 u).getD 0))) ?_ ?_ ?_ ?_⟩
  · exact ⟨[], same_new hE2, upd_same, .nil⟩
  · rintro i H' _ ⟨_, s, _⟩
    exact SqL.of (s _ _ hpy3)
  · rintro i x H4 H4 hi ⟨ws, s4, hE4, dws⟩ ⟨rfl, gx⟩
    rw [List.length_map] at hi
    rw [List.getElem?_map, List.getElem?_eq_getElem hi] at gx
    cases gx
    have hu : ys[i] ∈ ks := pm.mem_iff.mp (List.getElem_mem hi)
    obtain ⟨m, em⟩ := Option.isSome_iff_exists.mp ((mk _).mp hu)
    have ev : valV kvs (Sum.inl ys[i]) = some (.int m) := by rw [fk.val, em]; rfl
    have hD4 := s4 _ _ hD3
    have lw := dws.lenD
    rw [List.length_map, List.length_take] at lw
    rw [List.take_add_one, List.getElem?_eq_getElem hi]
    refine ⟨rfl, _, rfl, _, rfl, _, rfl, D, _, rfl, by rw [← ev]; exact DGet.k (k := Sum.inl ys[i]) hD4, small (by show 2 ≤ _; decide), fun p hp => ?_⟩
    have s5 := same_new (o := .tup [.int ys[i], .int m]) hp
    have hE5 := s5 _ _ hE4
    refine ⟨ws, hE5, smallL (by omega), ws ++ [.ref p], Same.upd (s4.trans s5) hE2, upd_same, ?_⟩
    rw [List.map_append]
    refine DtAll.upd ((dws.same s5).append (.cons ?_ .nil)) hE5
    show Dt K _ _ (prD (ys[i], (fAdd (fOf P1) sign P2 ys[i]).getD 0))
    rw [em]
    exact Dt.mk2 hp (.int _) (.int _)
  rintro H4 ⟨ws, s4, hE4, dws⟩
  rw [List.length_map, List.take_length] at dws
  have lws : ws.length = ys.length := by rw [dws.lenD, List.length_map]
  have s24 := s23.trans s4
  refine ⟨_, rfl, E2, rfl, ⟨_, SqL.of hE4⟩, fun E3 hE3 => lc_it (walk_list (K := K) (xs := ws)) (fun i H' => ∃ us : List V, Same H4 H' ∧ H' E3 = some (.lst us) ∧ DtAll K H' us ((resL (fAdd (fOf P1) sign P2) (ys.take i)).map prD)) ?_ ?_ ?_ ?_⟩
  · exact ⟨[], same_new hE3, upd_same, .nil⟩
  · rintro i H' _ ⟨_, s, _⟩
    exact SqL.of (s _ _ hE4)
  · rintro i x H5 H5 hi ⟨us, s5, hE5, dus⟩ ⟨rfl, gx⟩
    have hi2 : i < ys.length := by omega
    obtain ⟨dd, gd, dx⟩ := dws.getX gx
    rw [List.getElem?_map, List.getElem?_eq_getElem hi2] at gd
    cases gd
    have hu : ys[i] ∈ ks := pm.mem_iff.mp (List.getElem_mem hi2)
    obtain ⟨m, em⟩ := Option.isSome_iff_exists.mp ((mk _).mp hu)
    have dx : Dt K H4 x (prD (ys[i], (fAdd (fOf P1) sign P2 ys[i]).getD 0)) := dx
    rw [em] at dx
    have dx5 := dx.same s5
    unfold prD at dx
    obtain ⟨a, x1, y1, rfl, hsq, h1, h2⟩ := Dt.t2 dx
    cases h2
    have lu := dus.lenD
    rw [List.length_map] at lu
    have lr := resL_len (fAdd (fOf P1) sign P2) (ys.take i)
    rw [List.length_take] at lr
    rw [List.take_add_one, List.getElem?_eq_getElem hi2]
    refine ⟨rfl, vTx rfl (Same.seqT s5 hsq) rfl ⟨rfl, _, rfl, ?_⟩⟩
    rw [show (ys.take i ++ (some ys[i]).toList) = ys.take i ++ [ys[i]] from rfl]
    have rs := resL_snoc (fAdd (fOf P1) sign P2) (ys.take i) ys[i]
    rw [em] at rs
    by_cases h0 : m = 0
    · rw [if_pos (by rw [h0]), List.append_nil] at rs
      rw [rs]
      subst h0
      exact ⟨us, s5, hE5, dus⟩
    · rw [if_neg (fun z => h0 (Option.some.inj z))] at rs
      rw [rs]
      have hd : decide (V.int ((some m).getD 0) = V.int 0) = false := decide_eq_false (fun z : V.int m = V.int 0 => h0 (V.int.inj z))
      rw [hd]
      refine iteT ⟨_, rfl, us, hE5, smallL (by omega), us ++ [.ref a], Same.upd s5 hE3, upd_same, ?_⟩
      rw [List.map_append]
      exact DtAll.upd (dus.append (.cons dx5 .nil)) hE5
  rintro H5 ⟨us, s5, hE5, dus⟩
  rw [lws, List.take_length] at dus
  refine ⟨E3, _, rfl, .inl ⟨SqL.of hE5, fun p5 hp5 => ?_⟩⟩
  have s6 := same_new (o := .tup us) hp5
  have s25 := (s24.trans s5).trans s6
  refine vTx rfl (Same.seqT s25 hs1) rfl ⟨_, rfl, vTx rfl (Same.seqT s25 hs2) rfl ⟨_, _, rfl, rfl, cm hsg, _, _, rfl, rfl, small (by show 3 ≤ _; decide), fun p6 hp6 => ?_⟩⟩
  refine q _ _ ys (s25.trans (same_new hp6)) so (pm.nodup_iff.mpr ky.nd) (fun u => by rw [pm.mem_iff, mk]) ?_
  unfold addD Sy.d
  exact Dt.mk3 hp6 (.str _) (.tup (SqT.of upd_same) (dus.same s6)) (.int _)
end
end PK
namespace PK
open PySem L2
/-! the law: what is drawn -/
def numT (i : Int) : Str := Str.ofString (toString i)
theorem numOk : ∀ i ∈ List.range 128, (numT (i : Nat)).length ≤ 20 ∧ SOk (("n" : Str) ++ numT (i : Nat)) ∧ SOk (("k" : Str) ++ numT (i : Nat)) ∧ SOk (("a" : Str) ++ numT (i : Nat)) ∧ SOk (("c" : Str) ++ numT (i : Nat)) := by decide +kernel
theorem numOk' {i : Int} (h0 : 0 ≤ i) (h1 : i < 128) : (numT i).length ≤ 20 ∧ SOk (("n" : Str) ++ numT i) ∧ SOk (("k" : Str) ++ numT i) ∧ SOk (("a" : Str) ++ numT i) ∧ SOk (("c" : Str) ++ numT i) := by
  have := numOk i.toNat (List.mem_range.mpr (by omega))
  rw [show ((i.toNat : Nat) : Int) = i by omega] at this
  exact this
theorem log_ok {i : Int} (h0 : 0 ≤ i) (h1 : i < 128) : i.natAbs.log2 < 1920 := by
  have : i.natAbs.log2 ≤ i.natAbs := Nat.log2_le_self _
  omega
theorem pmono {α β : Type} {R S : α → β → Prop} : ∀ {as : List α} {P : List β}, Paired R as P → (∀ a b, R a b → S a b) → Paired S as P
  | _, _, .nil, _ => .nil
  | _, _, .cons h t, k => .cons (k _ _ h) (pmono t k)
theorem paired_snoc {α β : Type} {R : α → β → Prop} {a : α} {b : β} : ∀ {as : List α} {P : List β}, Paired R as P → R a b → Paired R (as ++ [a]) (P ++ [b])
  | _, _, .nil, h => .cons h .nil
  | _, _, .cons h t, h2 => .cons h (paired_snoc t h2)
theorem SmV.ext {K : PySem.W.Frag} {H H' : Hp} {l c : Addr} {v : V} {P : List (Int × Int)} {n : Int} (h : SmV K H v P n) (P0 : Pool H l c) (x : Ext l c H H') : SmV K H' v P n := by
  obtain ⟨a, p, o, as, rfl, hs, hp, ho, pr⟩ := h.ex
  refine ⟨⟨a, p, o, as, rfl, x.seqT P0 hs, x.keep _ _ (fun e => ?_) hp, ho, pmono pr fun _ _ z => x.seqT P0 z⟩, h.le, h.bd⟩
  subst e
  obtain ⟨ns, i, r, s, hl, _⟩ := P0
  rw [hl] at hp; cases hp
def spWho : Sp := fun vs H Q _ => ∃ (l c : Addr), vs = [.ref l] ∧ Pool H l c ∧ ∀ (H' : Hp) (n : Int), Ext l c H H' → Q (.int n) H'
def spSumD (K : PySem.W.Frag) : Sp := fun vs H Q _ => ∃ (l c : Addr), vs = [.ref l] ∧ Pool H l c ∧ ∀ (H' : Hp) (v : V) (P : List (Int × Int)) (n : Int), Ext l c H H' → SmV K H' v P n → (P.map Prod.fst).Nodup → Q v H'
def spGiv (K : PySem.W.Frag) : Sp := fun vs H Q _ => ∃ (l c : Addr), vs = [.ref l] ∧ Pool H l c ∧ ∀ (H' : Hp) (v : V) (t : Sy), Ext l c H H' → Dt K H' v t.d → SN t → t.kids = [] → Q v H'
section
variable {P : Program} {w : World} {K : PySem.W.Frag} {mg : Str → Option Value} {base : Heap} {aF : Addr}
abbrev s_law_whole : Stmt := topS 17
theorem sc_law_whole : FnScope ["pool"] ["pool"] (defScope s_law_whole) := ⟨rfl, rfl, rfl, by decide +kernel, rfl, by decide +kernel, by decide +kernel⟩
-- slots: 0:pool
abbrev s_law_sum : Stmt := topS 18
theorem sc_law_sum : FnScope ["pool", "parts", "u", "multiple"] ["pool"] (defScope s_law_sum) := ⟨rfl, rfl, rfl, by decide +kernel, rfl, by decide +kernel, by decide +kernel⟩
-- slots: 0:pool 1:parts 2:u 3:multiple
abbrev s_law_given : Stmt := topS 19
theorem sc_law_given : FnScope ["pool", "kind"] ["pool"] (defScope s_law_given) := ⟨rfl, rfl, rfl, by decide +kernel, rfl, by decide +kernel, by decide +kernel⟩
-- slots: 0:pool 1:kind
theorem ok_who {f : Addr} {fd : FuncData} (F : Fun K "_law_whole" "_law_whole" s_law_whole f fd) (T : Txt K mg) (C_law_take : C8.Cal P w K mg base 2 "_law_take" (spTake 2) []) : FnOk P w K mg base CX0 3 f fd ["pool"] spWho := by
  refine F.ok sc_law_whole (fun vs H Q E h => ?_) (fun cdv A outer s H vs Q E hr h => ?_)
  · obtain ⟨_, _, rfl, _⟩ := h
    rfl
  obtain ⟨l, c, rfl, P0, q⟩ := h
  refine ⟨_, (pss_cons (ps_if (pt_cmpR op_eq (C8.pe_c C_law_take hr (by decide) rfl (pa_cons (pv 0) (pa_cons pe_int pa_nil))) pe_int (nomark _)) (pss_one (ps_ret (pe_op op_sub (C8.pe_c C_law_take hr (by decide) rfl (pa_cons (pv 0) (pa_cons pe_int pa_nil))) pe_int))) pss_nil)
    (pss_one (ps_ret (pe_op op_sub (C8.pe_c C_law_take hr (by decide) rfl (pa_cons (pv 0) (pa_cons pe_int pa_nil))) pe_int)))), ?_⟩
  refine vTake rfl P0 (by decide) (by decide) fun k H1 k0 k1 x1 => ⟨rfl, _, rfl, ite2 (fun _ => ?_) (fun _ => ?_)⟩
  · exact vTake rfl x1.pool (by decide) (by decide) fun m H2 _ _ x2 => ⟨_, _, rfl, rfl, q H2 _ (x1.trans x2)⟩
  · exact vTake rfl x1.pool (by decide) (by decide) fun m H2 _ _ x2 => ⟨_, _, rfl, rfl, q H2 _ (x1.trans x2)⟩
theorem ok_sum {f : Addr} {fd : FuncData} (F : Fun K "_law_sum" "_law_sum" s_law_sum f fd) (T : Txt K mg) (C_law_take : C8.Cal P w K mg base 2 "_law_take" (spTake 2) []) (C_law_whole : C8.Cal P w K mg base 3 "_law_whole" spWho []) : FnOk P w K mg base CX0 4 f fd ["pool"] (spSumD K) := by
  refine F.ok sc_law_sum (fun vs H Q E h => ?_) (fun cdv A outer s H vs Q E hr h => ?_)
  · obtain ⟨_, _, rfl, _⟩ := h
    rfl
  obtain ⟨l, c, rfl, P0, q⟩ := h
  refine ⟨_, (pss_cons (ps_set (i := 1) sc_law_sum.nd rfl (Or.inl rfl) (pe_lst pa_nil))
    (pss_cons (ps_for PassesOwn.never rfl (pi_range1 (by rfl) T.z_range (pa_cons (C8.pe_c C_law_take hr (by decide) rfl (pa_cons (pv 0) (pa_cons pe_int pa_nil))) pa_nil)) (pg_name (i := 2) sc_law_sum.nd rfl (Or.inl rfl)) (pss_cons (ps_set (i := 3) sc_law_sum.nd rfl (Or.inl rfl) (pe_op op_sub (C8.pe_c C_law_take hr (by decide) rfl (pa_cons (pv 0) (pa_cons pe_int pa_nil))) pe_int))
    (pss_one (ps_if (pt_cmpR op_ne (pv 3) pe_int (nomark _)) (pss_one (ps_expr (pe_bm PySem.F.plainAttrs_list PySem.F.slot_list_append PySem.F.type_list_append mt_append (pv 1) (pa_cons (pe_tup (pa_cons (pe_op op_add (pe_op op_mul pe_int (pv 2)) (C8.pe_c C_law_take hr (by decide) rfl (pa_cons (pv 0) (pa_cons pe_int pa_nil)))) (pa_cons (pv 3) pa_nil))) pa_nil)))) pss_nil))))
    (pss_one (ps_ret (pe_tup (pa_cons pe_str (pa_cons (pe_callTy PKD.call_tupleF (by rfl) T.z_tuple (by decide +kernel) (pa_cons (pv 1) pa_nil)) (pa_cons (C8.pe_c C_law_whole hr (by decide) rfl (pa_cons (pv 0) pa_nil)) pa_nil)))))))), ?_⟩
  refine ⟨small (by show 0 ≤ _; decide), fun pa hpa => ?_⟩
  have npa := P0.ne hpa
  have x1 := (Ext.refl P0).new (o := .lst []) P0 hpa
  refine vTake rfl x1.pool (by decide) (by decide) fun m H1 m0 m1 x2 => ?_
  refine ⟨_, rfl, by omega, by omega, for_range (lo := 0) (n := m.toNat) (fun i σ H' => ∃ (o2 o3 : Option V) (as : List Addr) (ps : List (Int × Int)), σ = [some (.ref l), some (.ref pa), o2, o3] ∧ Ext l c H H' ∧ H' pa = some (.lst (as.map V.ref)) ∧ Paired (fun a pr => SqT K H' a [.int pr.1, .int pr.2]) as ps ∧ ps.length ≤ i ∧ (∀ p ∈ ps, 0 ≤ p.1 ∧ p.1 < 10 * i) ∧ (ps.map Prod.fst).Nodup) ?_ ?_ ?_⟩
  · exact ⟨_, _, [], [], rfl, x1.trans x2, x2.keep _ _ npa.1 upd_same, .nil, Nat.le_refl _, fun p h => absurd h List.not_mem_nil, List.nodup_nil⟩
  · rintro i σ H2 hi ⟨o2, o3, as, ps, rfl, x3, hpa2, pr, lps, bd, nd⟩
    have lap := paired_len pr
    refine vTake rfl x3.pool (by decide) (by decide) fun k H3 k0 k1 x4 => ⟨_, _, rfl, rfl, _, rfl, rfl, _, rfl, ?_⟩
    have pr3 := pmono pr (S := fun a pr => SqT K H3 a [.int pr.1, .int pr.2]) fun _ _ z => x4.seqT x3.pool z
    have hpa3 := x4.keep _ _ npa.1 hpa2
    have bd3 : ∀ p ∈ ps, 0 ≤ p.1 ∧ p.1 < 10 * ((i + 1 : Nat) : Int) := fun p hp => by have := bd p hp; omega
    by_cases hk : k - 3 = 0
    · rw [decide_eq_true (show V.int (k - 3) = V.int 0 by rw [hk])]
      exact iteF ⟨_, _, as, ps, rfl, x3.trans x4, hpa3, pr3, by omega, bd3, nd⟩
    · rw [decide_eq_false (fun z : V.int (k - 3) = V.int 0 => hk (V.int.inj z))]
      refine iteT ⟨_, rfl, .inl ⟨rfl, _, SqL.of hpa3⟩, _, rfl, _, _, rfl, rfl, .inl ⟨by decide, by decide⟩, vTake rfl x4.pool (by decide) (by decide) fun e H4 e0 e1 x5 => ⟨_, _, rfl, rfl, _, rfl, small (by show 2 ≤ _; decide), fun p hp => ?_⟩⟩
      have s5 := same_new (o := .tup [.int (10 * (0 + (i : Int)) + e), .int (k - 3)]) hp
      have hpa4 := s5 _ _ (x5.keep _ _ npa.1 hpa3)
      have x6 := ((x3.trans x4).trans x5).same s5
      refine ⟨pa, _, .ref p, rfl, rfl, hpa4, smallL (by rw [List.length_map]; omega), _, _, as ++ [p], ps ++ [(10 * (0 + (i : Int)) + e, k - 3)], rfl, x6.upd P0 hpa, by rw [upd_same, List.map_append]; rfl, ?_, by rw [List.length_append]; show _ + 1 ≤ _; omega, fun z hz => ?_, ?_⟩
      · have a1 := pmono pr3 (S := fun a pr => SqT K (upd (upd H4 p (.tup [.int (10 * (0 + (i : Int)) + e), .int (k - 3)])) pa (.lst (as.map V.ref ++ [.ref p]))) a [.int pr.1, .int pr.2]) fun _ _ z => seqT_upd (Same.seqT s5 (x5.seqT x4.pool z)) hpa4
        have a2 : SqT K (upd (upd H4 p (.tup [.int (10 * (0 + (i : Int)) + e), .int (k - 3)])) pa (.lst (as.map V.ref ++ [.ref p]))) p [.int (10 * (0 + (i : Int)) + e), .int (k - 3)] := seqT_upd (SqT.of upd_same) hpa4
        exact paired_snoc a1 a2
      · rcases List.mem_append.mp hz with hz | hz
        · exact bd3 z hz
        · rw [List.mem_singleton.mp hz]; exact ⟨by show 0 ≤ 10 * (0 + (i : Int)) + e; omega, by show 10 * (0 + (i : Int)) + e < _; omega⟩
      · rw [List.map_append]
        refine List.nodup_append.mpr ⟨nd, by simp, fun a ha b hb => ?_⟩
        rw [List.mem_singleton.mp (show b ∈ [10 * (0 + (i : Int)) + e] from hb)]
        obtain ⟨z, hz, rfl⟩ := List.mem_map.mp ha
        have := bd z hz
        omega
  rintro σ H2 ⟨o2, o3, as, ps, rfl, x3, hpa2, pr, lps, bd, nd⟩
  refine ⟨_, rfl, pa, _, rfl, SqL.of hpa2, fun tp o htp hod => ?_⟩
  have s3 : Same H2 (upd H2 tp (.frz o (.tup (as.map V.ref)))) := same_new htp
  have x4 := x3.same s3
  have ntp := x3.pool.ne htp
  refine ⟨_, rfl, l, c, rfl, x4.pool, fun H4 n x5 => ⟨small (by show 3 ≤ _; decide), fun p hp => ?_⟩⟩
  have htp4 := x5.keep _ _ ntp.1 (upd_same (H := H2) (a := tp) (o := .frz o (.tup (as.map V.ref))))
  have s6 := same_new (o := .tup [.str "sum", .ref tp, .int n]) hp
  refine q _ _ ps n ((x4.trans x5).same s6) ⟨⟨p, tp, o, as, rfl, SqT.of upd_same, s6 _ _ htp4, hod, pmono pr fun _ _ z => Same.seqT s6 (x5.seqT x4.pool (Same.seqT s3 z))⟩, by omega, fun z hz => ?_⟩ nd
  have := bd z hz
  omega
theorem ok_giv {f : Addr} {fd : FuncData} (F : Fun K "_law_given" "_law_given" s_law_given f fd) (T : Txt K mg) (C_law_take : C8.Cal P w K mg base 2 "_law_take" (spTake 2) []) (C_law_sum : C8.Cal P w K mg base 4 "_law_sum" (spSumD K) []) : FnOk P w K mg base CX0 5 f fd ["pool"] (spGiv K) := by
  refine F.ok sc_law_given (fun vs H Q E h => ?_) (fun cdv A outer s H vs Q E hr h => ?_)
  · obtain ⟨_, _, rfl, _⟩ := h
    rfl
  obtain ⟨l, c, rfl, P0, q⟩ := h
  refine ⟨_, (pss_cons (ps_set (i := 1) sc_law_given.nd rfl (Or.inl rfl) (C8.pe_c C_law_take hr (by decide) rfl (pa_cons (pv 0) (pa_cons pe_int pa_nil))))
    (pss_cons (ps_if (pt_cmpR op_eq (pv 1) pe_int (nomark _)) (pss_one (ps_ret (C8.pe_c C_law_sum hr (by decide) rfl (pa_cons (pv 0) pa_nil)))) pss_nil)
    (pss_cons (ps_if (pt_cmpR op_eq (pv 1) pe_int (nomark _)) (pss_one (ps_ret (pe_tup (pa_cons pe_str (pa_cons (pe_op op_add_str pe_str (pe_callTy call_str_int (by rfl) T.z_str (by decide +kernel) (pa_cons (C8.pe_c C_law_take hr (by decide) rfl (pa_cons (pv 0) (pa_cons pe_int pa_nil))) pa_nil))) pa_nil))))) pss_nil)
    (pss_cons (ps_if (pt_cmpR op_eq (pv 1) pe_int (nomark _)) (pss_one (ps_ret (pe_tup (pa_cons pe_str (pa_cons (C8.pe_c C_law_take hr (by decide) rfl (pa_cons (pv 0) (pa_cons pe_int pa_nil))) pa_nil))))) pss_nil)
    (pss_one (ps_ret (pe_tup (pa_cons pe_str (pa_cons (C8.pe_c C_law_take hr (by decide) rfl (pa_cons (pv 0) (pa_cons pe_int pa_nil))) pa_nil))))))))), ?_⟩
  refine vTake rfl P0 (by decide) (by decide) fun k H1 k0 k1 x1 => ⟨_, rfl, rfl, _, rfl, ite2 (fun _ => ?_) (fun _ => ⟨_, rfl, rfl, _, rfl, ite2 (fun _ => ?_) (fun _ => ⟨_, rfl, rfl, _, rfl, ite2 (fun _ => ?_) (fun _ => ?_)⟩)⟩)⟩
  · refine ⟨_, rfl, l, c, rfl, x1.pool, fun H2 v ps n x2 sm nd => q H2 v (.sum ps n) (x1.trans x2) sm.dt (.mk ⟨sm.le, sm.bd, nd⟩ fun k hk => absurd hk List.not_mem_nil) rfl⟩
  · refine vTake rfl x1.pool (by decide) (by decide) fun e H2 e0 e1 x2 => ?_
    have no := numOk' e0 (show e < 128 by omega)
    refine ⟨e, rfl, log_ok e0 (by omega), _, numT e, rfl, rfl, small (by have := no.1; show 1 + _ ≤ _; omega), small (by show 2 ≤ _; decide), fun p hp => q _ _ (.name (("n" : Str) ++ numT e)) ((x1.trans x2).same (same_new hp)) ?_ (.mk no.2.1 fun k hk => absurd hk List.not_mem_nil) rfl⟩
    unfold Sy.d
    exact Dt.mk2 hp (.str _) (.str _)
  · refine vTake rfl x1.pool (by decide) (by decide) fun e H2 e0 e1 x2 => ⟨small (by show 2 ≤ _; decide), fun p hp => q _ _ (.addr e) ((x1.trans x2).same (same_new hp)) ?_ (.mk trivial fun k hk => absurd hk List.not_mem_nil) rfl⟩
    unfold Sy.d
    exact Dt.mk2 hp (.str _) (.int _)
  · refine vTake rfl x1.pool (by decide) (by decide) fun e H2 e0 e1 x2 => ⟨small (by show 2 ≤ _; decide), fun p hp => q _ _ (.unk e) ((x1.trans x2).same (same_new hp)) ?_ (.mk ⟨e0, by omega⟩ fun k hk => absurd hk List.not_mem_nil) rfl⟩
    unfold Sy.d
    exact Dt.mk2 hp (.str _) (.int _)
end
end PK
namespace PK
open PySem L2
/-! the law: terms drawn, what is due -/
theorem Pool.ne' {H : Hp} {l c p : Addr} {xs : List V} (P : Pool H l c) (h : H p = some (.tup xs)) : p ≠ l := fun e => by
  subst e
  obtain ⟨ns, i, r, s, hl, _⟩ := P
  rw [hl] at h; cases h
def bs : Nat → Nat
  | 0 => 1
  | n + 1 => 1 + 10 * bs n
theorem bs_pos (n : Nat) : 1 ≤ bs n := by cases n with
  | zero => exact Nat.le_refl _
  | succ n => show 1 ≤ 1 + _; omega
def spTermD (K : PySem.W.Frag) (n : Nat) : Sp := fun vs H Q _ => ∃ (l c wa : Addr) (ws : List Str) (d : Nat) (G : Gt), vs = [.ref l, .ref wa, .int (d : Nat)] ∧ d < n ∧ Pool H l c ∧ wa ≠ l ∧ H wa = some (.lst (ws.map V.str)) ∧ ws ≠ [] ∧ ws.length ≤ 10 ∧ (∀ w ∈ ws, ∃ t, lookA G w = some t) ∧
  ∀ (H' : Hp) (v : V) (t : Tm), Ext l c H H' → Dt K H' v t.d → GN G t → t.ht ≤ d + 1 → t.size ≤ bs d → Q v H'
theorem sum_le_mul {m : Nat} {f : Tm → Nat} : ∀ ks : List Tm, (∀ k ∈ ks, f k ≤ m) → (ks.map f).sum ≤ ks.length * m
  | [], _ => Nat.zero_le _
  | e :: es, h => by
    have h1 := h e List.mem_cons_self
    have h2 := sum_le_mul (f := f) (m := m) es fun z hz => h z (List.mem_cons_of_mem _ hz)
    rw [List.map_cons, List.sum_cons, List.length_cons, Nat.succ_mul]; omega
def spDueL (K : PySem.W.Frag) (n : Nat) : Sp := fun vs H Q _ => ∃ (v : V) (ub : Addr) (t : Tm) (kvs : List (Key × V)) (G : Gt), vs = [v, .ref ub] ∧ Dt K H v t.d ∧ H ub = some (.dK kvs) ∧ BindS K H kvs G ∧ GN G t ∧ t.ht ≤ n ∧
  ∀ (H' : Hp) (v : V), Same H H' → Dt K H' v (due G t).d → Q v H'
section
variable {P : Program} {w : World} {K : PySem.W.Frag} {mg : Str → Option Value} {base : Heap} {aF : Addr}
abbrev s_law_term : Stmt := topS 20
theorem sc_law_term : FnScope ["pool", "words", "depth", "kind", "names", "many", "k", "name"] ["pool", "words", "depth"] (defScope s_law_term) := ⟨rfl, rfl, rfl, by decide +kernel, rfl, by decide +kernel, by decide +kernel⟩
-- slots: 0:pool(cell) 1:words(cell) 2:depth(cell) 3:kind 4:names 5:many 6:k(comp) 7:name(comp)
abbrev s_law_due : Stmt := topS 21
theorem sc_law_due : FnScope ["term", "table", "pair", "part"] ["term", "table"] (defScope s_law_due) := ⟨rfl, rfl, rfl, by decide +kernel, rfl, by decide +kernel, by decide +kernel⟩
-- slots: 0:term 1:table(cell) 2:pair(comp) 3:part(comp)
theorem ok_term {n : Nat} {f : Addr} {fd : FuncData} (F : Fun K "_law_term" "_law_term" s_law_term f fd) (T : Txt K mg) (C_law_take : C8.Cal P w K mg base 2 "_law_take" (spTake 2) []) (C_law_whole : C8.Cal P w K mg base 3 "_law_whole" spWho []) (C_law_term : C8.Cal P w K mg base (n + 3) "_law_term" (spTermD K n) []) : FnOk P w K mg base CX0 (n + 4) f fd ["pool", "words", "depth"] (spTermD K (n + 1)) := by
  refine F.ok sc_law_term (fun vs H Q E h => ?_) (fun cdv A outer s H vs Q E hr h => ?_)
  · obtain ⟨_, _, _, _, _, _, rfl, _⟩ := h
    rfl
  obtain ⟨l, c, wa, ws, d, G, rfl, hd, P0, nwa, hwa, wne, lw, look, q⟩ := h
  refine ⟨_, (pss_cons (ps_set (i := 3) sc_law_term.nd rfl (Or.inl rfl) (C8.pe_c C_law_take hr (by omega) rfl (pa_cons (pv 0) (pa_cons pe_int pa_nil))))
    (C8.pss_cut (ps_if (PW.pt (pw_or (pt_cmpR op_lt (pv 3) pe_int (nomark _)) (pw_or1 (pt_cmpR op_lt (pv 2) pe_int (nomark _))))) (pss_one (ps_ret (pe_ix ix_tup (pe_tup (pa_cons (pe_tup (pa_cons pe_str (pa_cons (C8.pe_c C_law_whole hr (by omega) rfl (pa_cons (pv 0) pa_nil)) pa_nil))) (pa_cons (pe_tup (pa_cons pe_str (pa_cons (pe_op op_add_str pe_str (pe_callTy call_str_int (by rfl) T.z_str (by decide +kernel) (pa_cons (C8.pe_c C_law_take hr (by omega) rfl (pa_cons (pv 0) (pa_cons pe_int pa_nil))) pa_nil))) pa_nil))) pa_nil))) (C8.pe_c C_law_take hr (by omega) rfl (pa_cons (pv 0) (pa_cons pe_int pa_nil))) (fun _ _ => rfl)))) pss_nil)
    (pss_cons (ps_if (pt_cmpR op_eq (pv 3) pe_int (nomark _)) (pss_one (ps_ret (pe_tup (pa_cons pe_str (pa_cons (C8.pe_c C_law_take hr (by omega) rfl (pa_cons (pv 0) (pa_cons pe_int pa_nil))) pa_nil))))) pss_nil)
    (pss_cons (ps_if (pt_cmpR op_lt (pv 3) pe_int (nomark _)) (pss_one (ps_ret (pe_tup (pa_cons pe_str (pa_cons (pe_ix ix_list (pv 1) (C8.pe_c C_law_take hr (by omega) rfl (pa_cons (pv 0) (pa_cons (pe_callB call_len_seq (by rfl) T.z_len (by decide +kernel) (pa_cons (pv 1) pa_nil)) pa_nil))) (fun _ _ => rfl)) pa_nil))))) pss_nil)
    (pss_cons (ps_if (pt_cmpR op_eq (pv 3) pe_int (nomark _)) (pss_cons (ps_set (i := 4) sc_law_term.nd rfl (Or.inl rfl) (pe_callB cr_sortedS (by rfl) T.z_sorted (by decide +kernel) (pa_cons (pe_lc (own := [("k", 6)]) (g := (gName 6)) (by rfl) sc_law_term.nd (pi_range1 (by rfl) T.z_range (pa_cons pe_int pa_nil)) (blkOk_by (N := ["pool", "words", "depth", "kind", "names", "many", "k", "name"]) (sc := defScope s_law_term) (by decide +kernel)) (fun _ _ _ _ _ => (pg_name (i := 6) sc_law_term.nd rfl (Or.inl rfl))) (fun _ _ _ _ _ => pts_one (pt_cmpR op_eq (C8.pe_c C_law_take hr (by omega) rfl (pa_cons (pv 0) (pa_cons pe_int pa_nil))) pe_int (nomark _))) (fun _ _ _ _ _ => (pe_op op_add_str pe_str (pe_callTy call_str_int (by rfl) T.z_str (by decide +kernel) (pa_cons (pv 6) pa_nil))))) pa_nil)))
    (pss_one (ps_ret (pe_tup (pa_cons pe_str (pa_cons (pe_callTy call_tuple_of (by rfl) T.z_tuple (by decide +kernel) (pa_cons (pe_lc (own := [("name", 7)]) (g := (gName 7)) (tt := tYes) (by rfl) sc_law_term.nd (pi_list (pv 4)) (blkOk_by (N := ["pool", "words", "depth", "kind", "names", "many", "k", "name"]) (sc := defScope s_law_term) (by decide +kernel)) (fun _ _ _ _ _ => (pg_name (i := 7) sc_law_term.nd rfl (Or.inl rfl))) (fun _ _ _ _ _ => pts_nil) (fun _ _ _ _ _ => (pe_tup (pa_cons (pv 7) (pa_cons (C8.pe_c C_law_term hr (by omega) rfl (pa_cons (pv 0) (pa_cons (pv 1) (pa_cons (pe_op op_sub (pv 2) pe_int) pa_nil)))) pa_nil))))) pa_nil)) pa_nil)))))) pss_nil)
    (pss_cons (ps_set (i := 5) sc_law_term.nd rfl (Or.inl rfl) (C8.pe_c C_law_take hr (by omega) rfl (pa_cons (pv 0) (pa_cons pe_int pa_nil))))
    (pss_one (ps_ret (pe_tup (pa_cons pe_str (pa_cons (pe_op op_add_str pe_str (pe_callTy call_str_int (by rfl) T.z_str (by decide +kernel) (pa_cons (pv 5) pa_nil))) (pa_cons (pe_callTy call_tuple_of (by rfl) T.z_tuple (by decide +kernel) (pa_cons (pe_lc (own := [("k", 6)]) (g := (gName 6)) (tt := tYes) (by rfl) sc_law_term.nd (pi_range1 (by rfl) T.z_range (pa_cons (pv 5) pa_nil)) (blkOk_by (N := ["pool", "words", "depth", "kind", "names", "many", "k", "name"]) (sc := defScope s_law_term) (by decide +kernel)) (fun _ _ _ _ _ => (pg_name (i := 6) sc_law_term.nd rfl (Or.inl rfl))) (fun _ _ _ _ _ => pts_nil) (fun _ _ _ _ _ => (C8.pe_c C_law_term hr (by omega) rfl (pa_cons (pv 0) (pa_cons (pv 1) (pa_cons (pe_op op_sub (pv 2) pe_int) pa_nil)))))) pa_nil)) pa_nil)))))))))))), ?_⟩
  have wpos := List.length_pos_iff.mpr wne
  have leafQ : ∀ (H2 : Hp) (v : V) (t : Tm), Ext l c H H2 → Dt K H2 v t.d → t.kids = [] → gN G t → Q v H2 := fun H2 v t x dv hk g => q H2 v t x dv (.mk g fun k h => by rw [hk] at h; cases h) (by
    have : t.ht ≤ 0 + 1 := Tm.ht_le fun k h => by rw [hk] at h; cases h
    omega) (by rw [Tm.size_eq, hk]; have := bs_pos d; show 1 + 0 ≤ _; omega)
  refine vTake rfl P0 (by decide) (by decide) fun k H1 k0 k1 x1 => ?_
  refine ⟨fun σ' H' => σ' = [some (.ref l), some (.ref wa), some (.int (d : Nat)), some (.int k), none, none, none, none] ∧ H' = H1 ∧ 1 ≤ d, ?_, ?_⟩
  · refine ⟨_, rfl, _, _, rfl, rfl, _, rfl, ite2 (fun _ => ?_) (fun _ => ⟨_, rfl, _, _, rfl, rfl, _, rfl, ite2 (fun _ => ?_) (fun e => ?_)⟩)⟩
    rotate_left 2
    · refine ⟨rfl, rfl, ?_⟩
      by_cases z : ((d : Nat) : Int) < 1
      · exact absurd (decide_eq_true z) e
      · omega
    refine iteT ?_
    all_goals
      refine ⟨_, rfl, l, c, rfl, x1.pool, fun H2 n x2 => ⟨small (by show 2 ≤ _; decide), fun p1 hp1 => ?_⟩⟩
      have x2' := x2.same (same_new (o := .tup [.str "int", .int n]) hp1)
      have np1 := x2.pool.ne hp1
      refine vTake rfl x2'.pool (by decide) (by decide) fun e H3 e0 e1 x3 => ?_
      have no := numOk' e0 (show e < 128 by omega)
      refine ⟨e, rfl, log_ok e0 (by omega), _, numT e, rfl, rfl, small (by have := no.1; show 1 + _ ≤ _; omega), small (by show 2 ≤ _; decide), fun p2 hp2 => ⟨small (by show 2 ≤ _; decide), fun p3 hp3 => ?_⟩⟩
      have s3 := same_new (o := .tup [.str "name", .str (("k" : Str) ++ numT e)]) hp2
      have s4 := same_new (o := .tup [.ref p1, .ref p2]) hp3
      have x4 := ((x1.trans x2').trans x3).same (s3.trans s4)
      have q1 := s4 _ _ (s3 _ _ (x3.keep _ _ np1.1 (upd_same (H := H2) (a := p1) (o := .tup [.str "int", .int n]))))
      have q2 := s4 _ _ (upd_same (H := H3) (a := p2) (o := .tup [.str "name", .str (("k" : Str) ++ numT e)]))
      have q3 : (upd (upd H3 p2 (.tup [.str "name", .str (("k" : Str) ++ numT e)])) p3 (.tup [.ref p1, .ref p2])) p3 = some (.tup [.ref p1, .ref p2]) := upd_same
      generalize upd (upd H3 p2 (.tup [.str "name", .str (("k" : Str) ++ numT e)])) p3 (.tup [.ref p1, .ref p2]) = H4 at x4 q1 q2 q3 ⊢
      refine vTake rfl x4.pool (by decide) (by decide) fun j H5 j0 j1 x5 => ?_
      have np1' := (x4.pool.ne' q1)
      have np2' := (x4.pool.ne' q2)
      have np3' := (x4.pool.ne' q3)
      have r1 := x5.keep _ _ np1' q1
      have r2 := x5.keep _ _ np2' q2
      have r3 := x5.keep _ _ np3' q3
      rcases show j = 0 ∨ j = 1 by omega with rfl | rfl
      · refine ⟨p3, _, _, _, rfl, rfl, SqT.of r3, atI_nat (j := 0) rfl, leafQ _ _ (.int n) (x4.trans x5) ?_ rfl trivial⟩
        unfold Tm.d
        exact .tup (SqT.of r1) (.cons (.str _) (.cons (.int _) .nil))
      · refine ⟨p3, _, _, _, rfl, rfl, SqT.of r3, atI_nat (j := 1) rfl, leafQ _ _ (.name (("k" : Str) ++ numT e)) (x4.trans x5) ?_ rfl no.2.2.1⟩
        unfold Tm.d
        exact .tup (SqT.of r2) (.cons (.str _) (.cons (.str _) .nil))
  rintro σ' H' ⟨rfl, hH, hd1⟩
  obtain rfl := hH.symm
  obtain ⟨d, rfl⟩ : ∃ j, d = j + 1 := ⟨d - 1, by omega⟩
  refine ⟨_, rfl, rfl, _, rfl, ite2 (fun _ => ?_) (fun _ => ?_)⟩
  · refine vTake rfl x1.pool (by decide) (by decide) fun e H2 e0 e1 x2 => ⟨small (by show 2 ≤ _; decide), fun p hp => leafQ _ _ (.addr e) ((x1.trans x2).same (same_new hp)) ?_ rfl trivial⟩
    unfold Tm.d
    exact Dt.mk2 hp (.str _) (.int _)
  refine ⟨_, rfl, _, _, rfl, rfl, _, rfl, ite2 (fun _ => ?_) (fun _ => ?_)⟩
  · have hwa1 := x1.keep _ _ nwa hwa
    refine ⟨_, rfl, _, rfl, _, rfl, wa, _, rfl, .inl (SqL.of hwa1), l, c, _, False, rfl, x1.pool, by rw [List.length_map]; omega, by rw [List.length_map]; omega, .inl (Nat.le_refl 2), fun e H2 e0 e1 x2 => ?_⟩
    rw [List.length_map] at e1
    obtain ⟨j, rfl⟩ : ∃ j : Nat, e = j := ⟨e.toNat, by omega⟩
    have hj : j < ws.length := by omega
    refine ⟨wa, _, _, .str ws[j], rfl, rfl, SqL.of (x2.keep _ _ nwa hwa1), atI_nat (by rw [List.getElem?_map, List.getElem?_eq_getElem hj]; rfl), small (by show 2 ≤ _; decide), fun p hp => leafQ _ _ (.var ws[j]) ((x1.trans x2).same (same_new hp)) ?_ rfl (look _ (List.getElem_mem hj))⟩
    unfold Tm.d
    exact Dt.mk2 hp (.str _) (.str _)
  refine ⟨_, rfl, rfl, _, rfl, ite2 (fun _ => ?_) (fun _ => ?_)⟩
  · -- a map
    refine ⟨_, rfl, by decide, by decide, fun D hD => lc_range (lo := 0) (n := 10) (fun i H' => ∃ zs : List Str, Ext l c H1 H' ∧ H' D = some (.lst (zs.map V.str)) ∧ zs.length ≤ i ∧ ∀ z ∈ zs, SOk z) ?_ ?_ ?_⟩
    · exact ⟨[], (Ext.refl x1.pool).new x1.pool hD, upd_same, Nat.le_refl _, fun z h => absurd h List.not_mem_nil⟩
    · rintro i H2 hi ⟨zs, x2, hD2, lz, okz⟩
      have nD := x1.pool.ne hD
      refine ⟨rfl, vTake rfl x2.pool (by decide) (by decide) fun e H3 e0 e1 x3 => ⟨rfl, _, rfl, ite2 (fun _ => ?_) (fun _ => ?_)⟩⟩
      · have no := numOk' (i := 0 + (i : Int)) (by omega) (by omega)
        have hD3 := x3.keep _ _ nD.1 hD2
        refine ⟨_, rfl, _, rfl, log_ok (by omega) (by omega), _, numT (0 + (i : Int)), rfl, rfl, small (by have := no.1; show 1 + _ ≤ _; omega), _, hD3, smallL (by rw [List.length_map]; omega), zs ++ [("a" : Str) ++ numT (0 + (i : Int))], (x2.trans x3).upd x1.pool hD, by rw [upd_same, List.map_append]; rfl, by rw [List.length_append]; show _ + 1 ≤ _; omega, fun z hz => ?_⟩
        rcases List.mem_append.mp hz with hz | hz
        · exact okz z hz
        · rw [List.mem_singleton.mp hz]; exact no.2.2.2.1
      · exact ⟨zs, x2.trans x3, x3.keep _ _ nD.1 hD2, by omega, okz⟩
    rintro H2 ⟨zs, x2, hD2, lz, okz⟩
    refine ⟨D, zs, rfl, SqL.of hD2, by omega, fun ys py pm so hpy => ?_⟩
    have lys : ys.length = zs.length := pm.length_eq
    have s3 := same_new (o := .lst (ys.map V.str)) hpy
    have npy := x2.pool.ne hpy
    have hpy3 : (upd H2 py (.lst (ys.map V.str))) py = some (.lst (ys.map V.str)) := upd_same
    have x3 := (x1.trans x2).same s3
    generalize upd H2 py (.lst (ys.map V.str)) = H3 at s3 hpy3 x3 ⊢
    refine ⟨_, rfl, py, rfl, ⟨_, SqL.of hpy3⟩, fun D2 hD22 => lcX (K := K) (walk_list (xs := ys.map V.str)) x3.pool hD22 (by rw [List.length_map]; omega) (fun ds => ∃ es : List (Str × Tm), ds = es.map Tm.ent ∧ es.map Prod.fst = ys.take ds.length ∧ ∀ e ∈ es, GN G e.2 ∧ e.2.ht ≤ d + 1 ∧ e.2.size ≤ bs d) ⟨[], rfl, rfl, fun e h => absurd h List.not_mem_nil⟩ (fun H' x => SqL.of (x.keep _ _ npy.1 hpy3)) ?_ ?_⟩
    · rintro i x H4 H4 ds R hi x4 ⟨rfl, gx⟩ ⟨es, rfl, en, ok⟩ len r
      rw [List.length_map] at hi len
      rw [List.getElem?_map, List.getElem?_eq_getElem hi] at gx
      cases gx
      have x34 := x3.trans x4
      refine ⟨rfl, _, rfl, _, rfl, _, rfl, _, rfl, _, _, rfl, rfl, ?_⟩
      refine ⟨l, c, wa, ws, d, G, by show [V.ref l, V.ref wa, V.int (((d + 1 : Nat) : Int) - 1)] = _; rw [show ((d + 1 : Nat) : Int) - 1 = (d : Nat) by omega], by omega, x4.pool, nwa, x34.keep _ _ nwa hwa, wne, lw, look, fun H5 v5 t5 x5 dv5 ok5 ht5 sz5 => ?_⟩
      refine ⟨small (by show 2 ≤ _; decide), fun p hp => r (Tm.ent (ys[i], t5)) _ _ (x5.new x4.pool hp) ?_ ⟨es ++ [(ys[i], t5)], by rw [List.map_append]; rfl, ?_, fun e he => ?_⟩⟩
      · unfold Tm.ent
        exact Dt.mk2 hp (.str _) dv5
      · rw [List.length_append, List.length_map, List.map_append, len]
        show _ ++ [ys[i]] = ys.take (i + 1)
        rw [List.length_map, len] at en
        rw [en, List.take_add_one, List.getElem?_eq_getElem hi]; rfl
      · rcases List.mem_append.mp he with h | h
        · exact ok e h
        · rw [List.mem_singleton.mp h]; exact ⟨ok5, ht5, sz5⟩
    rintro H4 wv ds x4 hwv da len ⟨es, rfl, en, ok⟩
    have les : es.length = ys.length := by rw [List.length_map, List.length_map] at len; exact len
    rw [List.length_map, les, List.take_length] at en
    refine ⟨D2, _, rfl, .inl ⟨SqL.of hwv, fun p1 hp1 => ⟨small (by show 2 ≤ _; decide), fun p2 hp2 => ?_⟩⟩⟩
    have s4 := (same_new (o := .tup wv) hp1).trans (same_new (o := .tup [.str "map", .ref p1]) hp2)
    refine q _ _ (.map es) ((x3.trans x4).same s4) ?_ (.mk ⟨by omega, fun e he => ?_⟩ fun k hk => ?_) (Tm.ht_le fun k hk => ?_) ?_
    · unfold Tm.d
      rw [Tm.es_map]
      exact Dt.mk2 hp2 (.str _) (.tup (SqT.of upd_same) (da.same (same_new hp1)))
    · exact okz e.1 (pm.mem_iff.mp (by rw [← en]; exact List.mem_map.mpr ⟨e, he, rfl⟩))
    · obtain ⟨e, he, rfl⟩ := List.mem_map.mp hk
      exact (ok e he).1
    · obtain ⟨e, he, rfl⟩ := List.mem_map.mp hk
      exact (ok e he).2.1
    · rw [Tm.size_eq]
      show 1 + ((es.map Prod.snd).map Tm.size).sum ≤ 1 + 10 * bs d
      have h1 := sum_le_mul (f := Tm.size) (m := bs d) (es.map Prod.snd) fun k hk => by
        obtain ⟨e, he, rfl⟩ := List.mem_map.mp hk
        exact (ok e he).2.2
      rw [List.length_map] at h1
      have h2 := Nat.mul_le_mul_right (bs d) (show es.length ≤ 10 by omega)
      omega
  · -- a node
    refine vTake rfl x1.pool (by decide) (by decide) fun m H2 m0 m1 x2 => ?_
    have no := numOk' m0 (show m < 128 by omega)
    have x12 := x1.trans x2
    refine ⟨_, rfl, m, rfl, log_ok m0 (by omega), _, numT m, rfl, rfl, small (by have := no.1; show 1 + _ ≤ _; omega), ?_⟩
    refine ⟨_, rfl, m, rfl, by omega, by omega, fun D hD => lcX (K := K) (walk_range (lo := 0) (n := m.toNat)) x2.pool hD (by omega) (fun ds => ∃ ks : List Tm, ds = ks.map Tm.d ∧ ∀ k ∈ ks, GN G k ∧ k.ht ≤ d + 1 ∧ k.size ≤ bs d) ⟨[], rfl, fun e h => absurd h List.not_mem_nil⟩ (fun _ _ => trivial) ?_ ?_⟩
    · rintro i x H4 H4 ds R hi x4 ⟨rfl, rfl⟩ ⟨ks, rfl, ok⟩ len r
      have x14 := x12.trans x4
      refine ⟨rfl, _, rfl, _, rfl, _, rfl, _, _, rfl, rfl, ?_⟩
      refine ⟨l, c, wa, ws, d, G, by show [V.ref l, V.ref wa, V.int (((d + 1 : Nat) : Int) - 1)] = _; rw [show ((d + 1 : Nat) : Int) - 1 = (d : Nat) by omega], by omega, x4.pool, nwa, x14.keep _ _ nwa hwa, wne, lw, look, fun H5 v5 t5 x5 dv5 ok5 ht5 sz5 => ?_⟩
      refine r t5.d _ _ x5 dv5 ⟨ks ++ [t5], by rw [List.map_append]; rfl, fun e he => ?_⟩
      rcases List.mem_append.mp he with h | h
      · exact ok e h
      · rw [List.mem_singleton.mp h]; exact ⟨ok5, ht5, sz5⟩
    rintro H4 wv ds x4 hwv da len ⟨ks, rfl, ok⟩
    rw [List.length_map] at len
    have lk : ks.length ≤ 3 := by omega
    refine ⟨D, _, rfl, .inl ⟨SqL.of hwv, fun p1 hp1 => ⟨small (by show 3 ≤ _; decide), fun p2 hp2 => ?_⟩⟩⟩
    have s4 := (same_new (o := .tup wv) hp1).trans (same_new (o := .tup [.str "node", .str (("c" : Str) ++ numT m), .ref p1]) hp2)
    refine q _ _ (.node (("c" : Str) ++ numT m) ks) ((x12.trans x4).same s4) ?_ (.mk ⟨no.2.2.2.2, lk⟩ fun k hk => (ok k hk).1) (Tm.ht_le fun k hk => (ok k hk).2.1) ?_
    · unfold Tm.d
      rw [Tm.ds_map]
      exact Dt.mk3 hp2 (.str _) (.str _) (.tup (SqT.of upd_same) (da.same (same_new hp1)))
    · rw [Tm.size_eq]
      show 1 + (ks.map Tm.size).sum ≤ 1 + 10 * bs d
      have h1 := sum_le_mul (f := Tm.size) (m := bs d) ks fun e he => (ok e he).2.2
      have h2 := Nat.mul_le_mul_right (bs d) (show ks.length ≤ 10 by omega)
      omega
theorem ok_due {n : Nat} {f : Addr} {fd : FuncData} (F : Fun K "_law_due" "_law_due" s_law_due f fd) (T : Txt K mg) (C_law_due : C8.Cal P w K mg base n "_law_due" (spDueL K n) []) : FnOk P w K mg base CX0 (n + 1) f fd ["term", "table"] (spDueL K (n + 1)) := by
  refine F.ok sc_law_due (fun vs H Q E h => ?_) (fun cdv A outer s H vs Q E hr h => ?_)
  · obtain ⟨_, _, _, _, _, rfl, _⟩ := h
    rfl
  obtain ⟨v, ub, t, kvs, G, rfl, hv, hub, bs', gn, hh, q⟩ := h
  refine ⟨_, (pss_cons (ps_if (pt_cmpR op_eq (pe_ix ix_tup (pv 0) pe_int (fun _ _ => rfl)) pe_str (nomark _)) (pss_one (ps_ret (pe_tup (pa_cons pe_str (pa_cons (pe_tup pa_nil) (pa_cons (pe_ix ix_tup (pv 0) pe_int (fun _ _ => rfl)) pa_nil)))))) pss_nil)
    (pss_cons (ps_if (pt_cmpR op_eq (pe_ix ix_tup (pv 0) pe_int (fun _ _ => rfl)) pe_str (nomark _)) (pss_one (ps_ret (pe_dget (hu_of hr) (pv 1) (pe_ix ix_tup (pv 0) pe_int (fun _ _ => rfl)) (fun _ _ => rfl)))) pss_nil)
    (pss_cons (ps_if (pt_cmpR op_eq (pe_ix ix_tup (pv 0) pe_int (fun _ _ => rfl)) pe_str (nomark _)) (pss_one (ps_ret (pe_tup (pa_cons pe_str (pa_cons pe_non (pa_cons (pe_callTy call_tuple_of (by rfl) T.z_tuple (by decide +kernel) (pa_cons (pe_lc (own := [("pair", 2)]) (g := (gName 2)) (tt := tYes) (by rfl) sc_law_due.nd (pi_tup (pe_ix ix_tup (pv 0) pe_int (fun _ _ => rfl))) (blkOk_by (N := ["term", "table", "pair", "part"]) (sc := defScope s_law_due) (by decide +kernel)) (fun _ _ _ _ _ => (pg_name (i := 2) sc_law_due.nd rfl (Or.inl rfl))) (fun _ _ _ _ _ => pts_nil) (fun _ _ _ _ _ => (pe_tup (pa_cons (pe_tup (pa_cons pe_str (pa_cons (pe_ix (r := rIxT K) ix_tup (pv 2) pe_int (fun _ _ => rfl)) pa_nil))) (pa_cons (C8.pe_c C_law_due hr (by omega) rfl (pa_cons (pe_ix (r := rIxT K) ix_tup (pv 2) pe_int (fun _ _ => rfl)) (pa_cons (pv 1) pa_nil))) pa_nil))))) pa_nil)) pa_nil)))))) pss_nil)
    (pss_cons (ps_if (pt_cmpR op_eq (pe_ix ix_tup (pv 0) pe_int (fun _ _ => rfl)) pe_str (nomark _)) (pss_one (ps_ret (pe_tup (pa_cons pe_str (pa_cons (pe_ix ix_tup (pv 0) pe_int (fun _ _ => rfl)) (pa_cons (pe_callTy call_tuple_of (by rfl) T.z_tuple (by decide +kernel) (pa_cons (pe_lc (own := [("part", 3)]) (g := (gName 3)) (tt := tYes) (by rfl) sc_law_due.nd (pi_tup (pe_ix ix_tup (pv 0) pe_int (fun _ _ => rfl))) (blkOk_by (N := ["term", "table", "pair", "part"]) (sc := defScope s_law_due) (by decide +kernel)) (fun _ _ _ _ _ => (pg_name (i := 3) sc_law_due.nd rfl (Or.inl rfl))) (fun _ _ _ _ _ => pts_nil) (fun _ _ _ _ _ => (C8.pe_c C_law_due hr (by omega) rfl (pa_cons (pv 3) (pa_cons (pv 1) pa_nil))))) pa_nil)) pa_nil)))))) pss_nil)
    (pss_one (ps_ret (pv 0))))))), ?_⟩
  have hv0 := hv
  cases t with
  | form f ts => exact gn.at_.elim
  | int n =>
    unfold Tm.d at hv
    obtain ⟨a, x, y, rfl, hs, h1, h2⟩ := Dt.t2 hv
    obtain rfl := h1.s
    cases h2
    rw [due] at q
    refine vTx rfl hs rfl ⟨rfl, _, rfl, sT rfl ⟨small (by show 0 ≤ _; decide), fun p1 hp1 => vTx rfl (Same.seqT (same_new hp1) hs) rfl ⟨small (by show 3 ≤ _; decide), fun p2 hp2 => q _ _ ((same_new hp1).trans (same_new hp2)) ?_⟩⟩⟩
    unfold Sy.d
    exact Dt.mk3 hp2 (.str _) (.tup (SqT.of upd_same) .nil) (.int _)
  | var s =>
    unfold Tm.d at hv
    obtain ⟨a, x, y, rfl, hs, h1, h2⟩ := Dt.t2 hv
    obtain rfl := h1.s
    obtain rfl := h2.s
    obtain ⟨u, e⟩ := gn.at_
    obtain ⟨v, ev, dv⟩ := bs' s u e
    rw [due, e] at q
    exact vTx rfl hs rfl ⟨rfl, _, rfl, sF (by decide +kernel) (vTx rfl hs rfl ⟨rfl, _, rfl, sT rfl ⟨_, rfl, vTx rfl hs rfl ⟨ub, v, rfl, by rw [← ev]; exact DGet.k (k := Sum.inr s) hub, q H v (Same.refl H) dv⟩⟩⟩)⟩
  | name s =>
    unfold Tm.d at hv
    obtain ⟨a, x, y, rfl, hs, h1, h2⟩ := Dt.t2 hv
    obtain rfl := h1.s
    rw [due] at q
    refine vTx rfl hs rfl ⟨rfl, _, rfl, sF (by decide +kernel) (vTx rfl hs rfl ⟨rfl, _, rfl, sF (by decide +kernel) (vTx rfl hs rfl ⟨rfl, _, rfl, sF (by decide +kernel) (vTx rfl hs rfl ⟨rfl, _, rfl, sF (by decide +kernel) ⟨_, rfl, q H _ (Same.refl H) ?_⟩⟩)⟩)⟩)⟩
    unfold Sy.d
    unfold Tm.d at hv0
    exact hv0
  | addr n =>
    unfold Tm.d at hv
    obtain ⟨a, x, y, rfl, hs, h1, h2⟩ := Dt.t2 hv
    obtain rfl := h1.s
    rw [due] at q
    refine vTx rfl hs rfl ⟨rfl, _, rfl, sF (by decide +kernel) (vTx rfl hs rfl ⟨rfl, _, rfl, sF (by decide +kernel) (vTx rfl hs rfl ⟨rfl, _, rfl, sF (by decide +kernel) (vTx rfl hs rfl ⟨rfl, _, rfl, sF (by decide +kernel) ⟨_, rfl, q H _ (Same.refl H) ?_⟩⟩)⟩)⟩)⟩
    unfold Sy.d
    unfold Tm.d at hv0
    exact hv0
  | node c ts =>
    unfold Tm.d at hv
    obtain ⟨a, x, y, z, rfl, hs, h1, h2, h3⟩ := Dt.t3 hv
    obtain rfl := h1.s
    obtain rfl := h2.s
    obtain ⟨b, ys, rfl, hb2, hys⟩ := Dt.tn h3
    rw [Tm.ds_map] at hys
    have ly : ys.length = ts.length := by rw [hys.lenD, List.length_map]
    have lk : ts.length ≤ 3 := gn.at_.2
    rw [due_node] at q
    refine vTx rfl hs rfl ⟨rfl, _, rfl, sF (by decide +kernel) (vTx rfl hs rfl ⟨rfl, _, rfl, sF (by decide +kernel) (vTx rfl hs rfl ⟨rfl, _, rfl, sF (by decide +kernel) (vTx rfl hs rfl ⟨rfl, _, rfl, sT rfl (vTx rfl hs rfl (vTx rfl hs rfl ?_))⟩)⟩)⟩)⟩
    refine ⟨b, rfl, ⟨_, hb2⟩, fun D hD => lcS (K := K) (walk_tup (xs := ys)) hD (by omega) (fun ds => ds = ((ts.take ds.length).map (due G)).map Sy.d) rfl (fun H' s => Same.seqT s hb2) ?_ ?_⟩
    · rintro i x H1 H1 ds R' hi s1 ⟨rfl, gx⟩ jd len r'
      obtain ⟨d, gd, dx⟩ := DtAll.getX hys gx
      rw [List.getElem?_map] at gd
      cases e0 : ts[i]? with
      | none => rw [e0] at gd; cases gd
      | some k =>
      rw [e0] at gd
      cases gd
      have hk : k ∈ (Tm.node c ts).kids := List.mem_of_getElem? e0
      have := Tm.ht_kid hk
      refine ⟨rfl, _, rfl, _, rfl, x, ub, k, kvs, G, rfl, dx.same s1, s1 _ _ hub, bs'.same s1, gn.kid hk, by omega, fun H2 v' s2 dv => r' (due G k).d v' H2 s2 dv ?_⟩
      rw [List.length_append, len, show i + [(due G k).d].length = i + 1 from rfl, List.take_add_one, e0, List.map_append, List.map_append]
      rw [len] at jd
      rw [← jd]; rfl
    rintro H1 ws ds s1 hws da len jd
    rw [len, ly, List.take_length] at jd
    rw [jd] at da
    refine ⟨D, _, rfl, .inl ⟨SqL.of hws, fun p1 hp1 => ⟨small (by show 3 ≤ _; decide), fun p2 hp2 => q _ _ ((s1.trans (same_new hp1)).trans (same_new hp2)) ?_⟩⟩⟩
    unfold Sy.d
    rw [Sy.ds_map]
    exact Dt.mk3 hp2 (.str _) (.str _) (.tup (SqT.of upd_same) (da.same (same_new hp1)))
  | map es =>
    unfold Tm.d at hv
    obtain ⟨a, x, y, rfl, hs, h1, h2⟩ := Dt.t2 hv
    obtain rfl := h1.s
    obtain ⟨b, ys, rfl, hb2, hys⟩ := Dt.tn h2
    rw [Tm.es_map] at hys
    have ly : ys.length = es.length := by rw [hys.lenD, List.length_map]
    have lk : es.length ≤ 10 := gn.at_.1
    rw [due_map] at q
    refine vTx rfl hs rfl ⟨rfl, _, rfl, sF (by decide +kernel) (vTx rfl hs rfl ⟨rfl, _, rfl, sF (by decide +kernel) (vTx rfl hs rfl ⟨rfl, _, rfl, sT rfl (vTx rfl hs rfl ?_)⟩)⟩)⟩
    refine ⟨b, rfl, ⟨_, hb2⟩, fun D hD => lcS (K := K) (walk_tup (xs := ys)) hD (by omega) (fun ds => ds = ((es.take ds.length).map fun e => (e.1, due G e.2)).map Sy.ent) rfl (fun H' s => Same.seqT s hb2) ?_ ?_⟩
    · rintro i x H1 H1 ds R' hi s1 ⟨rfl, gx⟩ jd len r'
      obtain ⟨d, gd, dx⟩ := DtAll.getX hys gx
      rw [List.getElem?_map] at gd
      cases e0 : es[i]? with
      | none => rw [e0] at gd; cases gd
      | some k =>
      rw [e0] at gd
      cases gd
      have hk : k.2 ∈ (Tm.map es).kids := List.mem_map.mpr ⟨k, List.mem_of_getElem? e0, rfl⟩
      have := Tm.ht_kid hk
      unfold Tm.ent at dx
      obtain ⟨a3, x3, y3, rfl, hs3, h31, h32⟩ := Dt.t2 (dx.same s1)
      obtain rfl := h31.s
      refine ⟨rfl, vTx rfl hs3 rfl ⟨small (by show 2 ≤ _; decide), fun p1 hp1 => ?_⟩⟩
      have s2 := same_new (o := .tup [.str "name", .str k.1]) hp1
      refine vTx rfl (Same.seqT s2 hs3) rfl ⟨_, rfl, y3, ub, k.2, kvs, G, rfl, h32.same s2, s2 _ _ (s1 _ _ hub), (bs'.same s1).same s2, gn.kid hk, by omega, fun H2 v' s3 dv => ⟨small (by show 2 ≤ _; decide), fun p hp => r' (Sy.ent (k.1, due G k.2)) _ _ ((s2.trans s3).trans (same_new hp)) ?_ ?_⟩⟩
      · unfold Sy.ent nmD
        exact Dt.mk2 hp (.tup (Same.seqT s3 (SqT.of upd_same)) (.cons (.str _) (.cons (.str _) .nil))) dv
      · rw [List.length_append, len, show i + [Sy.ent (k.1, due G k.2)].length = i + 1 from rfl, List.take_add_one, e0, List.map_append, List.map_append]
        rw [len] at jd
        rw [← jd]; rfl
    rintro H1 ws ds s1 hws da len jd
    rw [len, ly, List.take_length] at jd
    rw [jd] at da
    refine ⟨D, _, rfl, .inl ⟨SqL.of hws, fun p1 hp1 => ⟨small (by show 3 ≤ _; decide), fun p2 hp2 => q _ _ ((s1.trans (same_new hp1)).trans (same_new hp2)) ?_⟩⟩⟩
    unfold Sy.d
    rw [Sy.es_map]
    exact Dt.mk3 hp2 (.str _) .non (.tup (SqT.of upd_same) (da.same (same_new hp1)))
end
end PK
namespace PK
open PySem L2
/-! the law: sizes, unknowns, ways -/
def spLsz (K : PySem.W.Frag) (n : Nat) : Sp := fun vs H Q _ => ∃ (v : V) (t : Sy), vs = [v] ∧ Dt K H v t.d ∧ SN t ∧ t.ht ≤ n ∧ ∀ H', Same H H' → Q (.int (t.size : Nat)) H'
def spLfn (K : PySem.W.Frag) (n : Nat) : Sp := fun vs H Q _ => ∃ (v : V) (t : Sy), vs = [v] ∧ Dt K H v t.d ∧ SN t ∧ t.ht ≤ n ∧ t.size ≤ 1000000 ∧ ∀ (H' : Hp) (p : Addr), Same H H' → H' p = some (.lst (t.fnd.map V.int)) → Q (.ref p) H'
theorem fnd_len {t : Sy} (h : SN t) : t.fnd.length ≤ 3 * t.size := by
  induction t using Sy.ind with
  | h t ih =>
    have own : t.own.length ≤ 3 * t.wt := by
      have hl := h.at_
      cases t with
      | sum ps n => have := hl.1; show (ps.map Prod.fst).length ≤ 3 * 1; rw [List.length_map]; omega
      | unk n => show 1 ≤ 3 * 1; decide
      | _ => exact Nat.zero_le _
    rw [Sy.fnd_eq, Sy.size_eq, List.length_append, List.length_flatten, List.map_map]
    have : ∀ ks : List Sy, (∀ k ∈ ks, k ∈ t.kids) → (ks.map (List.length ∘ Sy.fnd)).sum ≤ 3 * (ks.map Sy.size).sum := fun ks => by
      induction ks with
      | nil => intro _; exact Nat.zero_le _
      | cons k ks ih2 =>
        intro hk
        have h1 := ih k (hk k List.mem_cons_self) (h.kid (hk k List.mem_cons_self))
        have h2 := ih2 fun x hx => hk x (List.mem_cons_of_mem _ hx)
        rw [List.map_cons, List.map_cons, List.sum_cons, List.sum_cons]
        show k.fnd.length + _ ≤ _
        omega
    have := this t.kids fun k hk => hk
    omega
theorem sumI1 : ∀ es : List (Str × Sy), (es.map fun e => (1 : Int) + (e.2.size : Nat)).sum = ((es.length + ((es.map Prod.snd).map Sy.size).sum : Nat) : Int)
  | [] => rfl
  | e :: es => by
    rw [List.map_cons, List.sum_cons, sumI1 es, List.map_cons, List.map_cons, List.sum_cons, List.length_cons]; omega
theorem sumI2 : ∀ ts : List Sy, (ts.map fun t => ((t.size : Nat) : Int)).sum = (((ts.map Sy.size).sum : Nat) : Int)
  | [] => rfl
  | e :: es => by
    rw [List.map_cons, List.sum_cons, sumI2 es, List.map_cons, List.sum_cons]; omega
theorem le_sumS : ∀ {l : List Sy} {k : Sy}, k ∈ l → k.size ≤ (l.map Sy.size).sum
  | x :: l, k, h => by
    rw [List.map_cons, List.sum_cons]
    rcases List.mem_cons.mp h with rfl | h
    · omega
    · have := le_sumS h; omega
theorem flat_snoc {α : Type} (f : Sy → List α) (l : List Sy) (k : Sy) : ((l ++ [k]).map f).flatten = (l.map f).flatten ++ f k := by rw [List.map_append, List.flatten_append]; simp
theorem flat_le {l m : List Sy} {k : Nat} (e : l = m.take k) : ((l.map Sy.fnd).flatten).length ≤ ((m.map Sy.fnd).flatten).length := by
  subst e
  have := List.take_append_drop k m
  conv => rhs; rw [← this, List.map_append, List.flatten_append, List.length_append]
  omega
section
variable {P : Program} {w : World} {K : PySem.W.Frag} {mg : Str → Option Value} {base : Heap} {aF : Addr}
abbrev s_law_size : Stmt := topS 22
theorem sc_law_size : FnScope ["term", "pair", "part"] ["term"] (defScope s_law_size) := ⟨rfl, rfl, rfl, by decide +kernel, rfl, by decide +kernel, by decide +kernel⟩
-- slots: 0:term 1:pair(comp) 2:part(comp)
abbrev s_law_found : Stmt := topS 23
theorem sc_law_found : FnScope ["term", "pair", "found", "part"] ["term"] (defScope s_law_found) := ⟨rfl, rfl, rfl, by decide +kernel, rfl, by decide +kernel, by decide +kernel⟩
-- slots: 0:term 1:pair 2:found 3:part
theorem ok_lsz {n : Nat} {f : Addr} {fd : FuncData} (F : Fun K "_law_size" "_law_size" s_law_size f fd) (T : TxtZ K mg aF) (C_law_size : C8.Cal P w K mg base n "_law_size" (spLsz K n) []) : FnOk P w K mg base CX0 (n + 1) f fd ["term"] (spLsz K (n + 1)) := by
  refine F.ok sc_law_size (fun vs H Q E h => ?_) (fun cdv A outer s H vs Q E hr h => ?_)
  · obtain ⟨_, _, rfl, _⟩ := h
    rfl
  obtain ⟨v, t, rfl, hv, sn, hh, q⟩ := h
  refine ⟨_, (pss_cons (ps_if (pt_cmpR op_eq (pe_ix ix_tup (pv 0) pe_int (fun _ _ => rfl)) pe_str (nomark _)) (pss_one (ps_ret (pe_op op_add pe_int (pe_callB (cr_sum (by rfl)) (by rfl) T.z_sum (by decide +kernel) (pa_cons (pe_lc (own := [("pair", 1)]) (g := (gName 1)) (tt := tYes) (by rfl) sc_law_size.nd (pi_tup (pe_ix ix_tup (pv 0) pe_int (fun _ _ => rfl))) (blkOk_by (N := ["term", "pair", "part"]) (sc := defScope s_law_size) (by decide +kernel)) (fun _ _ _ _ _ => (pg_name (i := 1) sc_law_size.nd rfl (Or.inl rfl))) (fun _ _ _ _ _ => pts_nil) (fun _ _ _ _ _ => (pe_op op_add pe_int (C8.pe_c C_law_size hr (by omega) rfl (pa_cons (pe_ix (r := rIxT K) ix_tup (pv 1) pe_int (fun _ _ => rfl)) pa_nil))))) pa_nil))))) pss_nil)
    (pss_cons (ps_if (pt_cmpR op_eq (pe_ix ix_tup (pv 0) pe_int (fun _ _ => rfl)) pe_str (nomark _)) (pss_one (ps_ret (pe_op op_add pe_int (pe_callB (cr_sum (by rfl)) (by rfl) T.z_sum (by decide +kernel) (pa_cons (pe_lc (own := [("part", 2)]) (g := (gName 2)) (tt := tYes) (by rfl) sc_law_size.nd (pi_tup (pe_ix ix_tup (pv 0) pe_int (fun _ _ => rfl))) (blkOk_by (N := ["term", "pair", "part"]) (sc := defScope s_law_size) (by decide +kernel)) (fun _ _ _ _ _ => (pg_name (i := 2) sc_law_size.nd rfl (Or.inl rfl))) (fun _ _ _ _ _ => pts_nil) (fun _ _ _ _ _ => (C8.pe_c C_law_size hr (by omega) rfl (pa_cons (pv 2) pa_nil)))) pa_nil))))) pss_nil)
    (pss_one (ps_ret pe_int)))), ?_⟩
  obtain ⟨a, r, rfl, hs⟩ := Sy.hd hv
  refine vTx rfl hs (atI_nat (j := 0) rfl) ⟨rfl, _, rfl, ?_⟩
  have es := t.size_eq
  cases t with
  | map es' =>
    have sk := sn.at_
    unfold Sy.d at hv
    obtain ⟨a', x, y, z, e, hsq, h1, h2, h3⟩ := Dt.t3 hv
    cases e
    obtain ⟨b, ys, rfl, hb, hys⟩ := Dt.tn h3
    rw [Sy.es_map] at hys
    have ly : ys.length = es'.length := by rw [hys.lenD, List.length_map]
    have l10 : es'.length ≤ 10 := sk.1
    refine sT rfl (vTx rfl hsq rfl ⟨b, rfl, ⟨_, hb⟩, fun D hD => lc_it (walk_tup (K := K) (xs := ys)) (fun i H' => Same H H' ∧ H' D = some (.lst (((es'.take i).map fun e => (1 : Int) + (e.2.size : Nat)).map V.int))) ?_ ?_ ?_ ?_⟩)
    · exact ⟨same_new hD, upd_same⟩
    · rintro i H' _ ⟨s, _⟩
      exact Same.seqT s hb
    · rintro i x H1 H1 hi ⟨s1, hD1⟩ ⟨rfl, gx⟩
      obtain ⟨d, gd, dx⟩ := DtAll.getX hys gx
      rw [List.getElem?_map] at gd
      cases e0 : es'[i]? with
      | none => rw [e0] at gd; cases gd
      | some k =>
      rw [e0] at gd
      cases gd
      have hk : k.2 ∈ (Sy.map es').kids := List.mem_map.mpr ⟨k, List.mem_of_getElem? e0, rfl⟩
      have := Sy.ht_kid hk
      unfold Sy.ent at dx
      obtain ⟨a3, x3, y3, rfl, hs3, h31, h32⟩ := Dt.t2 (dx.same s1)
      refine ⟨rfl, vTx rfl hs3 rfl ⟨_, k.2, rfl, h32, sn.kid hk, by omega, fun H2 s2 => ⟨_, _, rfl, rfl, _, s2 _ _ hD1, smallL (by rw [List.length_map, List.length_map, List.length_take]; omega), Same.upd (s1.trans s2) hD, ?_⟩⟩⟩
      rw [upd_same, List.take_add_one, e0, List.map_append, List.map_append]; rfl
    rintro H1 ⟨s1, hD1⟩
    rw [ly, List.take_length] at hD1
    refine ⟨D, _, rfl, SqL.of hD1, _, _, rfl, rfl, ?_⟩
    have e1 : (Sy.map es').size = 1 + es'.length + ((es'.map Prod.snd).map Sy.size).sum := es
    have := q H1 s1
    rw [e1] at this
    rw [sumI1]
    show Q (V.int ((1 : Int) + ((es'.length + ((es'.map Prod.snd).map Sy.size).sum : Nat) : Int))) H1
    rw [show (1 : Int) + ((es'.length + ((es'.map Prod.snd).map Sy.size).sum : Nat) : Int) = ((1 + es'.length + ((es'.map Prod.snd).map Sy.size).sum : Nat) : Int) by omega]
    exact this
  | node c ts =>
    have sk := sn.at_
    unfold Sy.d at hv
    obtain ⟨a', x, y, z, e, hsq, h1, h2, h3⟩ := Dt.t3 hv
    cases e
    obtain ⟨b, ys, rfl, hb, hys⟩ := Dt.tn h3
    rw [Sy.ds_map] at hys
    have ly : ys.length = ts.length := by rw [hys.lenD, List.length_map]
    have l10 : ts.length ≤ 3 := sk.2
    refine sF (show ("node" : Str) ≠ "map" by decide +kernel) (vTx rfl hs (atI_nat (j := 0) rfl) ⟨rfl, _, rfl, sT rfl (vTx rfl hsq rfl ⟨b, rfl, ⟨_, hb⟩, fun D hD => lc_it (walk_tup (K := K) (xs := ys)) (fun i H' => Same H H' ∧ H' D = some (.lst (((ts.take i).map fun t => ((t.size : Nat) : Int)).map V.int))) ?_ ?_ ?_ ?_⟩)⟩)
    · exact ⟨same_new hD, upd_same⟩
    · rintro i H' _ ⟨s, _⟩
      exact Same.seqT s hb
    · rintro i x H1 H1 hi ⟨s1, hD1⟩ ⟨rfl, gx⟩
      obtain ⟨d, gd, dx⟩ := DtAll.getX hys gx
      rw [List.getElem?_map] at gd
      cases e0 : ts[i]? with
      | none => rw [e0] at gd; cases gd
      | some k =>
      rw [e0] at gd
      cases gd
      have hk : k ∈ (Sy.node c ts).kids := List.mem_of_getElem? e0
      have := Sy.ht_kid hk
      refine ⟨rfl, _, rfl, x, k, rfl, dx.same s1, sn.kid hk, by omega, fun H2 s2 => ⟨_, s2 _ _ hD1, smallL (by rw [List.length_map, List.length_map, List.length_take]; omega), Same.upd (s1.trans s2) hD, ?_⟩⟩
      rw [upd_same, List.take_add_one, e0, List.map_append, List.map_append]; rfl
    rintro H1 ⟨s1, hD1⟩
    rw [ly, List.take_length] at hD1
    refine ⟨D, _, rfl, SqL.of hD1, _, _, rfl, rfl, ?_⟩
    have e1 : (Sy.node c ts).size = 1 + (ts.map Sy.size).sum := es
    have := q H1 s1
    rw [e1] at this
    rw [sumI2]
    show Q (V.int ((1 : Int) + (((ts.map Sy.size).sum : Nat) : Int))) H1
    rw [show (1 : Int) + (((ts.map Sy.size).sum : Nat) : Int) = ((1 + (ts.map Sy.size).sum : Nat) : Int) by omega]
    exact this
  | sum ps m => exact sF (show ("sum" : Str) ≠ "map" by decide +kernel) (vTx rfl hs (atI_nat (j := 0) rfl) ⟨rfl, _, rfl, sF (show ("sum" : Str) ≠ "node" by decide +kernel) (by rw [show (Sy.sum ps m).size = 1 from es] at q; exact q H (Same.refl H))⟩)
  | name m => exact sF (show ("name" : Str) ≠ "map" by decide +kernel) (vTx rfl hs (atI_nat (j := 0) rfl) ⟨rfl, _, rfl, sF (show ("name" : Str) ≠ "node" by decide +kernel) (by rw [show (Sy.name m).size = 1 from es] at q; exact q H (Same.refl H))⟩)
  | addr m => exact sF (show ("addr" : Str) ≠ "map" by decide +kernel) (vTx rfl hs (atI_nat (j := 0) rfl) ⟨rfl, _, rfl, sF (show ("addr" : Str) ≠ "node" by decide +kernel) (by rw [show (Sy.addr m).size = 1 from es] at q; exact q H (Same.refl H))⟩)
  | unk m => exact sF (show ("unknown" : Str) ≠ "map" by decide +kernel) (vTx rfl hs (atI_nat (j := 0) rfl) ⟨rfl, _, rfl, sF (show ("unknown" : Str) ≠ "node" by decide +kernel) (by rw [show (Sy.unk m).size = 1 from es] at q; exact q H (Same.refl H))⟩)
theorem ok_lfn {n : Nat} {f : Addr} {fd : FuncData} (F : Fun K "_law_found" "_law_found" s_law_found f fd) (T : Txt K mg) (C_law_found : C8.Cal P w K mg base n "_law_found" (spLfn K n) []) : FnOk P w K mg base CX0 (n + 1) f fd ["term"] (spLfn K (n + 1)) := by
  refine F.ok sc_law_found (fun vs H Q E h => ?_) (fun cdv A outer s H vs Q E hr h => ?_)
  · obtain ⟨_, _, rfl, _⟩ := h
    rfl
  obtain ⟨v, t, rfl, hv, sn, hh, hz, q⟩ := h
  refine ⟨_, (pss_cons (ps_if (pt_cmpR op_eq (pe_ix ix_tup (pv 0) pe_int (fun _ _ => rfl)) pe_str (nomark _)) (pss_one (ps_ret (pe_lst (pa_cons (pe_ix ix_tup (pv 0) pe_int (fun _ _ => rfl)) pa_nil)))) pss_nil)
    (pss_cons (ps_if (pt_cmpR op_eq (pe_ix ix_tup (pv 0) pe_int (fun _ _ => rfl)) pe_str (nomark _)) (pss_one (ps_ret (pe_lc (own := [("pair", 1)]) (g := (gName 1)) (tt := tYes) (by rfl) sc_law_found.nd (pi_tup (pe_ix ix_tup (pv 0) pe_int (fun _ _ => rfl))) (blkOk_by (N := ["term", "pair", "found", "part"]) (sc := defScope s_law_found) (by decide +kernel)) (fun _ _ _ _ _ => (pg_name (i := 1) sc_law_found.nd rfl (Or.inl rfl))) (fun _ _ _ _ _ => pts_nil) (fun _ _ _ _ _ => (pe_ix (r := rIxT K) ix_tup (pv 1) pe_int (fun _ _ => rfl)))))) pss_nil)
    (pss_cons (ps_set (i := 2) sc_law_found.nd rfl (Or.inl rfl) (pe_lst pa_nil))
    (pss_cons (ps_if (pt_cmpR op_eq (pe_ix ix_tup (pv 0) pe_int (fun _ _ => rfl)) pe_str (nomark _)) (pss_one (ps_for PassesOwn.never rfl (pi_tup (pe_ix ix_tup (pv 0) pe_int (fun _ _ => rfl))) (pg_name (i := 1) sc_law_found.nd rfl (Or.inl rfl)) (pss_one (ps_set (i := 2) sc_law_found.nd rfl (Or.inl rfl) (pe_op op_cat (pv 2) (C8.pe_c C_law_found hr (by omega) rfl (pa_cons (pe_ix ix_tup (pv 1) pe_int (fun _ _ => rfl)) pa_nil))))))) pss_nil)
    (pss_cons (ps_if (pt_cmpR op_eq (pe_ix ix_tup (pv 0) pe_int (fun _ _ => rfl)) pe_str (nomark _)) (pss_one (ps_for PassesOwn.never rfl (pi_tup (pe_ix ix_tup (pv 0) pe_int (fun _ _ => rfl))) (pg_name (i := 3) sc_law_found.nd rfl (Or.inl rfl)) (pss_one (ps_set (i := 2) sc_law_found.nd rfl (Or.inl rfl) (pe_op op_cat (pv 2) (C8.pe_c C_law_found hr (by omega) rfl (pa_cons (pv 3) pa_nil))))))) pss_nil)
    (pss_one (ps_ret (pv 2)))))))), ?_⟩
  have fl := fnd_len sn
  have fe := t.fnd_eq
  have sz := t.size_eq
  obtain ⟨a, r, rfl, hs⟩ := Sy.hd hv
  refine vTx rfl hs (atI_nat (j := 0) rfl) ⟨rfl, _, rfl, ?_⟩
  have leaf : t.own = [] → t.kids = [] → ∀ (H' : Hp) (p : Addr), Same H H' → H' p = some (.lst []) → Q (.ref p) H' := fun ho hk H' p s h => q H' p s (by rw [fe, ho, hk]; exact h)
  cases t with
  | unk m =>
    unfold Sy.d at hv
    obtain ⟨a', x, y, e, hsq, h1, h2⟩ := Dt.t2 hv
    cases e
    cases h2
    exact sT rfl (vTx rfl hsq rfl ⟨small (by show 1 ≤ _; decide), fun p hp => q _ p (same_new hp) (by rw [fe]; exact upd_same)⟩)
  | sum ps m =>
    have sk := sn.at_
    unfold Sy.d at hv
    obtain ⟨a', x, y, z, e, hsq, h1, h2, h3⟩ := Dt.t3 hv
    cases e
    obtain ⟨b, ys, rfl, hb, hys⟩ := Dt.tn h2
    have ly : ys.length = ps.length := by rw [hys.lenD, List.length_map]
    have l3 : ps.length ≤ 3 := sk.1
    refine sF (show ("sum" : Str) ≠ "unknown" by decide +kernel) (vTx rfl hs (atI_nat (j := 0) rfl) ⟨rfl, _, rfl, sT rfl (vTx rfl hsq rfl ⟨b, rfl, ⟨_, hb⟩, fun D hD => lc_it (walk_tup (K := K) (xs := ys)) (fun i H' => Same H H' ∧ H' D = some (.lst (((ps.take i).map Prod.fst).map V.int))) ?_ ?_ ?_ ?_⟩)⟩)
    · exact ⟨same_new hD, upd_same⟩
    · rintro i H' _ ⟨s, _⟩
      exact Same.seqT s hb
    · rintro i x H1 H1 hi ⟨s1, hD1⟩ ⟨rfl, gx⟩
      obtain ⟨d, gd, dx⟩ := DtAll.getX hys gx
      rw [List.getElem?_map] at gd
      cases e0 : ps[i]? with
      | none => rw [e0] at gd; cases gd
      | some k =>
      rw [e0] at gd
      cases gd
      unfold prD at dx
      obtain ⟨a3, x3, y3, rfl, hs3, h31, h32⟩ := Dt.t2 (dx.same s1)
      cases h31
      refine ⟨rfl, vTx rfl hs3 rfl ⟨_, hD1, smallL (by rw [List.length_map, List.length_map, List.length_take]; omega), Same.upd s1 hD, ?_⟩⟩
      rw [upd_same, List.take_add_one, e0, List.map_append, List.map_append]; rfl
    rintro H1 ⟨s1, hD1⟩
    rw [ly, List.take_length] at hD1
    refine q H1 D s1 ?_
    rw [fe]
    show H1 D = some (.lst ((ps.map Prod.fst ++ []).map V.int))
    rw [List.append_nil]; exact hD1
  | map es =>
    have sk := sn.at_
    unfold Sy.d at hv
    obtain ⟨a', x, y, z, e, hsq, h1, h2, h3⟩ := Dt.t3 hv
    cases e
    obtain ⟨b, ys, rfl, hb, hys⟩ := Dt.tn h3
    rw [Sy.es_map] at hys
    have ly : ys.length = es.length := by rw [hys.lenD, List.length_map]
    have lek : (Sy.map es).kids.length = es.length := by show (es.map Prod.snd).length = _; rw [List.length_map]
    refine sF (show ("map" : Str) ≠ "unknown" by decide +kernel) (vTx rfl hs (atI_nat (j := 0) rfl) ⟨rfl, _, rfl, sF (show ("map" : Str) ≠ "sum" by decide +kernel) ⟨small (by show 0 ≤ _; decide), fun p0 hp0 => ?_⟩⟩)
    have s0 := same_new (o := .lst []) hp0
    refine vTx rfl (Same.seqT s0 hs) (atI_nat (j := 0) rfl) ⟨rfl, _, rfl, sT rfl (vTx rfl (Same.seqT s0 hsq) rfl ⟨b, rfl, ⟨_, Same.seqT s0 hb⟩, for_it (walk_tup (K := K) (xs := ys)) (fun i σ H' => ∃ (o1 : Option V) (p : Addr), σ = [some (.ref a), o1, some (.ref p), none] ∧ Same H H' ∧ H' p = some (.lst (((((Sy.map es).kids.take i).map Sy.fnd).flatten).map V.int))) ?_ ?_ ?_ ?_⟩)⟩
    · exact ⟨_, p0, rfl, s0, upd_same⟩
    · rintro i σ H' _ ⟨_, _, _, s, _⟩
      exact Same.seqT s hb
    · rintro i x σ H1 H1 hi ⟨o1, p, rfl, s1, hp1⟩ ⟨rfl, gx⟩
      obtain ⟨d, gd, dx⟩ := DtAll.getX hys gx
      rw [List.getElem?_map] at gd
      cases e0 : es[i]? with
      | none => rw [e0] at gd; cases gd
      | some k =>
      rw [e0] at gd
      cases gd
      have hk : k.2 ∈ (Sy.map es).kids := List.mem_map.mpr ⟨k, List.mem_of_getElem? e0, rfl⟩
      have := Sy.ht_kid hk
      have gk : (Sy.map es).kids[i]? = some k.2 := by show (es.map Prod.snd)[i]? = _; rw [List.getElem?_map, e0]; rfl
      unfold Sy.ent at dx
      obtain ⟨a3, x3, y3, rfl, hs3, h31, h32⟩ := Dt.t2 (dx.same s1)
      have tk : (Sy.map es).kids.take (i + 1) = (Sy.map es).kids.take i ++ [k.2] := by rw [List.take_add_one, gk]; rfl
      have hl1 := flat_le (l := (Sy.map es).kids.take (i + 1)) (m := (Sy.map es).kids) rfl
      rw [tk, flat_snoc, List.length_append] at hl1
      have hf : ((((Sy.map es).kids).map Sy.fnd).flatten).length ≤ (Sy.map es).fnd.length := by rw [fe, List.length_append]; omega
      have hkz : k.2.size ≤ (Sy.map es).size := by
        have := le_sumS hk
        omega
      refine ⟨_, rfl, vTx rfl hs3 rfl ⟨_, k.2, rfl, h32, sn.kid hk, by omega, by omega, fun H2 p2 s2 hp2 => ⟨p, p2, _, _, rfl, rfl, s2 _ _ hp1, hp2, small (by rw [List.length_map, List.length_map]; omega), fun p3 hp3 => ⟨_, p3, rfl, (s1.trans s2).trans (same_new hp3), ?_⟩⟩⟩⟩
      rw [upd_same, tk, flat_snoc, List.map_append]
    rintro σ H1 ⟨o1, p, rfl, s1, hp1⟩
    refine vTx rfl (Same.seqT s1 hs) (atI_nat (j := 0) rfl) ⟨rfl, _, rfl, sF (show ("map" : Str) ≠ "node" by decide +kernel) ⟨_, rfl, q H1 p s1 ?_⟩⟩
    rw [fe, hp1, ly, ← lek, List.take_length]; rfl
  | node c ts =>
    have sk := sn.at_
    unfold Sy.d at hv
    obtain ⟨a', x, y, z, e, hsq, h1, h2, h3⟩ := Dt.t3 hv
    cases e
    obtain ⟨b, ys, rfl, hb, hys⟩ := Dt.tn h3
    rw [Sy.ds_map] at hys
    have ly : ys.length = ts.length := by rw [hys.lenD, List.length_map]
    refine sF (show ("node" : Str) ≠ "unknown" by decide +kernel) (vTx rfl hs (atI_nat (j := 0) rfl) ⟨rfl, _, rfl, sF (show ("node" : Str) ≠ "sum" by decide +kernel) ⟨small (by show 0 ≤ _; decide), fun p0 hp0 => ?_⟩⟩)
    have s0 := same_new (o := .lst []) hp0
    refine vTx rfl (Same.seqT s0 hs) (atI_nat (j := 0) rfl) ⟨rfl, _, rfl, sF (show ("node" : Str) ≠ "map" by decide +kernel) (vTx rfl (Same.seqT s0 hs) (atI_nat (j := 0) rfl) ⟨rfl, _, rfl, sT rfl (vTx rfl (Same.seqT s0 hsq) rfl ⟨b, rfl, ⟨_, Same.seqT s0 hb⟩, for_it (walk_tup (K := K) (xs := ys)) (fun i σ H' => ∃ (o3 : Option V) (p : Addr), σ = [some (.ref a), none, some (.ref p), o3] ∧ Same H H' ∧ H' p = some (.lst ((((ts.take i).map Sy.fnd).flatten).map V.int))) ?_ ?_ ?_ ?_⟩)⟩)⟩
    · exact ⟨_, p0, rfl, s0, upd_same⟩
    · rintro i σ H' _ ⟨_, _, _, s, _⟩
      exact Same.seqT s hb
    · rintro i x σ H1 H1 hi ⟨o3, p, rfl, s1, hp1⟩ ⟨rfl, gx⟩
      obtain ⟨d, gd, dx⟩ := DtAll.getX hys gx
      rw [List.getElem?_map] at gd
      cases e0 : ts[i]? with
      | none => rw [e0] at gd; cases gd
      | some k =>
      rw [e0] at gd
      cases gd
      have hk : k ∈ (Sy.node c ts).kids := List.mem_of_getElem? e0
      have := Sy.ht_kid hk
      have tk : ts.take (i + 1) = ts.take i ++ [k] := by rw [List.take_add_one, e0]; rfl
      have hl1 := flat_le (l := ts.take (i + 1)) (m := ts) rfl
      rw [tk, flat_snoc, List.length_append] at hl1
      have hf : ((ts.map Sy.fnd).flatten).length ≤ (Sy.node c ts).fnd.length := by rw [fe, List.length_append]; exact Nat.le_add_left _ _
      have hkz : k.size ≤ (Sy.node c ts).size := by
        have := le_sumS hk
        omega
      refine ⟨_, rfl, _, rfl, x, k, rfl, dx.same s1, sn.kid hk, by omega, by omega, fun H2 p2 s2 hp2 => ⟨p, p2, _, _, rfl, rfl, s2 _ _ hp1, hp2, small (by rw [List.length_map, List.length_map]; omega), fun p3 hp3 => ⟨_, p3, rfl, (s1.trans s2).trans (same_new hp3), ?_⟩⟩⟩
      rw [upd_same, tk, flat_snoc, List.map_append]
    rintro σ H1 ⟨o3, p, rfl, s1, hp1⟩
    refine ⟨_, rfl, q H1 p s1 ?_⟩
    rw [fe, hp1, ly, List.take_length]; rfl
  | name m => exact sF (show ("name" : Str) ≠ "unknown" by decide +kernel) (vTx rfl hs (atI_nat (j := 0) rfl) ⟨rfl, _, rfl, sF (show ("name" : Str) ≠ "sum" by decide +kernel) ⟨small (by show 0 ≤ _; decide), fun p0 hp0 => vTx rfl (Same.seqT (same_new hp0) hs) (atI_nat (j := 0) rfl) ⟨rfl, _, rfl, sF (show ("name" : Str) ≠ "map" by decide +kernel) (vTx rfl (Same.seqT (same_new hp0) hs) (atI_nat (j := 0) rfl) ⟨rfl, _, rfl, sF (show ("name" : Str) ≠ "node" by decide +kernel) ⟨_, rfl, leaf rfl rfl _ p0 (same_new hp0) upd_same⟩⟩)⟩⟩⟩)
  | addr m => exact sF (show ("addr" : Str) ≠ "unknown" by decide +kernel) (vTx rfl hs (atI_nat (j := 0) rfl) ⟨rfl, _, rfl, sF (show ("addr" : Str) ≠ "sum" by decide +kernel) ⟨small (by show 0 ≤ _; decide), fun p0 hp0 => vTx rfl (Same.seqT (same_new hp0) hs) (atI_nat (j := 0) rfl) ⟨rfl, _, rfl, sF (show ("addr" : Str) ≠ "map" by decide +kernel) (vTx rfl (Same.seqT (same_new hp0) hs) (atI_nat (j := 0) rfl) ⟨rfl, _, rfl, sF (show ("addr" : Str) ≠ "node" by decide +kernel) ⟨_, rfl, leaf rfl rfl _ p0 (same_new hp0) upd_same⟩⟩)⟩⟩⟩)
end
end PK
namespace PK
open PySem L2
/-! the law: ways, puts, once -/
theorem inV_int (u : Int) : ∀ ws : List Int, inV (.int u) (ws.map V.int) = decide (u ∈ ws)
  | [] => rfl
  | y :: l => by
    have ih := inV_int u l
    unfold inV at ih ⊢
    rw [List.map_cons, List.any_cons, ih]
    have : eqV (V.int y) (V.int u) = decide (y = u) := rfl
    rw [this]
    by_cases h : y = u
    · subst h; simp
    · have h' : ¬ u = y := fun z => h z.symm
      simp [h, h']
theorem flat_ints (ws : List Int) : (ws.map V.int).all flatV = true := by
  rw [List.all_eq_true]
  intro x hx
  obtain ⟨s, _, rfl⟩ := List.mem_map.mp hx
  rfl
theorem Wy.cons {c : Str} {ts : List Sy} {k : Nat} {w : List Nat} (hk : k < ts.length) (h : Wy ts[k] w) : Wy (.node c ts) (k :: w) := fun i hi => by
  cases i with
  | zero => exact ⟨c, ts, rfl, hk⟩
  | succ i =>
    have ek : kidAt (.node c ts) k = ts[k] := by show (ts[k]?).getD _ = _; rw [List.getElem?_eq_getElem hk]; rfl
    obtain ⟨c', ts', e, l⟩ := h i (by rw [List.length_cons] at hi; omega)
    exact ⟨c', ts', by rw [sub_cons, ek]; exact e, l⟩
theorem sum_take_le (ts : List Sy) (i : Nat) : ((ts.take i).map Sy.size).sum ≤ (ts.map Sy.size).sum := by
  have := List.take_append_drop i ts
  conv => rhs; rw [← this, List.map_append, List.sum_append]
  omega
theorem DtAll.set {K : PySem.W.Frag} {H : Hp} {v : V} {d : PyData} (h : Dt K H v d) : ∀ {vs : List V} {ds : List PyData} (k : Nat), DtAll K H vs ds → DtAll K H (vs.set k v) (ds.set k d)
  | _, _, _, .nil => .nil
  | _, _, 0, .cons _ b => .cons h b
  | _, _, k + 1, .cons a b => .cons a (DtAll.set h k b)
def spWay (K : PySem.W.Frag) (n : Nat) : Sp := fun vs H Q _ => ∃ (v : V) (t : Sy), vs = [v] ∧ Dt K H v t.d ∧ SN t ∧ t.ht ≤ n ∧ t.ht ≤ 100 ∧ t.size ≤ 1000000 ∧ ∀ (H' : Hp) (p : Addr) (ws : List V) (W : List (List Nat)), Same H H' → H' p = some (.lst ws) → DtAll K H' ws (W.map wyD) → W ≠ [] → W.length ≤ t.size → (∀ w ∈ W, Wy t w ∧ w.length < t.ht) → Q (.ref p) H'
def spLpu (K : PySem.W.Frag) (n : Nat) : Sp := fun vs H Q _ => ∃ (v wv pw : V) (t p : Sy) (way : List Nat), vs = [v, wv, pw] ∧ Dt K H v t.d ∧ Dt K H wv (wyD way) ∧ Dt K H pw p.d ∧ SN t ∧ Wy t way ∧ way.length < n ∧ ∀ (H' : Hp) (v' : V), Same H H' → Dt K H' v' (put p way t).d → Q v' H'
def spOnc (K : PySem.W.Frag) : Sp := fun vs H Q _ => ∃ (p : Addr) (ns : List Int), vs = [.ref p] ∧ H p = some (.lst (ns.map V.int)) ∧ ns.length ≤ 3000000 ∧ ∀ (H' : Hp) (p' : Addr) (ys : List Int), Same H H' → H' p' = some (.lst (ys.map V.int)) → ys.Pairwise (· ≤ ·) → ys.Nodup → (∀ x, x ∈ ys ↔ x ∈ ns) → Q (.ref p') H'
section
variable {P : Program} {w : World} {K : PySem.W.Frag} {mg : Str → Option Value} {base : Heap} {aF : Addr}
abbrev s_law_ways : Stmt := topS 24
theorem sc_law_ways : FnScope ["term", "ways", "k", "way"] ["term"] (defScope s_law_ways) := ⟨rfl, rfl, rfl, by decide +kernel, rfl, by decide +kernel, by decide +kernel⟩
-- slots: 0:term 1:ways 2:k(cell) 3:way(comp)
abbrev s_law_put : Stmt := topS 25
theorem sc_law_put : FnScope ["term", "way", "part", "row"] ["term", "way", "part"] (defScope s_law_put) := ⟨rfl, rfl, rfl, by decide +kernel, rfl, by decide +kernel, by decide +kernel⟩
-- slots: 0:term 1:way 2:part 3:row
abbrev s_law_once : Stmt := topS 26
theorem sc_law_once : FnScope ["row", "found", "item"] ["row"] (defScope s_law_once) := ⟨rfl, rfl, rfl, by decide +kernel, rfl, by decide +kernel, by decide +kernel⟩
-- slots: 0:row 1:found 2:item
theorem ok_way {n : Nat} {f : Addr} {fd : FuncData} (F : Fun K "_law_ways" "_law_ways" s_law_ways f fd) (T : Txt K mg) (C_law_ways : C8.Cal P w K mg base n "_law_ways" (spWay K n) []) : FnOk P w K mg base CX0 (n + 1) f fd ["term"] (spWay K (n + 1)) := by
  refine F.ok sc_law_ways (fun vs H Q E h => ?_) (fun cdv A outer s H vs Q E hr h => ?_)
  · obtain ⟨_, _, rfl, _⟩ := h
    rfl
  obtain ⟨v, t, rfl, hv, sn, hh, h100, hz, q⟩ := h
  refine ⟨_, (pss_cons (ps_set (i := 1) sc_law_ways.nd rfl (Or.inl rfl) (pe_lst (pa_cons (pe_tup pa_nil) pa_nil)))
    (pss_cons (ps_if (pt_cmpR op_eq (pe_ix ix_tup (pv 0) pe_int (fun _ _ => rfl)) pe_str (nomark _)) (pss_one (ps_for PassesOwn.never rfl (pi_range1 (by rfl) T.z_range (pa_cons (pe_callB call_len_seq (by rfl) T.z_len (by decide +kernel) (pa_cons (pe_ix ix_tup (pv 0) pe_int (fun _ _ => rfl)) pa_nil)) pa_nil)) (pg_name (i := 2) sc_law_ways.nd rfl (Or.inr rfl)) (pss_one (ps_set (i := 1) sc_law_ways.nd rfl (Or.inl rfl) (pe_op op_cat (pv 1) (pe_lc (own := [("way", 3)]) (g := (gName 3)) (tt := tYes) (by rfl) sc_law_ways.nd (pi_list (C8.pe_c C_law_ways hr (by omega) rfl (pa_cons (pe_ix ix_tup (pe_ix ix_tup (pv 0) pe_int (fun _ _ => rfl)) (pv 2) (fun _ _ => rfl)) pa_nil))) (blkOk_by (N := ["term", "ways", "k", "way"]) (sc := defScope s_law_ways) (by decide +kernel)) (fun _ _ _ _ _ => (pg_name (i := 3) sc_law_ways.nd rfl (Or.inl rfl))) (fun _ _ _ _ _ => pts_nil) (fun _ _ _ _ _ => (pe_op (r := rCatA K) op_catA (pe_tup (pa_cons (pv 2) pa_nil)) (pv 3))))))))) pss_nil)
    (pss_one (ps_ret (pv 1))))), ?_⟩
  have hp1 := t.ht_pos
  have es := t.size_eq
  refine ⟨small (by show 0 ≤ _; decide), fun p0 hp0 => ⟨small (by show 1 ≤ _; decide), fun pa hpa => ?_⟩⟩
  have s0 := (same_new (o := .tup []) hp0).trans (same_new (o := .lst [.ref p0]) hpa)
  have hpa0 : (upd (upd H p0 (.tup [])) pa (.lst [.ref p0])) pa = some (.lst [.ref p0]) := upd_same
  have d0 : DtAll K (upd (upd H p0 (.tup [])) pa (.lst [.ref p0])) [.ref p0] ([[]].map wyD) := .cons (.tup (Same.seqT (same_new (o := .lst [.ref p0]) hpa) (SqT.of upd_same)) .nil) .nil
  have ok0 : ∀ w ∈ [([] : List Nat)], Wy t w ∧ w.length < t.ht := fun w hw => by
    rw [List.mem_singleton.mp hw]
    exact ⟨fun i hi => absurd hi (Nat.not_lt_zero _), by show 0 < t.ht; omega⟩
  generalize upd (upd H p0 (.tup [])) pa (.lst [.ref p0]) = H0 at s0 hpa0 d0 ⊢
  have fin0 : Q (.ref pa) H0 := q H0 pa _ _ s0 hpa0 d0 (by simp) (by show 1 ≤ _; have := t.size_pos; omega) ok0
  obtain ⟨a, r, rfl, hs⟩ := Sy.hd hv
  refine vTx rfl (Same.seqT s0 hs) (atI_nat (j := 0) rfl) ⟨rfl, _, rfl, ?_⟩
  cases t with
  | sum ps m => exact sF (show ("sum" : Str) ≠ "node" by decide +kernel) ⟨_, rfl, fin0⟩
  | name m => exact sF (show ("name" : Str) ≠ "node" by decide +kernel) ⟨_, rfl, fin0⟩
  | addr m => exact sF (show ("addr" : Str) ≠ "node" by decide +kernel) ⟨_, rfl, fin0⟩
  | unk m => exact sF (show ("unknown" : Str) ≠ "node" by decide +kernel) ⟨_, rfl, fin0⟩
  | map m => exact sF (show ("map" : Str) ≠ "node" by decide +kernel) ⟨_, rfl, fin0⟩
  | node c ts =>
    have es : (Sy.node c ts).size = 1 + (ts.map Sy.size).sum := es
    unfold Sy.d at hv
    obtain ⟨a', x, y, z, e, hsq, h1, h2, h3⟩ := Dt.t3 hv
    cases e
    obtain ⟨b, ys, rfl, hb, hys⟩ := Dt.tn h3
    rw [Sy.ds_map] at hys
    have ly : ys.length = ts.length := by rw [hys.lenD, List.length_map]
    have l3 : ts.length ≤ 3 := sn.at_.2
    refine sT rfl (vTx rfl (Same.seqT s0 hsq) rfl ⟨b, _, rfl, .inr (Same.seqT s0 hb), ?_⟩)
    refine ⟨_, rfl, by omega, by omega, for_range (lo := 0) (n := ((ys.length : Nat) : Int).toNat) (fun i σ H' => ∃ (o2 : Option V) (p : Addr) (ws : List V) (W : List (List Nat)), σ = [some (.ref a), some (.ref p), o2, none] ∧ Same H H' ∧ H' p = some (.lst ws) ∧ DtAll K H' ws (W.map wyD) ∧ W ≠ [] ∧ W.length ≤ 1 + ((ts.take i).map Sy.size).sum ∧ ∀ w ∈ W, Wy (.node c ts) w ∧ w.length < (Sy.node c ts).ht) ?_ ?_ ?_⟩
    · exact ⟨_, pa, _, [[]], rfl, s0, hpa0, d0, by simp, Nat.le_refl _, ok0⟩
    · rintro i σ H1 hi ⟨o2, p, ws, W, rfl, s1, hp1, dw, ne, lW, ok⟩
      have hi2 : i < ts.length := by omega
      have e0 : (0 : Int) + (i : Int) = (i : Nat) := Int.zero_add _
      have gt : ts[i]? = some ts[i] := List.getElem?_eq_getElem hi2
      obtain ⟨x1, gx, dx⟩ := DtAll.getD hys (show (ts.map Sy.d)[i]? = some ts[i].d by rw [List.getElem?_map, gt]; rfl)
      have hm : ts[i] ∈ (Sy.node c ts).kids := List.getElem_mem hi2
      have hht := Sy.ht_kid hm
      have hsz := le_sumS (show ts[i] ∈ ts from hm)
      have lws : ws.length = W.length := by rw [dw.lenD, List.length_map]
      have stk1 := sum_take_le ts (i + 1)
      have gp : ((ts.take (i + 1)).map Sy.size).sum = ((ts.take i).map Sy.size).sum + ts[i].size := by
        rw [List.take_add_one, gt, List.map_append, List.sum_append]
        show _ + (ts[i].size + 0) = _
        omega
      refine ⟨_, rfl, vTx rfl (Same.seqT s1 hsq) rfl ⟨_, rfl, b, ys, _, x1, rfl, rfl, Same.seqT s1 hb, by rw [e0]; exact atI_nat gx, x1, ts[i], rfl, dx.same s1, sn.kid hm, by omega, by omega, by omega, fun H2 p2 ws2 W2 s2 hp2 dw2 ne2 lW2 ok2 => ?_⟩⟩
      have lws2 : ws2.length = W2.length := by rw [dw2.lenD, List.length_map]
      refine ⟨p2, rfl, ⟨_, SqL.of hp2⟩, fun D hD => lcS (K := K) (walk_list (xs := ws2)) hD (by omega) (fun ds => ds = (W2.take ds.length).map fun w => wyD (i :: w)) rfl (fun H' s => SqL.of (s _ _ hp2)) ?_ ?_⟩
      · rintro j x H3 H3 ds R' hj s3 ⟨rfl, gx3⟩ jd len r'
        obtain ⟨d, gd, dx3⟩ := DtAll.getX dw2 gx3
        rw [List.getElem?_map] at gd
        cases e1 : W2[j]? with
        | none => rw [e1] at gd; cases gd
        | some w0 =>
        rw [e1] at gd
        cases gd
        obtain ⟨wa, wvs, rfl, hwa, dwv⟩ := Dt.tn (dx3.same s3)
        have lwv : wvs.length = w0.length := by rw [dwv.lenD, List.length_map]
        have hw0 := (ok2 w0 (List.mem_of_getElem? e1)).2
        refine ⟨rfl, _, rfl, small (by show 1 ≤ _; decide), fun p4 hp4 => ⟨_, rfl, ?_⟩⟩
        have s4 := same_new (o := .tup [.int (0 + (i : Int))]) hp4
        refine catA (SqT.of upd_same) (Same.seqT s4 hwa) (small (by show 1 + _ ≤ _; omega)) fun H4 p5 s5 hp5 => r' (wyD (i :: w0)) _ _ (s4.trans s5) ?_ ?_
        · refine .tup hp5 ?_
          rw [e0]
          exact .cons (.int _) ((dwv.same s4).same s5)
        · rw [List.length_append, len, show j + [wyD (i :: w0)].length = j + 1 from rfl, List.take_add_one, e1, List.map_append]
          rw [len] at jd
          rw [← jd]; rfl
      rintro H3 ws3 ds s3 hw3 da len jd
      rw [len, lws2, List.take_length] at jd
      rw [jd] at da
      have lw3 : ws3.length = W2.length := by rw [da.lenD, List.length_map]
      refine ⟨p, D, ws, ws3, rfl, rfl, s3 _ _ (s2 _ _ hp1), hw3, small (by omega), fun p6 hp6 => ?_⟩
      have s6 := same_new (o := .lst (ws ++ ws3)) hp6
      refine ⟨_, p6, ws ++ ws3, W ++ W2.map (i :: ·), rfl, ((s1.trans s2).trans s3).trans s6, upd_same, ?_, by simp [ne], ?_, fun w hw => ?_⟩
      · rw [List.map_append, List.map_map]
        exact (((dw.same s2).same s3).append da).same s6
      · rw [List.length_append, List.length_map, gp]; omega
      · rcases List.mem_append.mp hw with hw | hw
        · exact ok w hw
        · obtain ⟨w0, hw0, rfl⟩ := List.mem_map.mp hw
          obtain ⟨k1, k2⟩ := ok2 w0 hw0
          exact ⟨Wy.cons hi2 k1, by rw [List.length_cons]; omega⟩
    rintro σ H1 ⟨o2, p, ws, W, rfl, s1, hp1, dw, ne, lW, ok⟩
    rw [show ((ys.length : Nat) : Int).toNat = ts.length by omega, List.take_length] at lW
    exact ⟨_, rfl, q H1 p ws W s1 hp1 dw ne (by rw [es]; exact lW) ok⟩
theorem ok_lpu {n : Nat} {f : Addr} {fd : FuncData} (F : Fun K "_law_put" "_law_put" s_law_put f fd) (T : Txt K mg) (C_law_put : C8.Cal P w K mg base n "_law_put" (spLpu K n) []) : FnOk P w K mg base CX0 (n + 1) f fd ["term", "way", "part"] (spLpu K (n + 1)) := by
  refine F.ok sc_law_put (fun vs H Q E h => ?_) (fun cdv A outer s H vs Q E hr h => ?_)
  · obtain ⟨_, _, _, _, _, _, rfl, _⟩ := h
    rfl
  obtain ⟨v, wv, pw, t, p, way, rfl, hv, hw, hp, sn, wy, lw, q⟩ := h
  refine ⟨_, (pss_cons (ps_if (pt_not (pt_truth (pv 1) (by intro _; rfl))) (pss_one (ps_ret (pv 2))) pss_nil)
    (pss_cons (ps_set (i := 3) sc_law_put.nd rfl (Or.inl rfl) (pe_callTy call_list_of (by rfl) T.z_list (by decide +kernel) (pa_cons (pe_ix ix_tup (pv 0) pe_int (fun _ _ => rfl)) pa_nil)))
    (pss_cons (ps_asg (C8.pe_c C_law_put hr (by omega) rfl (pa_cons (pe_ix ix_list (pv 3) (pe_ix ix_tup (pv 1) pe_int (fun _ _ => rfl)) (fun _ _ => rfl)) (pa_cons (pe_slice sl_tupA (pv 1) (po_some pe_int) po_none) (pa_cons (pv 2) pa_nil)))) (pg_sub (pv 3) (pe_ix ix_tup (pv 1) pe_int (fun _ _ => rfl)) set_list))
    (pss_one (ps_ret (pe_tup (pa_cons pe_str (pa_cons (pe_ix ix_tup (pv 0) pe_int (fun _ _ => rfl)) (pa_cons (pe_callTy call_tuple_of (by rfl) T.z_tuple (by decide +kernel) (pa_cons (pv 3) pa_nil)) pa_nil))))))))), ?_⟩
  obtain ⟨wa, wvs, rfl, hwa, dwv⟩ := Dt.tn hw
  have lwv : wvs.length = way.length := by rw [dwv.lenD, List.length_map]
  cases way with
  | nil =>
    cases dwv
    exact ⟨_, rfl, false, .inr (.inl ⟨_, hwa, rfl⟩), iteT ⟨_, rfl, q H pw (Same.refl H) hp⟩⟩
  | cons k w' =>
    obtain ⟨c, ts, rfl, hk⟩ := wy.head
    have wt := wy.tail
    have ek : kidAt (.node c ts) k = ts[k] := by show (ts[k]?).getD _ = _; rw [List.getElem?_eq_getElem hk]; rfl
    rw [ek] at wt
    have hm : ts[k] ∈ (Sy.node c ts).kids := List.getElem_mem hk
    have lt3 : ts.length ≤ 3 := sn.at_.2
    have ep : put p (k :: w') (.node c ts) = .node c (ts.set k (put p w' ts[k])) := by
      show Sy.node c (ts.set k (put p w' (ts[k]?.getD p))) = _
      rw [List.getElem?_eq_getElem hk]; rfl
    rw [ep] at q
    cases dwv with
    | @cons v0 vr _ _ d0 dr =>
    cases d0
    unfold Sy.d at hv
    obtain ⟨a, x, y, z, rfl, hsq, h1, h2, h3⟩ := Dt.t3 hv
    obtain rfl := h2.s
    obtain ⟨b, ys, rfl, hb, hys⟩ := Dt.tn h3
    rw [Sy.ds_map] at hys
    have ly : ys.length = ts.length := by rw [hys.lenD, List.length_map]
    refine ⟨_, rfl, true, .inr (.inl ⟨_, hwa, rfl⟩), iteF (vTx rfl hsq rfl ⟨b, ys, rfl, .inr hb, fun rp hrp => ?_⟩)⟩
    have s1 := same_new (o := .lst ys) hrp
    have hrp1 : (upd H rp (.lst ys)) rp = some (.lst ys) := upd_same
    have hky : k < ys.length := by omega
    have gy : ys[k]? = some ys[k] := List.getElem?_eq_getElem hky
    have dy : Dt K H ys[k] ts[k].d := by
      obtain ⟨d, gd, dx⟩ := hys.getX gy
      rw [List.getElem?_map, List.getElem?_eq_getElem hk] at gd
      cases gd
      exact dx
    refine ⟨_, rfl, vTx rfl (Same.seqT s1 hwa) (atI_nat (j := 0) rfl) ⟨rp, _, _, ys[k], rfl, rfl, SqL.of hrp1, atI_nat gy, _, rfl, ?_⟩⟩
    have lvr : (V.int (k : Nat) :: vr).length = w'.length + 1 := by rw [lwv]; rfl
    have go : ∀ (H' : Hp) (pq : Addr), Same (upd H rp (.lst ys)) H' → SqT K H' pq vr → True := fun _ _ _ _ => trivial
    refine ⟨1, rfl, wa, _, rfl, Same.seqT s1 hwa, fun hw => ?_, fun _ p1 hp1 => ?_⟩
    · exfalso
      have := hw.1
      rw [show (1 : Int) = ((1 : Nat) : Int) from rfl, HT.sIx_nat, lvr] at this
      omega
    rw [show (1 : Int) = ((1 : Nat) : Int) from rfl, cut_drop _ _ (by rw [lvr]; omega)]
    have s2 := same_new (o := .tup ((V.int (k : Nat) :: vr).drop 1)) hp1
    have s12 := s1.trans s2
    refine ⟨_, rfl, ys[k], .ref p1, pw, ts[k], p, w', rfl, dy.same s12, .tup (SqT.of upd_same) (dr.same s12), hp.same s12, sn.kid hm, wt, by rw [List.length_cons] at lw; omega, fun H3 v3 s3 dv3 => ?_⟩
    have hrp3 := s3 _ _ (s2 _ _ hrp1)
    have s13 := s12.trans s3
    refine ⟨_, rfl, vTx rfl (Same.seqT s13 hwa) (atI_nat (j := 0) rfl) ⟨rp, ys, _, k, rfl, rfl, hrp3, ixN_of (by omega) (by omega), ?_⟩⟩
    have s14 : Same H (upd H3 rp (.lst (ys.set k v3))) := Same.upd s13 hrp
    refine vTx rfl (Same.seqT s14 hsq) rfl ⟨_, rfl, rp, _, rfl, .inl ⟨SqL.of upd_same, fun p5 hp5 => ⟨small (by show 3 ≤ _; decide), fun p6 hp6 => q _ _ ((s14.trans (same_new hp5)).trans (same_new hp6)) ?_⟩⟩⟩
    unfold Sy.d
    rw [Sy.ds_map, List.map_set]
    have up : ∀ v d, Dt K H3 v d → Dt K (upd H3 rp (.lst (ys.set k v3))) v d := fun v d z => Dt.mono (fun _ _ y => seqT_upd y hrp3) _ _ z
    refine Dt.mk3 hp6 (.str _) (.str _) (.tup (SqT.of upd_same) (DtAll.same ?_ (same_new hp5)))
    exact DtAll.mono (fun _ _ y => seqT_upd y hrp3) _ _ (DtAll.set dv3 k (hys.same s13))
theorem ok_onc {f : Addr} {fd : FuncData} (F : Fun K "_law_once" "_law_once" s_law_once f fd) (T : Txt K mg) : FnOk P w K mg base CX0 1 f fd ["row"] (spOnc K) := by
  refine F.ok sc_law_once (fun vs H Q E h => ?_) (fun cdv A outer s H vs Q E hr h => ?_)
  · obtain ⟨_, _, rfl, _⟩ := h
    rfl
  obtain ⟨p, ns, rfl, hp, hl, q⟩ := h
  refine ⟨_, (pss_cons (ps_set (i := 1) sc_law_once.nd rfl (Or.inl rfl) (pe_lst pa_nil))
    (pss_cons (ps_for PassesOwn.never rfl (pi_list (pe_callB cr_sortedI (by rfl) T.z_sorted (by decide +kernel) (pa_cons (pv 0) pa_nil))) (pg_name (i := 2) sc_law_once.nd rfl (Or.inl rfl)) (pss_one (ps_if (pt_cmpR op_notIn_seq (pv 2) (pv 1) rfl) (pss_one (ps_expr (pe_bm PySem.F.plainAttrs_list PySem.F.slot_list_append PySem.F.type_list_append mt_append (pv 1) (pa_cons (pv 2) pa_nil)))) pss_nil)))
    (pss_one (ps_ret (pv 1))))), ?_⟩
  refine ⟨small (by show 0 ≤ _; decide), fun fa hfa => ?_⟩
  have s0 := same_new (o := .lst []) hfa
  refine ⟨_, rfl, p, ns, rfl, SqL.of (s0 _ _ hp), fun ys py pm so hpy => ?_⟩
  have s1 := same_new (o := .lst (ys.map V.int)) hpy
  have lys : ys.length = ns.length := pm.length_eq
  have hfa1 := s1 _ _ (upd_same (H := H) (a := fa) (o := .lst []))
  have hpy1 : (upd (upd H fa (.lst [])) py (.lst (ys.map V.int))) py = some (.lst (ys.map V.int)) := upd_same
  have s01 := s0.trans s1
  have nfp : py ≠ fa := fun e => by rw [e, upd_same] at hpy; cases hpy
  generalize upd (upd H fa (.lst [])) py (.lst (ys.map V.int)) = H1 at s1 hfa1 hpy1 s01 ⊢
  refine ⟨py, rfl, ⟨_, SqL.of hpy1⟩, for_it (walk_list (K := K) (xs := ys.map V.int)) (fun i σ H' => ∃ (o2 : Option V) (zs : List Int), σ = [some (.ref p), some (.ref fa), o2] ∧ Same H H' ∧ H' py = some (.lst (ys.map V.int)) ∧ H' fa = some (.lst (zs.map V.int)) ∧ zs.Pairwise (· ≤ ·) ∧ zs.Nodup ∧ zs.length ≤ i ∧ ∀ x, x ∈ zs ↔ x ∈ ys.take i) ?_ ?_ ?_ ?_⟩
  · exact ⟨_, [], rfl, s01, hpy1, hfa1, .nil, List.nodup_nil, Nat.le_refl _, fun x => Iff.rfl⟩
  · rintro i σ H' _ ⟨_, _, _, _, h, _⟩
    exact SqL.of h
  · rintro i x σ H2 H2 hi ⟨o2, zs, rfl, s2, hpy2, hfa2, pz, nz, lz, mz⟩ ⟨rfl, gx⟩
    rw [List.length_map] at hi
    rw [List.getElem?_map, List.getElem?_eq_getElem hi] at gx
    cases gx
    refine ⟨_, rfl, _, rfl, fa, _, rfl, .inl (SqL.of hfa2), rfl, flat_ints _, _, rfl, ?_⟩
    rw [inV_int]
    have tk : ys.take (i + 1) = ys.take i ++ [ys[i]] := by rw [List.take_add_one, List.getElem?_eq_getElem hi]; rfl
    by_cases hm : ys[i] ∈ zs
    · rw [decide_eq_true hm]
      refine iteF ⟨_, zs, rfl, s2, hpy2, hfa2, pz, nz, by omega, fun x => ?_⟩
      rw [tk, List.mem_append, ← mz x]
      exact ⟨.inl, fun z => z.elim id fun z => by rw [List.mem_singleton.mp z]; exact hm⟩
    · rw [decide_eq_false hm]
      refine iteT ⟨_, rfl, .inl ⟨rfl, _, SqL.of hfa2⟩, _, rfl, fa, _, _, rfl, rfl, hfa2, smallL (by rw [List.length_map]; omega), _, zs ++ [ys[i]], rfl, Same.upd s2 hfa, by rw [upd_ne nfp]; exact hpy2, by rw [upd_same, List.map_append]; rfl, ?_, ?_, by rw [List.length_append]; show _ + 1 ≤ _; omega, fun x => ?_⟩
      · refine List.pairwise_append.mpr ⟨pz, List.pairwise_singleton _ _, fun a ha b hb => ?_⟩
        rw [List.mem_singleton.mp hb]
        have ha' := (mz a).mp ha
        have h3 : (ys.take (i + 1)).Pairwise (· ≤ ·) := so.sublist (List.take_sublist _ _)
        rw [tk] at h3
        exact (List.pairwise_append.mp h3).2.2 a ha' _ (List.mem_singleton.mpr rfl)
      · refine List.nodup_append.mpr ⟨nz, by simp, fun a ha b hb => ?_⟩
        rw [List.mem_singleton.mp hb]
        rintro rfl
        exact hm ha
      · rw [tk, List.mem_append, List.mem_append, mz x]
  rintro σ H2 ⟨o2, zs, rfl, s2, hpy2, hfa2, pz, nz, lz, mz⟩
  rw [List.length_map, List.take_length] at mz
  exact ⟨_, rfl, q H2 fa zs s2 hfa2 pz nz fun x => by rw [mz, pm.mem_iff]⟩
end
end PK
namespace PK
open PySem L2
/-! the law -/
def spLaw (K : PySem.W.Frag) : Sp := fun vs H Q _ => ∃ (a : Addr) (ns : List Int), vs = [.ref a] ∧ SqL K H a (ns.map V.int) ∧ ns.length ≤ 63 ∧ ∀ H', Q (.bl true) H'
theorem xNum : ∀ i ∈ List.range 128, (("x" : Str) ++ numT (i : Nat)).length ≤ 30 ∧ ((("x" : Str) ++ numT (i : Nat)) ++ ("_" : Str)).length ≤ 30 := by decide +kernel
theorem xNum' {i : Int} (h0 : 0 ≤ i) (h1 : i < 128) : (("x" : Str) ++ numT i).length ≤ 30 ∧ ((("x" : Str) ++ numT i) ++ ("_" : Str)).length ≤ 30 := by
  have := xNum i.toNat (List.mem_range.mpr (by omega))
  rw [show ((i.toNat : Nat) : Int) = i by omega] at this
  exact this
theorem lg128' : ∀ n ∈ List.range 128, Nat.log2 n < 1920 := by decide +kernel
theorem lg128 {i : Int} (h0 : 0 ≤ i) (h1 : i < 128) : i.natAbs.log2 < 1920 := lg128' _ (List.mem_range.mpr (by omega))
theorem bs_le : ∀ d, d ≤ 5 → bs d ≤ 400000 := by
  intro d h
  have : ∀ d ∈ List.range 6, bs d ≤ 400000 := by decide +kernel
  exact this d (List.mem_range.mpr (by omega))
theorem catLe {i j : Str} (h : (i ++ j).length ≤ 30) : i.length + j.length ≤ sizeLine := by
  have e : (i ++ j).length = i.length + j.length := PySem.Str.length_append ..
  exact Nat.le_of_lt (smallL (by omega))
theorem leaf_size {u : Sy} (h : u.kids = []) : u.size = 1 := by
  rw [Sy.size_eq, h]
  cases u with
  | map es =>
    have : es = [] := List.map_eq_nil_iff.mp h
    rw [this]; rfl
  | _ => rfl
theorem due_size {G : Gt} (g : GOk G) {t : Tm} (h : GN G t) : (due G t).size + 1 ≤ 2 * t.size := by
  induction t using Tm.ind with
  | h t ih =>
    have hl := h.at_
    have hp := t.size_pos
    have all : ∀ ks : List Tm, (∀ k ∈ ks, k ∈ t.kids) → ((ks.map (due G)).map Sy.size).sum + ks.length ≤ 2 * (ks.map Tm.size).sum := fun ks => by
      induction ks with
      | nil => intro _; exact Nat.le_refl 0
      | cons k ks ih2 =>
        intro hk
        have h1 := ih k (hk k List.mem_cons_self) (h.kid (hk k List.mem_cons_self))
        have h2 := ih2 fun x hx => hk x (List.mem_cons_of_mem _ hx)
        rw [List.map_cons, List.map_cons, List.map_cons, List.sum_cons, List.sum_cons, List.length_cons]
        omega
    have h0 := all t.kids fun k hk => hk
    have e1 := t.size_eq
    cases t with
    | int n => rw [due, leaf_size rfl]; omega
    | name s => rw [due, leaf_size rfl]; omega
    | addr n => rw [due, leaf_size rfl]; omega
    | var s => obtain ⟨u, e⟩ := hl; rw [due, e]; show u.size + 1 ≤ _; rw [leaf_size (g s u e).2]; omega
    | node c ts =>
      rw [due_node, Sy.size_eq]
      have h0 : ((ts.map (due G)).map Sy.size).sum + ts.length ≤ 2 * (ts.map Tm.size).sum := h0
      have e1 : (Tm.node c ts).size = 1 + (ts.map Tm.size).sum := e1
      show 1 + ((ts.map (due G)).map Sy.size).sum + 1 ≤ _
      omega
    | map es =>
      rw [due_map, Sy.size_eq]
      have h0 : (((es.map Prod.snd).map (due G)).map Sy.size).sum + (es.map Prod.snd).length ≤ 2 * ((es.map Prod.snd).map Tm.size).sum := h0
      have e1 : (Tm.map es).size = 1 + ((es.map Prod.snd).map Tm.size).sum := e1
      rw [List.length_map] at h0
      show (1 + (es.map fun e => (e.1, due G e.2)).length) + (((es.map fun e => (e.1, due G e.2)).map Prod.snd).map Sy.size).sum + 1 ≤ _
      have key : (es.map fun e => (e.1, due G e.2)).map Prod.snd = (es.map Prod.snd).map (due G) := by rw [List.map_map, List.map_map]; rfl
      rw [key, List.length_map]
      omega
    | form f ts => exact hl.elim
theorem dp_ints {K : PySem.W.Frag} {H : Hp} : ∀ ns : List Int, DpAll K H (ns.map V.int) (ns.map PyData.int)
  | [] => .nil
  | n :: ns => .cons (.int n) (dp_ints ns)
theorem lay_ints (ns : List Int) : (PyData.list (ns.map PyData.int)).canLay0 = true := lay_all fun d hd => by
  obtain ⟨n, _, rfl⟩ := List.mem_map.mp hd
  rfl
theorem dep_ints (ns : List Int) : (PyData.list (ns.map PyData.int)).depth ≤ 190 := by
  have : PyData.depthAll (ns.map PyData.int) ≤ 0 := depth_all fun d hd => by
    obtain ⟨n, _, rfl⟩ := List.mem_map.mp hd
    exact Nat.le_refl 0
  show PyData.depthAll (ns.map PyData.int) + 1 ≤ 190
  omega
theorem resL_mem {f : IF} {ys : List Int} {p : Int × Int} (h : p ∈ resL f ys) : p.1 ∈ ys := by
  unfold resL at h
  obtain ⟨u, hu, rfl⟩ := List.mem_map.mp h
  exact (List.mem_filter.mp hu).1
theorem add_lay (f : IF) (n : Int) (ys : List Int) : (addD f n ys).canLay0 = true ∧ (addD f n ys).depth ≤ 190 := by
  unfold addD
  constructor
  · unfold Sy.d
    refine lay3 (wSok "sum" (by decide)) (lay_tup fun d hd => ?_) rfl
    obtain ⟨p, _, rfl⟩ := List.mem_map.mp hd
    exact lay2 rfl rfl
  · have h1 := Sy.depth (.sum (resL f ys) n)
    have h2 : (Sy.sum (resL f ys) n).ht ≤ 0 + 1 := Sy.ht_le fun k hk => absurd hk List.not_mem_nil
    omega
section
variable {P : Program} {w : World} {K : PySem.W.Frag} {mg : Str → Option Value} {base : Heap} {aF : Addr}
abbrev s_law : Stmt := topS 28
theorem sc_law : FnScope ["script", "pool", "words", "table", "word", "term", "due", "ways", "way", "part", "one", "other", "sign", "n", "k"] ["script"] (defScope s_law) := ⟨rfl, rfl, rfl, by decide +kernel, rfl, by decide +kernel, by decide +kernel⟩
-- slots: 0:script 1:pool(cell) 2:words 3:table 4:word 5:term 6:due 7:ways 8:way 9:part 10:one 11:other 12:sign 13:n 14:k(comp)
theorem ok_law {f : Addr} {fd : FuncData} (F : Fun K "law" "law" s_law f fd) (T : TxtZ K mg aF) (C_law_pool : C8.Cal P w K mg base 1 "_law_pool" (spPool K) []) (C_law_take : C8.Cal P w K mg base 2 "_law_take" (spTake 2) []) (C_law_given : C8.Cal P w K mg base 5 "_law_given" (spGiv K) []) (C_law_term : C8.Cal P w K mg base 9 "_law_term" (spTermD K 6) []) (C_law_due : C8.Cal P w K mg base 10 "_law_due" (spDueL K 10) [])
    (C_law_size : C8.Cal P w K mg base 20 "_law_size" (spLsz K 20) []) (C_law_found : C8.Cal P w K mg base 20 "_law_found" (spLfn K 20) []) (C_law_ways : C8.Cal P w K mg base 20 "_law_ways" (spWay K 20) []) (C_law_put : C8.Cal P w K mg base 40 "_law_put" (spLpu K 40) []) (C_law_once : C8.Cal P w K mg base 1 "_law_once" (spOnc K) []) (C_law_sum : C8.Cal P w K mg base 4 "_law_sum" (spSumD K) []) (C_law_whole : C8.Cal P w K mg base 3 "_law_whole" spWho []) (C_law_added : C8.Cal P w K mg base 1 "_law_added" (spAdd K) [])
    (C_symbolic : C8.Cal P w K mg base 6 "symbolic" (spSym K) []) (C_size : C8.Cal P w K mg base 2 "size" (spSiz K) []) (C_unknowns_in : C8.Cal P w K mg base 2 "unknowns_in" (spUnk K) []) (C_replaced : C8.Cal P w K mg base 2 "replaced" (spWp K) []) (C_added : C8.Cal P w K mg base 1 "added" (spAdd K) []) (C_integer : C8.Cal P w K mg base 1 "integer" (spInt K) []) :
    FnOk P w K mg base CX0 101 f fd ["script"] (spLaw K) := by
  refine F.ok sc_law (fun vs H Q E h => ?_) (fun cdv A outer s H vs Q E hr h => ?_)
  · obtain ⟨a, ns, rfl, _⟩ := h
    rfl
  obtain ⟨a, ns, rfl, ha, hn, q⟩ := h
  refine ⟨_, (pss_cons (ps_set (i := 1) sc_law.nd rfl (Or.inr rfl) (C8.pe_c C_law_pool hr (by decide) rfl (pa_cons (pv 0) pa_nil)))
    (pss_cons (ps_setLc (i := 2) (own := [("k", 14)]) (g := (gName 14)) (tt := tYes) (by rfl) sc_law.nd rfl rfl (sw_true rfl rfl rfl (by decide +kernel)) (pi_range1 (by rfl) T.z_range (pa_cons (pe_op op_add pe_int (C8.pe_c C_law_take hr (by decide) rfl (pa_cons (pv 1) (pa_cons pe_int pa_nil)))) pa_nil)) (blkOk_by (N := ["script", "pool", "words", "table", "word", "term", "due", "ways", "way", "part", "one", "other", "sign", "n", "k"]) (sc := defScope s_law) (by decide +kernel)) (fun _ _ _ _ _ => (pg_name (i := 14) sc_law.nd rfl (Or.inl rfl))) (fun _ _ _ _ _ => pts_nil) (fun _ _ _ _ _ => (pe_op op_add_str (pe_op op_add_str (pe_op op_add_str pe_str (pe_callTy call_str_int (by rfl) T.z_str (by decide +kernel) (pa_cons (C8.pe_c C_law_take hr (by decide) rfl (pa_cons (pv 1) (pa_cons pe_int pa_nil))) pa_nil))) pe_str) (pe_callTy call_str_int (by rfl) T.z_str (by decide +kernel) (pa_cons (pv 14) pa_nil)))))
    (pss_cons (ps_set (i := 3) sc_law.nd rfl (Or.inl rfl) pe_dnewK)
    (pss_cons (ps_for PassesOwn.never rfl (pi_list (pv 2)) (pg_name (i := 4) sc_law.nd rfl (Or.inl rfl)) (pss_one (ps_dput (hu_of hr) (pv 3) (pv 4) (C8.pe_c C_law_given hr (by decide) rfl (pa_cons (pv 1) pa_nil)) rfl)))
    (pss_cons (ps_set (i := 5) sc_law.nd rfl (Or.inl rfl) (C8.pe_c C_law_term hr (by decide) rfl (pa_cons (pv 1) (pa_cons (pv 2) (pa_cons (pe_op op_add pe_int (C8.pe_c C_law_take hr (by decide) rfl (pa_cons (pv 1) (pa_cons pe_int pa_nil)))) pa_nil)))))
    (pss_cons (ps_set (i := 6) sc_law.nd rfl (Or.inl rfl) (C8.pe_c C_law_due hr (by decide) rfl (pa_cons (pv 5) (pa_cons (pv 3) pa_nil))))
    (pss_cons (ps_if (PW.pt (pw_or (pt_cmpR (PKE.op_neN (n := 190) (eqU hr)) (C8.pe_c C_symbolic hr (by decide) rfl (pa_cons (pv 5) (pa_cons (pv 3) pa_nil))) (pv 6) (nomark _)) (pw_or1 (pt_cmpR op_ne (C8.pe_c C_size hr (by decide) rfl (pa_cons (pv 6) pa_nil)) (C8.pe_c C_law_size hr (by decide) rfl (pa_cons (pv 6) pa_nil)) (nomark _))))) (pss_one (ps_ret pe_bl)) pss_nil)
    (pss_cons (ps_if (pt_cmpR (PKE.op_neN (n := 190) (eqU hr)) (C8.pe_c C_unknowns_in hr (by decide) rfl (pa_cons (pv 6) pa_nil)) (C8.pe_c C_law_once hr (by decide) rfl (pa_cons (C8.pe_c C_law_found hr (by decide) rfl (pa_cons (pv 6) pa_nil)) pa_nil)) (nomark _)) (pss_one (ps_ret pe_bl)) pss_nil)
    (pss_cons (ps_set (i := 7) sc_law.nd rfl (Or.inl rfl) (C8.pe_c C_law_ways hr (by decide) rfl (pa_cons (pv 6) pa_nil)))
    (pss_cons (ps_set (i := 8) sc_law.nd rfl (Or.inl rfl) (pe_ix ix_list (pv 7) (C8.pe_c C_law_take hr (by decide) rfl (pa_cons (pv 1) (pa_cons (pe_callB call_len_seq (by rfl) T.z_len (by decide +kernel) (pa_cons (pv 7) pa_nil)) pa_nil))) (fun _ _ => rfl)))
    (pss_cons (ps_set (i := 9) sc_law.nd rfl (Or.inl rfl) (C8.pe_c C_law_due hr (by decide) rfl (pa_cons (C8.pe_c C_law_term hr (by decide) rfl (pa_cons (pv 1) (pa_cons (pv 2) (pa_cons pe_int pa_nil)))) (pa_cons (pv 3) pa_nil))))
    (pss_cons (ps_if (pt_cmpR (PKE.op_neN (n := 190) (eqU hr)) (C8.pe_c C_replaced hr (by decide) rfl (pa_cons (pv 6) (pa_cons (pv 8) (pa_cons (pv 9) pa_nil)))) (C8.pe_c C_law_put hr (by decide) rfl (pa_cons (pv 6) (pa_cons (pv 8) (pa_cons (pv 9) pa_nil)))) (nomark _)) (pss_one (ps_ret pe_bl)) pss_nil)
    (pss_cons (ps_set (i := 10) sc_law.nd rfl (Or.inl rfl) (C8.pe_c C_law_sum hr (by decide) rfl (pa_cons (pv 1) pa_nil)))
    (pss_cons (ps_set (i := 11) sc_law.nd rfl (Or.inl rfl) (C8.pe_c C_law_sum hr (by decide) rfl (pa_cons (pv 1) pa_nil)))
    (pss_cons (ps_set (i := 12) sc_law.nd rfl (Or.inl rfl) (pe_ix ix_tup (pe_tup (pa_cons pe_int (pa_cons (pe_un un_neg pe_int) pa_nil))) (C8.pe_c C_law_take hr (by decide) rfl (pa_cons (pv 1) (pa_cons pe_int pa_nil))) (fun _ _ => rfl)))
    (pss_cons (ps_set (i := 13) sc_law.nd rfl (Or.inl rfl) (C8.pe_c C_law_whole hr (by decide) rfl (pa_cons (pv 1) pa_nil)))
    (pss_one (ps_ret (pe_and (pe_cmpR (PKE.op_eqN (n := 190) (eqU hr)) (C8.pe_c C_added hr (by decide) rfl (pa_cons (pv 10) (pa_cons (pv 11) (pa_cons (pv 12) pa_nil)))) (C8.pe_c C_law_added hr (by decide) rfl (pa_cons (pv 10) (pa_cons (pv 11) (pa_cons (pv 12) pa_nil)))) (nomark _)) (pe_one (pe_cmpR (PKE.op_eqN (n := 190) (eqU hr)) (C8.pe_c C_integer hr (by decide) rfl (pa_cons (pv 13) pa_nil)) (pe_tup (pa_cons pe_str (pa_cons (pe_tup pa_nil) (pa_cons (pv 13) pa_nil)))) (nomark _)))))))))))))))))))))), ?_⟩
  refine ⟨_, rfl, a, ns, rfl, ha, hn, fun H0 l c s0 hl0 P0 => ?_⟩
  refine vTake rfl P0 (by decide) (by decide) fun m H1 m0 m1 x1 => ?_
  refine ⟨_, _, rfl, rfl, _, rfl, by omega, by omega, fun D hD => lc_range (lo := 0) (n := (1 + m).toNat) (fun i H' => ∃ zs : List Str, Ext l c H0 H' ∧ H' D = some (.lst (zs.map V.str)) ∧ zs.length = i) ?_ ?_ ?_⟩
  · exact ⟨[], x1.new P0 hD, upd_same, rfl⟩
  · rintro i H2 hi ⟨zs, x2, hD2, lz⟩
    refine ⟨rfl, yes_ (vTake rfl x2.pool (by decide) (by decide) fun k H3 k0 k1 x3 => ?_)⟩
    have b1 := xNum' k0 (by omega)
    have b2 := (xNum' (i := 0 + (i : Int)) (by omega) (by omega)).1
    have hD3 := x3.keep _ _ (x1.pool.ne hD).1 hD2
    refine ⟨_, rfl, lg128 k0 (by omega), _, _, rfl, rfl, catLe b1.1, _, _, rfl, rfl, catLe b1.2, _, rfl, _, rfl, lg128 (by omega) (by omega), _, _, rfl, rfl, ?_, ?_⟩
    · have := b1.2
      have h2 : (("x" : Str) ++ numT (0 + (i : Int))).length = ("x" : Str).length + (numT (0 + (i : Int))).length := PySem.Str.length_append ..
      have h3 := b2
      exact Nat.le_of_lt (smallL (Nat.lt_of_le_of_lt (Nat.add_le_add this (show (numT (0 + (i : Int))).length ≤ 30 by omega)) (by decide)))
    · refine ⟨_, hD3, smallL (by rw [List.length_map]; omega), zs ++ [(("x" : Str) ++ numT k ++ ("_" : Str)) ++ numT (0 + (i : Int))], (x2.trans x3).upd P0 (x1.free P0 hD), ?_, by rw [List.length_append, lz]; rfl⟩
      rw [upd_same, List.map_append]; rfl
  rintro H2 ⟨ws, x2, hD2, lws⟩
  have nDl := (x1.pool.ne hD).1
  have hD0 := x1.free P0 hD
  refine fun td htd => ?_
  have htd0 := x2.free P0 htd
  have ntl := (x2.pool.ne htd).1
  have nDt : D ≠ td := fun e => by rw [e, htd] at hD2; cases hD2
  refine ⟨_, rfl, D, rfl, ⟨_, SqL.of (by rw [upd_ne nDt]; exact hD2)⟩, for_it (walk_list (K := K) (xs := ws.map V.str)) (fun i σ H' => ∃ (o4 : Option V) (kvs : List (Key × V)) (G : Gt), σ = [some (.ref a), some (.ref l), some (.ref D), some (.ref td), o4, none, none, none, none, none, none, none, none, none, none] ∧ Ext l c H0 H' ∧ H' D = some (.lst (ws.map V.str)) ∧ H' td = some (.dK kvs) ∧ BindS K H' kvs G ∧ GOk G ∧ kvs.length ≤ i ∧ ∀ w ∈ ws.take i, ∃ t, lookA G w = some t) ?_ ?_ ?_ ?_⟩
  · exact ⟨_, [], [], rfl, x2.new P0 htd, by rw [upd_ne nDt]; exact hD2, upd_same, (fun s t e => by simp [lookA] at e), (fun s t e => by simp [lookA] at e), Nat.le_refl _, fun w h => absurd h List.not_mem_nil⟩
  · rintro i σ H' _ ⟨_, _, _, _, _, h, _⟩
    exact SqL.of h
  · rintro i x σ H3 H3 hi ⟨o4, kvs, G, rfl, x3, hD3, ht3, bG, gG, lk, al⟩ ⟨rfl, gx⟩
    rw [List.length_map] at hi
    rw [List.getElem?_map, List.getElem?_eq_getElem hi] at gx
    cases gx
    refine ⟨_, rfl, l, c, rfl, x3.pool, fun H4 v t x4 dv sv kv => ?_⟩
    have hD4 := x4.keep _ _ nDl hD3
    have ht4 := x4.keep _ _ ntl ht3
    have lz := length_putK kvs (Sum.inr ws[i] : Key) v
    refine ⟨_, rfl, _, rfl, td, _, rfl, DPut.k (k := Sum.inr ws[i]) ht4 (smallL (by omega)), some (.str ws[i]), _, G ++ [(ws[i], t)], rfl, (x3.trans x4).upd P0 htd0, by rw [upd_ne nDt]; exact hD4, upd_same, fun s t' e => ?_, fun s t' e => ?_, by omega, fun w hw => ?_⟩
    · rw [lookA_snoc] at e
      rw [valV_put]
      by_cases h : ws[i] = s
      · rw [if_pos h] at e
        cases e
        exact ⟨v, by rw [if_pos (by rw [h])], Dt.mono (fun _ _ q => seqT_updK q ht4) _ _ dv⟩
      · rw [if_neg h] at e
        obtain ⟨v', h1, h2⟩ := bG s t' e
        exact ⟨v', by rw [if_neg (fun z => h (Sum.inr.inj z).symm)]; exact h1, Dt.mono (fun _ _ q => seqT_updK q ht4) _ _ (h2.ext x3.pool x4)⟩
    · rw [lookA_snoc] at e
      by_cases h : ws[i] = s
      · rw [if_pos h] at e
        cases e
        exact ⟨sv, kv⟩
      · rw [if_neg h] at e
        exact gG s t' e
    · rw [lookA_snoc]
      by_cases h : ws[i] = w
      · exact ⟨t, by rw [if_pos h]⟩
      · rw [if_neg h]
        refine al w ?_
        rw [List.take_add_one, List.getElem?_eq_getElem hi] at hw
        rcases List.mem_append.mp hw with hw | hw
        · exact hw
        · exact absurd (List.mem_singleton.mp hw).symm h
  rintro σ H3 ⟨o4, kvs, G, rfl, x3, hD3, ht3, bG, gG, lk, al⟩
  rw [List.length_map] at lk al
  rw [List.take_length] at al
  have wne : ws ≠ [] := fun e => by rw [e] at lws; simp at lws; omega
  refine ⟨_, rfl, _, rfl, vTake rfl x3.pool (by decide) (by decide) fun m2 H4 n0 n1 x4 => ?_⟩
  have hD4 := x4.keep _ _ nDl hD3
  have ht4 := x4.keep _ _ ntl ht3
  refine ⟨_, _, rfl, rfl, l, c, D, ws, (1 + m2).toNat, G, by rw [show (((1 + m2).toNat : Nat) : Int) = 1 + m2 by omega]; rfl, by omega, x4.pool, nDl, hD4, wne, by omega, al, fun H5 v t x5 dv gt ht zt => ?_⟩
  have zb := bs_le (1 + m2).toNat (by omega)
  have hD5 := x5.keep _ _ nDl hD4
  have ht5 := x5.keep _ _ ntl ht4
  have x35 := x4.trans x5
  have bG5 : BindS K H5 kvs G := bG.mono fun _ _ q => q.ext x3.pool x35
  refine ⟨_, rfl, _, rfl, v, td, t, kvs, G, rfl, dv, ht5, bG5, gt, by omega, fun H6 dv6 s6 du6 => ?_⟩
  have su := due_sn gG gt
  have hu := due_ht gG gt
  have zu := due_size gG gt
  generalize hud : due G t = u at su hu zu du6
  have ud : u.d.depth ≤ 190 := by have := Sy.depth u; omega
  have eqd : PyData.eqv u.d u.d = true := SeqAt.eqv_refl _ su.lay
  have ht6 := s6 _ _ ht5
  have bG6 := bG5.same s6
  refine ⟨_, rfl, _, rfl, v, t, td, kvs, G, rfl, dv.same s6, ht6, bG6, gt, by omega, fun H7 v7 s7 d7 => ⟨_, rfl, u.d, u.d, Dt.dp _ _ (hud ▸ d7), Dt.dp _ _ (du6.same s7), su.lay, su.lay, .inl ud, ?_⟩⟩
  rw [eqd]
  refine ⟨_, rfl, iteF ⟨_, rfl, dv6, u, rfl, du6.same s7, su, by omega, fun H8 s8 => ⟨_, rfl, dv6, u, rfl, (du6.same s7).same s8, su, by omega, fun H9 s9 => ?_⟩⟩⟩
  refine ⟨rfl, _, rfl, ?_⟩
  rw [decide_eq_true rfl]
  refine iteF ?_
  have s69 := (s6.trans s7).trans (s8.trans s9)
  have du9 := (du6.same s7).same (s8.trans s9)
  refine ⟨_, rfl, dv6, u, rfl, du9, su, by omega, fun H10 p10 ys10 s10 hp10 so10 nd10 mm10 => ⟨_, rfl, dv6, u, rfl, du9.same s10, su, by omega, by omega, fun H11 p11 s11 hp11 => ⟨p11, _, rfl, hp11, by have := fnd_len su; omega, fun H12 p12 ys12 s12 hp12 so12 nd12 mm12 => ⟨.list (ys10.map .int), .list (ys12.map .int), .lst (SqL.of ((s11.trans s12) _ _ hp10)) (dp_ints _), .lst (SqL.of hp12) (dp_ints _), lay_ints _, lay_ints _, .inl (dep_ints _), ?_⟩⟩⟩⟩
  rw [asc_eq so10 nd10 so12 nd12 fun x => (mm10 x).trans (mm12 x).symm, SeqAt.eqv_refl _ (lay_ints _)]
  refine ⟨_, rfl, iteF ?_⟩
  have du12 := du9.same (s10.trans (s11.trans s12))
  refine ⟨_, rfl, dv6, u, rfl, du12, su, by omega, by omega, by omega, fun H13 p13 vs13 W s13 hp13 dw ne lW ok => ?_⟩
  have s613 := (s69.trans (s10.trans (s11.trans s12))).trans s13
  have du13 := du12.same s13
  have pl13 := x5.pool.same s613
  have np13 : p13 ≠ l := fun e => by
    obtain ⟨ns, i, r, s, hl, _⟩ := pl13
    rw [e, hl] at hp13
    cases hp13
    cases W with
    | nil => exact ne rfl
    | cons w1 W => cases W with
      | nil => cases dw with | cons _ t => cases t
      | cons w2 W => cases dw with | cons _ t => cases t with | cons h _ => cases h
  have lv13 : vs13.length = W.length := by rw [dw.lenD, List.length_map]
  have lW0 : 0 < W.length := List.length_pos_iff.mpr ne
  refine ⟨_, rfl, _, rfl, _, rfl, p13, _, rfl, .inl (SqL.of hp13), l, c, _, False, rfl, pl13, by omega, by omega, .inl (Nat.le_refl 2), fun e H14 e0 e1 x14 => ?_⟩
  obtain ⟨j, rfl⟩ : ∃ j : Nat, e = j := ⟨e.toNat, by omega⟩
  have hj : j < W.length := by omega
  obtain ⟨wv, gw, dwv⟩ := DtAll.getD dw (show (W.map wyD)[j]? = some (wyD W[j]) by rw [List.getElem?_map, List.getElem?_eq_getElem hj]; rfl)
  obtain ⟨wy, wl⟩ := ok W[j] (List.getElem_mem hj)
  refine ⟨p13, _, _, wv, rfl, rfl, SqL.of (x14.keep _ _ np13 hp13), atI_nat gw, ?_⟩
  have hD14 := x14.keep _ _ nDl (s613 _ _ hD5)
  have ht14 := x14.keep _ _ ntl (s613 _ _ ht5)
  have bG14 : BindS K H14 kvs G := (bG5.same s613).mono fun _ _ q => q.ext pl13 x14
  have du14 := du13.ext pl13 x14
  have dwv14 := dwv.ext pl13 x14
  refine ⟨_, rfl, _, rfl, l, c, D, ws, 2, G, rfl, by decide, x14.pool, nDl, hD14, wne, by omega, al, fun H15 v15 t15 x15 dv15 gt15 hh15 zt15 => ⟨_, rfl, v15, td, t15, kvs, G, rfl, dv15, x15.keep _ _ ntl ht14, bG14.mono fun _ _ q => q.ext x14.pool x15, gt15, by omega, fun H16 v16 s16 d16 => ?_⟩⟩
  have sp := due_sn gG gt15
  have hp := due_ht gG gt15
  generalize due G t15 = p at sp hp d16
  have du16 := (du14.ext x14.pool x15).same s16
  have dwv16 := (dwv14.ext x14.pool x15).same s16
  have pu := put_sn sp su wy
  refine ⟨_, rfl, _, rfl, _, rfl, dv6, wv, v16, u, p, W[j], rfl, du16, dwv16, d16, su, wy, by omega, fun H17 v17 s17 d17 => ⟨_, rfl, _, rfl, _, rfl, dv6, wv, v16, u, p, W[j], rfl, du16.same s17, dwv16.same s17, d16.same s17, su, wy, by omega, fun H18 v18 s18 d18 => ⟨_, _, Dt.dp _ _ (d17.same s18), Dt.dp _ _ d18, pu.1.lay, pu.1.lay, .inl (by have := Sy.depth (put p W[j] u); omega), ?_⟩⟩⟩
  rw [SeqAt.eqv_refl _ pu.1.lay]
  refine ⟨_, rfl, iteF ?_⟩
  have pl18 := x15.pool.same ((s16.trans s17).trans s18)
  refine ⟨_, rfl, l, c, rfl, pl18, fun H19 v19 P19 n19 x19 sm19 nd19 => ?_⟩
  refine ⟨_, rfl, l, c, rfl, x19.pool, fun H20 v20 P20 n20 x20 sm20 nd20 => ?_⟩
  refine ⟨_, rfl, small (by show 2 ≤ _; decide), fun pp hpp => vTake rfl (x20.pool.same (same_new hpp)) (by decide) (by decide) fun k H22 k0 k1 x22 => ?_⟩
  have s21 := same_new (o := .tup [.int 1, .int (-1)]) hpp
  have pl21 := x20.pool.same s21
  have hpp22 : SqT K H22 pp [.int 1, .int (-1)] := x22.seqT pl21 (SqT.of upd_same)
  obtain ⟨kn, rfl⟩ : ∃ kn : Nat, k = kn := ⟨k.toNat, by omega⟩
  have sg : ∃ sign : Int, (sign = 1 ∨ sign = -1) ∧ [V.int 1, V.int (-1)][kn]? = some (.int sign) := by
    have : kn = 0 ∨ kn = 1 := by omega
    rcases this with rfl | rfl
    · exact ⟨1, .inl rfl, rfl⟩
    · exact ⟨-1, .inr rfl, rfl⟩
  obtain ⟨sign, hs, gs⟩ := sg
  refine ⟨pp, _, _, .int sign, rfl, rfl, hpp22, atI_nat gs, ?_⟩
  refine ⟨_, rfl, l, c, rfl, x22.pool, fun H23 n x23 => ?_⟩
  have x1923 : Ext l c H20 H23 := ((Ext.refl x20.pool).same s21).trans (x22.trans x23)
  have sm20' := sm20.ext x20.pool x1923
  have sm19' := sm19.ext x19.pool (x20.trans x1923)
  refine ⟨_, rfl, _, rfl, _, rfl, v19, v20, P19, P20, n19, n20, sign, rfl, sm19', sm20', hs, fun H24 v24 ys24 s24 so24 nd24 mm24 d24 => ?_⟩
  refine ⟨_, rfl, _, rfl, _, rfl, v19, v20, P19, P20, n19, n20, sign, rfl, sm19'.ext x23.pool ((Ext.refl x23.pool).same s24), sm20'.ext x23.pool ((Ext.refl x23.pool).same s24), hs, fun H25 v25 ys25 s25 so25 nd25 mm25 d25 => ?_⟩
  have ey := asc_eq so24 nd24 so25 nd25 fun x => (mm24 x).trans (mm25 x).symm
  subst ey
  have al := add_lay (fAdd (fOf P19) sign P20) (n19 + sign * n20) ys24
  refine ⟨_, _, Dt.dp _ _ (d24.same s25), Dt.dp _ _ d25, al.1, al.1, .inl al.2, ?_⟩
  rw [SeqAt.eqv_refl _ al.1]
  have sn0 : SN (.sum [] n) := .mk ⟨Nat.zero_le _, fun p hp => absurd hp List.not_mem_nil, List.nodup_nil⟩ fun k hk => absurd hk List.not_mem_nil
  have dep0 : (Sy.sum [] n).d.depth ≤ 190 := by
    have h1 := Sy.depth (.sum [] n)
    have h2 : (Sy.sum [] n).ht ≤ 0 + 1 := Sy.ht_le fun k hk => absurd hk List.not_mem_nil
    omega
  refine ⟨_, rfl, ?_⟩
  refine ⟨_, rfl, n, rfl, fun H26 v26 s26 d26 => ⟨small (by show 0 ≤ _; decide), fun pe hpe => ⟨_, rfl, small (by show 3 ≤ _; decide), fun pt hpt => ?_⟩⟩⟩
  have s27 := same_new (o := .tup []) hpe
  have s28 := same_new (o := .tup [.str "sum", .ref pe, .int n]) hpt
  have dr : Dt K (upd (upd H26 pe (.tup [])) pt (.tup [.str "sum", .ref pe, .int n])) (.ref pt) (Sy.sum [] n).d := by
    unfold Sy.d
    exact .tup (SqT.of upd_same) (.cons (.str _) (.cons (.tup (Same.seqT s28 (SqT.of upd_same)) .nil) (.cons (.int _) .nil)))
  refine ⟨_, _, Dt.dp _ _ (d26.same (s27.trans s28)), Dt.dp _ _ dr, sn0.lay, sn0.lay, .inl dep0, ?_⟩
  rw [SeqAt.eqv_refl _ sn0.lay]
  exact q _
end
end PK
namespace PK
open PySem L2
section
variable {P : Program} {w : World} {K : PySem.W.Frag} {mg : Str → Option Value} {base : Heap}
theorem none_okX {f : Addr} {fd : FuncData} {ps : List Str} {sp : Sp} {k : Nat} (no : ∀ vs H Q E, ¬ sp vs H Q E) : FnOk P w K mg base (L2.CX P w) k f fd ps sp :=
  ⟨fun vs H Q E h => absurd h (no vs H Q E), fun A outer s H args us vs Q E _ _ _ _ h => absurd h (no vs H Q E)⟩
theorem none_ok {f : Addr} {fd : FuncData} {ps : List Str} {sp : Sp} {k : Nat} (no : ∀ vs H Q E, ¬ sp vs H Q E) : FnOk P w K mg base CX0 k f fd ps sp :=
  ⟨fun vs H Q E h => absurd h (no vs H Q E), fun A outer s H args us vs Q E _ _ _ _ h => absurd h (no vs H Q E)⟩
theorem cal_mk {x : Str} {f : Addr} {fd : FuncData} {ps : List Str} {sp : Sp} {k : Nat} (G : FnOk P w K mg base CX0 k f fd ps sp) (m : mg x = some (.ref f)) (kp : PySem.W.keepIn K (.ref f) = true) (b : Binds K fd ps []) : C8.Cal P w K mg base k x sp [] :=
  ⟨f, fd, ps, [], G, m, kp, b, .nil⟩
end
set_option maxHeartbeats 0 in
theorem all_mk {l : PySem.W.OpenLaw} {w : World} {K : PySem.W.Frag} {h : Heap} {mg : Str → Option Value} {fa f1 f2 f3 f4 f5 f6 f7 f8 f9 f10 f11 f12 f13 f14 f15 f16 f17 f18 f19 f20 f21 f22 f23 f24 f25 : Addr} (X : K.In h) (G : h.Ns mainGlobals mg) (hfa : mg "law" = some (.ref fa))
    {od1 an1 od2 an2 od3 an3 od4 an4 od5 an5 od6 an6 od7 an7 od8 an8 od9 an9 od10 an10 od11 an11 od12 an12 od13 an13 od14 an14 od15 an15 od16 an16 od17 an17 od18 an18 od19 an19 od20 an20 od21 an21 od22 an22 od23 an23 od24 an24 od25 an25 : Option Addr} {sl1 sl2 sl3 sl4 sl5 sl6 sl7 sl8 sl9 sl10 sl11 sl12 sl13 sl14 sl15 sl16 sl17 sl18 sl19 sl20 sl21 sl22 sl23 sl24 sl25 : Array (Option Value)} {oc1 kV1 dc1 pm1 cd1 ct1 oc2 kV2 dc2 pm2 cd2 ct2 oc3 kV3 dc3 pm3 cd3 ct3 oc4 kV4 dc4 pm4 cd4 ct4 oc5 kV5 dc5 pm5 cd5 ct5 oc6 kV6 dc6 pm6 cd6 ct6 oc7 kV7 dc7 pm7 cd7 ct7 oc8 kV8 dc8 pm8 cd8 ct8 oc9 kV9 dc9 pm9 cd9 ct9 oc10 kV10 dc10 pm10 cd10 ct10 oc11 kV11 dc11 pm11 cd11 ct11 oc12 kV12 dc12 pm12 cd12 ct12 oc13 kV13 dc13 pm13 cd13 ct13 oc14 kV14 dc14 pm14 cd14 ct14 oc15 kV15 dc15 pm15 cd15 ct15 oc16 kV16 dc16 pm16 cd16 ct16 oc17 kV17 dc17 pm17 cd17 ct17 oc18 kV18 dc18 pm18 cd18 ct18 oc19 kV19 dc19 pm19 cd19 ct19 oc20 kV20 dc20 pm20 cd20 ct20 oc21 kV21 dc21 pm21 cd21 ct21 oc22 kV22 dc22 pm22 cd22 ct22 oc23 kV23 dc23 pm23 cd23 ct23 oc24 kV24 dc24 pm24 cd24 ct24 oc25 kV25 dc25 pm25 cd25 ct25 : Value}
    (a1 : PySem.W.nsIn K mainGlobals "children" = some (some (.ref f1))) (l1 : K.lookup f1 = some ⟨oc1, od1, .func (PySem.W.fnOf "children" "children" (defArgs s_children) (defBody s_children) (defScope s_children) .none kV1 dc1 pm1 an1 cd1 ct1), sl1⟩) (c1 : PySem.W.codeIn K cd1 "children" = true) (k1 : PySem.W.keepIn K (.ref f1) = true)
    (a2 : PySem.W.nsIn K mainGlobals "with_part" = some (some (.ref f2))) (l2 : K.lookup f2 = some ⟨oc2, od2, .func (PySem.W.fnOf "with_part" "with_part" (defArgs s_with_part) (defBody s_with_part) (defScope s_with_part) .none kV2 dc2 pm2 an2 cd2 ct2), sl2⟩) (c2 : PySem.W.codeIn K cd2 "with_part" = true) (k2 : PySem.W.keepIn K (.ref f2) = true)
    (a3 : PySem.W.nsIn K mainGlobals "parts_of" = some (some (.ref f3))) (l3 : K.lookup f3 = some ⟨oc3, od3, .func (PySem.W.fnOf "parts_of" "parts_of" (defArgs s_parts_of) (defBody s_parts_of) (defScope s_parts_of) .none kV3 dc3 pm3 an3 cd3 ct3), sl3⟩) (c3 : PySem.W.codeIn K cd3 "parts_of" = true) (k3 : PySem.W.keepIn K (.ref f3) = true)
    (a4 : PySem.W.nsIn K mainGlobals "integer" = some (some (.ref f4))) (l4 : K.lookup f4 = some ⟨oc4, od4, .func (PySem.W.fnOf "integer" "integer" (defArgs s_integer) (defBody s_integer) (defScope s_integer) .none kV4 dc4 pm4 an4 cd4 ct4), sl4⟩) (c4 : PySem.W.codeIn K cd4 "integer" = true) (k4 : PySem.W.keepIn K (.ref f4) = true)
    (a5 : PySem.W.nsIn K mainGlobals "added" = some (some (.ref f5))) (l5 : K.lookup f5 = some ⟨oc5, od5, .func (PySem.W.fnOf "added" "added" (defArgs s_added) (defBody s_added) (defScope s_added) .none kV5 dc5 pm5 an5 cd5 ct5), sl5⟩) (c5 : PySem.W.codeIn K cd5 "added" = true) (k5 : PySem.W.keepIn K (.ref f5) = true)
    (a6 : PySem.W.nsIn K mainGlobals "symbolic" = some (some (.ref f6))) (l6 : K.lookup f6 = some ⟨oc6, od6, .func (PySem.W.fnOf "symbolic" "symbolic" (defArgs s_symbolic) (defBody s_symbolic) (defScope s_symbolic) .none kV6 dc6 pm6 an6 cd6 ct6), sl6⟩) (c6 : PySem.W.codeIn K cd6 "symbolic" = true) (k6 : PySem.W.keepIn K (.ref f6) = true)
    (a7 : PySem.W.nsIn K mainGlobals "_symbolic_part" = some (some (.ref f7))) (l7 : K.lookup f7 = some ⟨oc7, od7, .func (PySem.W.fnOf "_symbolic_part" "_symbolic_part" (defArgs s_symbolic_part) (defBody s_symbolic_part) (defScope s_symbolic_part) .none kV7 dc7 pm7 an7 cd7 ct7), sl7⟩) (c7 : PySem.W.codeIn K cd7 "_symbolic_part" = true) (k7 : PySem.W.keepIn K (.ref f7) = true)
    (a8 : PySem.W.nsIn K mainGlobals "inner_terms" = some (some (.ref f8))) (l8 : K.lookup f8 = some ⟨oc8, od8, .func (PySem.W.fnOf "inner_terms" "inner_terms" (defArgs s_inner_terms) (defBody s_inner_terms) (defScope s_inner_terms) .none kV8 dc8 pm8 an8 cd8 ct8), sl8⟩) (c8 : PySem.W.codeIn K cd8 "inner_terms" = true) (k8 : PySem.W.keepIn K (.ref f8) = true)
    (a9 : PySem.W.nsIn K mainGlobals "size" = some (some (.ref f9))) (l9 : K.lookup f9 = some ⟨oc9, od9, .func (PySem.W.fnOf "size" "size" (defArgs s_size) (defBody s_size) (defScope s_size) .none kV9 dc9 pm9 an9 cd9 ct9), sl9⟩) (c9 : PySem.W.codeIn K cd9 "size" = true) (k9 : PySem.W.keepIn K (.ref f9) = true)
    (a10 : PySem.W.nsIn K mainGlobals "unknowns_in" = some (some (.ref f10))) (l10 : K.lookup f10 = some ⟨oc10, od10, .func (PySem.W.fnOf "unknowns_in" "unknowns_in" (defArgs s_unknowns_in) (defBody s_unknowns_in) (defScope s_unknowns_in) .none kV10 dc10 pm10 an10 cd10 ct10), sl10⟩) (c10 : PySem.W.codeIn K cd10 "unknowns_in" = true) (k10 : PySem.W.keepIn K (.ref f10) = true)
    (a11 : PySem.W.nsIn K mainGlobals "replaced" = some (some (.ref f11))) (l11 : K.lookup f11 = some ⟨oc11, od11, .func (PySem.W.fnOf "replaced" "replaced" (defArgs s_replaced) (defBody s_replaced) (defScope s_replaced) .none kV11 dc11 pm11 an11 cd11 ct11), sl11⟩) (c11 : PySem.W.codeIn K cd11 "replaced" = true) (k11 : PySem.W.keepIn K (.ref f11) = true)
    (a12 : PySem.W.nsIn K mainGlobals "_law_pool" = some (some (.ref f12))) (l12 : K.lookup f12 = some ⟨oc12, od12, .func (PySem.W.fnOf "_law_pool" "_law_pool" (defArgs s_law_pool) (defBody s_law_pool) (defScope s_law_pool) .none kV12 dc12 pm12 an12 cd12 ct12), sl12⟩) (c12 : PySem.W.codeIn K cd12 "_law_pool" = true) (k12 : PySem.W.keepIn K (.ref f12) = true)
    (a13 : PySem.W.nsIn K mainGlobals "_law_take" = some (some (.ref f13))) (l13 : K.lookup f13 = some ⟨oc13, od13, .func (PySem.W.fnOf "_law_take" "_law_take" (defArgs s_law_take) (defBody s_law_take) (defScope s_law_take) .none kV13 dc13 pm13 an13 cd13 ct13), sl13⟩) (c13 : PySem.W.codeIn K cd13 "_law_take" = true) (k13 : PySem.W.keepIn K (.ref f13) = true)
    (a14 : PySem.W.nsIn K mainGlobals "_law_whole" = some (some (.ref f14))) (l14 : K.lookup f14 = some ⟨oc14, od14, .func (PySem.W.fnOf "_law_whole" "_law_whole" (defArgs s_law_whole) (defBody s_law_whole) (defScope s_law_whole) .none kV14 dc14 pm14 an14 cd14 ct14), sl14⟩) (c14 : PySem.W.codeIn K cd14 "_law_whole" = true) (k14 : PySem.W.keepIn K (.ref f14) = true)
    (a15 : PySem.W.nsIn K mainGlobals "_law_sum" = some (some (.ref f15))) (l15 : K.lookup f15 = some ⟨oc15, od15, .func (PySem.W.fnOf "_law_sum" "_law_sum" (defArgs s_law_sum) (defBody s_law_sum) (defScope s_law_sum) .none kV15 dc15 pm15 an15 cd15 ct15), sl15⟩) (c15 : PySem.W.codeIn K cd15 "_law_sum" = true) (k15 : PySem.W.keepIn K (.ref f15) = true)
    (a16 : PySem.W.nsIn K mainGlobals "_law_given" = some (some (.ref f16))) (l16 : K.lookup f16 = some ⟨oc16, od16, .func (PySem.W.fnOf "_law_given" "_law_given" (defArgs s_law_given) (defBody s_law_given) (defScope s_law_given) .none kV16 dc16 pm16 an16 cd16 ct16), sl16⟩) (c16 : PySem.W.codeIn K cd16 "_law_given" = true) (k16 : PySem.W.keepIn K (.ref f16) = true)
    (a17 : PySem.W.nsIn K mainGlobals "_law_term" = some (some (.ref f17))) (l17 : K.lookup f17 = some ⟨oc17, od17, .func (PySem.W.fnOf "_law_term" "_law_term" (defArgs s_law_term) (defBody s_law_term) (defScope s_law_term) .none kV17 dc17 pm17 an17 cd17 ct17), sl17⟩) (c17 : PySem.W.codeIn K cd17 "_law_term" = true) (k17 : PySem.W.keepIn K (.ref f17) = true)
    (a18 : PySem.W.nsIn K mainGlobals "_law_due" = some (some (.ref f18))) (l18 : K.lookup f18 = some ⟨oc18, od18, .func (PySem.W.fnOf "_law_due" "_law_due" (defArgs s_law_due) (defBody s_law_due) (defScope s_law_due) .none kV18 dc18 pm18 an18 cd18 ct18), sl18⟩) (c18 : PySem.W.codeIn K cd18 "_law_due" = true) (k18 : PySem.W.keepIn K (.ref f18) = true)
    (a19 : PySem.W.nsIn K mainGlobals "_law_size" = some (some (.ref f19))) (l19 : K.lookup f19 = some ⟨oc19, od19, .func (PySem.W.fnOf "_law_size" "_law_size" (defArgs s_law_size) (defBody s_law_size) (defScope s_law_size) .none kV19 dc19 pm19 an19 cd19 ct19), sl19⟩) (c19 : PySem.W.codeIn K cd19 "_law_size" = true) (k19 : PySem.W.keepIn K (.ref f19) = true)
    (a20 : PySem.W.nsIn K mainGlobals "_law_found" = some (some (.ref f20))) (l20 : K.lookup f20 = some ⟨oc20, od20, .func (PySem.W.fnOf "_law_found" "_law_found" (defArgs s_law_found) (defBody s_law_found) (defScope s_law_found) .none kV20 dc20 pm20 an20 cd20 ct20), sl20⟩) (c20 : PySem.W.codeIn K cd20 "_law_found" = true) (k20 : PySem.W.keepIn K (.ref f20) = true)
    (a21 : PySem.W.nsIn K mainGlobals "_law_ways" = some (some (.ref f21))) (l21 : K.lookup f21 = some ⟨oc21, od21, .func (PySem.W.fnOf "_law_ways" "_law_ways" (defArgs s_law_ways) (defBody s_law_ways) (defScope s_law_ways) .none kV21 dc21 pm21 an21 cd21 ct21), sl21⟩) (c21 : PySem.W.codeIn K cd21 "_law_ways" = true) (k21 : PySem.W.keepIn K (.ref f21) = true)
    (a22 : PySem.W.nsIn K mainGlobals "_law_put" = some (some (.ref f22))) (l22 : K.lookup f22 = some ⟨oc22, od22, .func (PySem.W.fnOf "_law_put" "_law_put" (defArgs s_law_put) (defBody s_law_put) (defScope s_law_put) .none kV22 dc22 pm22 an22 cd22 ct22), sl22⟩) (c22 : PySem.W.codeIn K cd22 "_law_put" = true) (k22 : PySem.W.keepIn K (.ref f22) = true)
    (a23 : PySem.W.nsIn K mainGlobals "_law_once" = some (some (.ref f23))) (l23 : K.lookup f23 = some ⟨oc23, od23, .func (PySem.W.fnOf "_law_once" "_law_once" (defArgs s_law_once) (defBody s_law_once) (defScope s_law_once) .none kV23 dc23 pm23 an23 cd23 ct23), sl23⟩) (c23 : PySem.W.codeIn K cd23 "_law_once" = true) (k23 : PySem.W.keepIn K (.ref f23) = true)
    (a24 : PySem.W.nsIn K mainGlobals "_law_added" = some (some (.ref f24))) (l24 : K.lookup f24 = some ⟨oc24, od24, .func (PySem.W.fnOf "_law_added" "_law_added" (defArgs s_law_added) (defBody s_law_added) (defScope s_law_added) .none kV24 dc24 pm24 an24 cd24 ct24), sl24⟩) (c24 : PySem.W.codeIn K cd24 "_law_added" = true) (k24 : PySem.W.keepIn K (.ref f24) = true)
    (a25 : PySem.W.nsIn K mainGlobals "law" = some (some (.ref f25))) (l25 : K.lookup f25 = some ⟨oc25, od25, .func (PySem.W.fnOf "law" "law" (defArgs s_law) (defBody s_law) (defScope s_law) .none kV25 dc25 pm25 an25 cd25 ct25), sl25⟩) (c25 : PySem.W.codeIn K cd25 "law" = true) (k25 : PySem.W.keepIn K (.ref f25) = true)
    (z_len : PySem.W.nsIn K mainGlobals "len" = some none) (z_int : PySem.W.nsIn K mainGlobals "int" = some none) (z_range : PySem.W.nsIn K mainGlobals "range" = some none) (z_min : PySem.W.nsIn K mainGlobals "min" = some none) (z_str : PySem.W.nsIn K mainGlobals "str" = some none) (z_tuple : PySem.W.nsIn K mainGlobals "tuple" = some none) (z_sorted : PySem.W.nsIn K mainGlobals "sorted" = some none) (z_isinstance : PySem.W.nsIn K mainGlobals "isinstance" = some none) (z_any : PySem.W.nsIn K mainGlobals "any" = some none) (z_all : PySem.W.nsIn K mainGlobals "all" = some none) (z_list : PySem.W.nsIn K mainGlobals "list" = some none) (z_bool : PySem.W.nsIn K mainGlobals "bool" = some none) (z_zip : PySem.W.nsIn K mainGlobals "zip" = some none) (z_reversed : PySem.W.nsIn K mainGlobals "reversed" = some none) (z_dict : PySem.W.nsIn K mainGlobals "dict" = some none) (z_sum : PySem.W.nsIn K mainGlobals "sum" = some none)
    {aF : Addr} {odaF : Option Addr} {naF : Nat} {slaF : Array (Option Value)} {uaF0 uaF1 uaF2 uaF3 : Tok} (gtaF : PySem.W.nsIn K mainGlobals "_FORMS" = some (some (.ref aF))) (ltaF : K.lookup aF = some ⟨.type "tuple", odaF, .seq #[.str "get" uaF0, .str "set" uaF1, .str "plus" uaF2, .str "minus" uaF3] naF, slaF⟩) :
    ∃ fd : FuncData, (∀ (s : Shared) (v : Value), BindsTo s fd ⟨[v], []⟩ [("script", v)]) ∧ ∀ base : Heap, K.In base → base.Ns mainGlobals mg → FnOk l.prog w K mg base CX0 101 fa fd ["script"] (spLaw K) := by
  have e := hfa.symm.trans (PySem.W.mg_of X G a25)
  cases e
  have F1 := fun_mk (st := s_children) l1 c1 k1
  have b1 := F1.binds (ps := ["term"]) fun _ _ _ _ _ _ us hl => match us, hl with | [_], _ => rfl
  have m1 := PySem.W.mg_of X G a1
  have F2 := fun_mk (st := s_with_part) l2 c2 k2
  have b2 := F2.binds (ps := ["term", "way", "part"]) fun _ _ _ _ _ _ us hl => match us, hl with | [_, _, _], _ => rfl
  have m2 := PySem.W.mg_of X G a2
  have F3 := fun_mk (st := s_parts_of) l3 c3 k3
  have b3 := F3.binds (ps := ["term"]) fun _ _ _ _ _ _ us hl => match us, hl with | [_], _ => rfl
  have m3 := PySem.W.mg_of X G a3
  have F4 := fun_mk (st := s_integer) l4 c4 k4
  have b4 := F4.binds (ps := ["n"]) fun _ _ _ _ _ _ us hl => match us, hl with | [_], _ => rfl
  have m4 := PySem.W.mg_of X G a4
  have F5 := fun_mk (st := s_added) l5 c5 k5
  have b5 := F5.binds (ps := ["one", "other", "sign"]) fun _ _ _ _ _ _ us hl => match us, hl with | [_, _, _], _ => rfl
  have m5 := PySem.W.mg_of X G a5
  have F6 := fun_mk (st := s_symbolic) l6 c6 k6
  have b6 := F6.binds (ps := ["term", "unknowns"]) fun _ _ _ _ _ _ us hl => match us, hl with | [_, _], _ => rfl
  have m6 := PySem.W.mg_of X G a6
  have F7 := fun_mk (st := s_symbolic_part) l7 c7 k7
  have b7 := F7.binds (ps := ["part", "inner", "unknowns"]) fun _ _ _ _ _ _ us hl => match us, hl with | [_, _, _], _ => rfl
  have m7 := PySem.W.mg_of X G a7
  have F8 := fun_mk (st := s_inner_terms) l8 c8 k8
  have b8 := F8.binds (ps := ["term"]) fun _ _ _ _ _ _ us hl => match us, hl with | [_], _ => rfl
  have m8 := PySem.W.mg_of X G a8
  have F9 := fun_mk (st := s_size) l9 c9 k9
  have b9 := F9.binds (ps := ["term"]) fun _ _ _ _ _ _ us hl => match us, hl with | [_], _ => rfl
  have m9 := PySem.W.mg_of X G a9
  have F10 := fun_mk (st := s_unknowns_in) l10 c10 k10
  have b10 := F10.binds (ps := ["term"]) fun _ _ _ _ _ _ us hl => match us, hl with | [_], _ => rfl
  have m10 := PySem.W.mg_of X G a10
  have F11 := fun_mk (st := s_replaced) l11 c11 k11
  have b11 := F11.binds (ps := ["term", "way", "part"]) fun _ _ _ _ _ _ us hl => match us, hl with | [_, _, _], _ => rfl
  have m11 := PySem.W.mg_of X G a11
  have F12 := fun_mk (st := s_law_pool) l12 c12 k12
  have b12 := F12.binds (ps := ["script"]) fun _ _ _ _ _ _ us hl => match us, hl with | [_], _ => rfl
  have m12 := PySem.W.mg_of X G a12
  have F13 := fun_mk (st := s_law_take) l13 c13 k13
  have b13 := F13.binds (ps := ["pool", "many"]) fun _ _ _ _ _ _ us hl => match us, hl with | [_, _], _ => rfl
  have m13 := PySem.W.mg_of X G a13
  have F14 := fun_mk (st := s_law_whole) l14 c14 k14
  have b14 := F14.binds (ps := ["pool"]) fun _ _ _ _ _ _ us hl => match us, hl with | [_], _ => rfl
  have m14 := PySem.W.mg_of X G a14
  have F15 := fun_mk (st := s_law_sum) l15 c15 k15
  have b15 := F15.binds (ps := ["pool"]) fun _ _ _ _ _ _ us hl => match us, hl with | [_], _ => rfl
  have m15 := PySem.W.mg_of X G a15
  have F16 := fun_mk (st := s_law_given) l16 c16 k16
  have b16 := F16.binds (ps := ["pool"]) fun _ _ _ _ _ _ us hl => match us, hl with | [_], _ => rfl
  have m16 := PySem.W.mg_of X G a16
  have F17 := fun_mk (st := s_law_term) l17 c17 k17
  have b17 := F17.binds (ps := ["pool", "words", "depth"]) fun _ _ _ _ _ _ us hl => match us, hl with | [_, _, _], _ => rfl
  have m17 := PySem.W.mg_of X G a17
  have F18 := fun_mk (st := s_law_due) l18 c18 k18
  have b18 := F18.binds (ps := ["term", "table"]) fun _ _ _ _ _ _ us hl => match us, hl with | [_, _], _ => rfl
  have m18 := PySem.W.mg_of X G a18
  have F19 := fun_mk (st := s_law_size) l19 c19 k19
  have b19 := F19.binds (ps := ["term"]) fun _ _ _ _ _ _ us hl => match us, hl with | [_], _ => rfl
  have m19 := PySem.W.mg_of X G a19
  have F20 := fun_mk (st := s_law_found) l20 c20 k20
  have b20 := F20.binds (ps := ["term"]) fun _ _ _ _ _ _ us hl => match us, hl with | [_], _ => rfl
  have m20 := PySem.W.mg_of X G a20
  have F21 := fun_mk (st := s_law_ways) l21 c21 k21
  have b21 := F21.binds (ps := ["term"]) fun _ _ _ _ _ _ us hl => match us, hl with | [_], _ => rfl
  have m21 := PySem.W.mg_of X G a21
  have F22 := fun_mk (st := s_law_put) l22 c22 k22
  have b22 := F22.binds (ps := ["term", "way", "part"]) fun _ _ _ _ _ _ us hl => match us, hl with | [_, _, _], _ => rfl
  have m22 := PySem.W.mg_of X G a22
  have F23 := fun_mk (st := s_law_once) l23 c23 k23
  have b23 := F23.binds (ps := ["row"]) fun _ _ _ _ _ _ us hl => match us, hl with | [_], _ => rfl
  have m23 := PySem.W.mg_of X G a23
  have F24 := fun_mk (st := s_law_added) l24 c24 k24
  have b24 := F24.binds (ps := ["one", "other", "sign"]) fun _ _ _ _ _ _ us hl => match us, hl with | [_, _, _], _ => rfl
  have m24 := PySem.W.mg_of X G a24
  have F25 := fun_mk (st := s_law) l25 c25 k25
  have y_len := PySem.W.mg_none_of X G z_len
  have y_int := PySem.W.mg_none_of X G z_int
  have y_range := PySem.W.mg_none_of X G z_range
  have y_min := PySem.W.mg_none_of X G z_min
  have y_str := PySem.W.mg_none_of X G z_str
  have y_tuple := PySem.W.mg_none_of X G z_tuple
  have y_sorted := PySem.W.mg_none_of X G z_sorted
  have y_isinstance := PySem.W.mg_none_of X G z_isinstance
  have y_any := PySem.W.mg_none_of X G z_any
  have y_all := PySem.W.mg_none_of X G z_all
  have y_list := PySem.W.mg_none_of X G z_list
  have y_bool := PySem.W.mg_none_of X G z_bool
  have y_zip := PySem.W.mg_none_of X G z_zip
  have y_reversed := PySem.W.mg_none_of X G z_reversed
  have y_dict := PySem.W.mg_none_of X G z_dict
  have y_sum := PySem.W.mg_none_of X G z_sum
  have ytaF := PySem.W.mg_of X G gtaF
  have yqaF : ∀ H, SqT K H aF [V.str "get", V.str "set", V.str "plus", V.str "minus"] := fun H => .inr ⟨_, _, _, ltaF, rfl, rfl, small (by show 4 ≤ _; decide), .cons ⟨_, rfl⟩ (.cons ⟨_, rfl⟩ (.cons ⟨_, rfl⟩ (.cons ⟨_, rfl⟩ (.nil))))⟩
  refine ⟨PySem.W.fnOf "law" "law" (defArgs s_law) (defBody s_law) (defScope s_law) .none kV25 dc25 pm25 an25 cd25 ct25, fun s v => .of_eq rfl, fun base _ _ => ?_⟩
  have T : Txt K mg := ⟨y_len, y_int, y_range, y_min, y_str, y_tuple, y_sorted, y_isinstance, y_any, y_all, y_list, y_bool⟩
  have TZ : TxtZ K mg aF := ⟨⟨T, ytaF, yqaF⟩, y_zip, y_reversed, y_dict, y_sum⟩
  have take0 : C8.Cal l.prog w K mg base 0 "_law_take" (spTake 0) [] := cal_mk (none_ok (fun vs H Q E h => by obtain ⟨_, _, _, _, _, _, _, _, h, _⟩ := h; omega)) m13 k13 b13
  have take1 : C8.Cal l.prog w K mg base 1 "_law_take" (spTake 1) [] := cal_mk (ok_take F13 T take0) m13 k13 b13
  have take : C8.Cal l.prog w K mg base 2 "_law_take" (spTake 2) [] := cal_mk (ok_take F13 T take1) m13 k13 b13
  have pool : C8.Cal l.prog w K mg base 1 "_law_pool" (spPool K) [] := cal_mk (ok_pool F12) m12 k12 b12
  have kidsV : C8.Cal l.prog w K mg base 1 "children" (spKidsV K) [] := cal_mk (ok_kidsV F1 TZ.toTxtT) m1 k1 b1
  have kids := kids_of kidsV
  have parts : PKL.CalGE l.prog w K mg base 2 "parts_of" (spPg K) := ⟨_, _, _, ok_partsG F3 kids, m3, k3, b3⟩
  have int : C8.Cal l.prog w K mg base 1 "integer" (spInt K) [] := cal_mk (ok_int F4) m4 k4 b4
  have syp : C8.Cal l.prog w K mg base 2 "_symbolic_part" (spSyp K) [] := cal_mk (ok_syp F7 TZ int) m7 k7 b7
  have sym : C8.Cal l.prog w K mg base 6 "symbolic" (spSym K) [] := cal_mk (ok_sym F6 TZ syp kids parts) m6 k6 b6
  have inn : C8.Cal l.prog w K mg base 1 "inner_terms" (spInn K) [] := cal_mk (ok_inn F8 T) m8 k8 b8
  have siz : C8.Cal l.prog w K mg base 2 "size" (spSiz K) [] := cal_mk (ok_siz F9 T inn) m9 k9 b9
  have unk : C8.Cal l.prog w K mg base 2 "unknowns_in" (spUnk K) [] := cal_mk (ok_unk F10 T inn) m10 k10 b10
  have wp : C8.Cal l.prog w K mg base 1 "with_part" (spWp K) [] := cal_mk (ok_wp F2 TZ) m2 k2 b2
  have rp : C8.Cal l.prog w K mg base 2 "replaced" (spWp K) [] := cal_mk (ok_rp F11 wp) m11 k11 b11
  have add : C8.Cal l.prog w K mg base 1 "added" (spAdd K) [] := cal_mk (ok_add F5 TZ) m5 k5 b5
  have ladd : C8.Cal l.prog w K mg base 1 "_law_added" (spAdd K) [] := cal_mk (ok_ladd F24 TZ) m24 k24 b24
  have who : C8.Cal l.prog w K mg base 3 "_law_whole" (spWho) [] := cal_mk (ok_who F14 T take) m14 k14 b14
  have sum : C8.Cal l.prog w K mg base 4 "_law_sum" (spSumD K) [] := cal_mk (ok_sum F15 T take who) m15 k15 b15
  have giv : C8.Cal l.prog w K mg base 5 "_law_given" (spGiv K) [] := cal_mk (ok_giv F16 T take sum) m16 k16 b16
  have terms : ∀ n : Nat, C8.Cal l.prog w K mg base (n + 3) "_law_term" (spTermD K n) [] := fun n => by
    induction n with
    | zero => exact cal_mk (none_ok (fun vs H Q E h => by obtain ⟨_, _, _, _, _, _, _, h, _⟩ := h; omega)) m17 k17 b17
    | succ n ih => exact cal_mk (ok_term F17 T take who ih) m17 k17 b17
  have dues : ∀ n : Nat, C8.Cal l.prog w K mg base (n) "_law_due" (spDueL K n) [] := fun n => by
    induction n with
    | zero => exact cal_mk (none_ok (fun vs H Q E h => by obtain ⟨_, _, t, _, _, _, _, _, _, _, h, _⟩ := h; have := t.ht_pos; omega)) m18 k18 b18
    | succ n ih => exact cal_mk (ok_due F18 T ih) m18 k18 b18
  have lszs : ∀ n : Nat, C8.Cal l.prog w K mg base (n) "_law_size" (spLsz K n) [] := fun n => by
    induction n with
    | zero => exact cal_mk (none_ok (fun vs H Q E h => by obtain ⟨_, t, _, _, _, h, _⟩ := h; have := t.ht_pos; omega)) m19 k19 b19
    | succ n ih => exact cal_mk (ok_lsz F19 TZ ih) m19 k19 b19
  have lfns : ∀ n : Nat, C8.Cal l.prog w K mg base (n) "_law_found" (spLfn K n) [] := fun n => by
    induction n with
    | zero => exact cal_mk (none_ok (fun vs H Q E h => by obtain ⟨_, t, _, _, _, h, _⟩ := h; have := t.ht_pos; omega)) m20 k20 b20
    | succ n ih => exact cal_mk (ok_lfn F20 T ih) m20 k20 b20
  have wayss : ∀ n : Nat, C8.Cal l.prog w K mg base (n) "_law_ways" (spWay K n) [] := fun n => by
    induction n with
    | zero => exact cal_mk (none_ok (fun vs H Q E h => by obtain ⟨_, t, _, _, _, h, _⟩ := h; have := t.ht_pos; omega)) m21 k21 b21
    | succ n ih => exact cal_mk (ok_way F21 T ih) m21 k21 b21
  have puts : ∀ n : Nat, C8.Cal l.prog w K mg base (n) "_law_put" (spLpu K n) [] := fun n => by
    induction n with
    | zero => exact cal_mk (none_ok (fun vs H Q E h => by obtain ⟨_, _, _, _, _, _, _, _, _, _, _, _, h, _⟩ := h; omega)) m22 k22 b22
    | succ n ih => exact cal_mk (ok_lpu F22 T ih) m22 k22 b22
  have once : C8.Cal l.prog w K mg base 1 "_law_once" (spOnc K) [] := cal_mk (ok_onc F23 T) m23 k23 b23
  exact ok_law F25 TZ pool take giv (terms 6) (dues 10) (lszs 20) (lfns 20) (wayss 20) (puts 40) once sum who ladd sym siz unk rp add int
theorem walk {l : PySem.W.OpenLaw} {q : Program} {loose : List Str} {XP : (Str → Option Value) → Heap → Prop} {YP : World → Heap → Prop} {d : DefRec} {K : Params → PySem.W.Frag} (hn : l.most = some 63) (hdf : d.params.defaults = [])
    (hY : ∀ (w : World) (h : Heap), YP w h → (K w.params).In h)
    (F : ∀ (w : World) (mg : Str → Option Value) (fa : Addr) (h : Heap), (K w.params).In h → h.Ns mainGlobals mg → mg d.name = some (.ref fa) →
      ∃ fd : FuncData, (∀ (s : Shared) (u : Value), BindsTo s fd ⟨[u], []⟩ [("script", u)]) ∧ ∀ base : Heap, (K w.params).In base → base.Ns mainGlobals mg → FnOk l.prog w (K w.params) mg base CX0 101 fa fd ["script"] (spLaw (K w.params))) :
    PySem.W.WalkO q loose XP YP l.row.toRowW d [] (fun f vs => PySem.call f vs) :=
  L2.walk_of (n := 63) (k := 101) (x := "script") (CX := fun _ => CX0) (sp := fun w => spLaw (K w.params)) hn (by decide) hdf ⟨rfl, by decide, by decide⟩ hY F (fun _ _ a ns hl _ hS => ⟨a, ns, rfl, hS, hl, fun _ => rfl⟩) fun _ _ _ _ _ z => z
end PK
open PySem PySem.W PyProof.Rows in
set_option maxRecDepth 100000 in
set_option maxHeartbeats 0 in
theorem PySem.Challenge.cw_passproven_k33_symbolic_terms_holds : PySem.Challenge.rw_passproven_k33_symbolic_terms.Holds := by
  w_on; o_law; k_head; (case hw => w_witness2)
  k_fill
  refine PK.walk (l := PySem.Challenge.rw_passproven_k33_symbolic_terms) rfl rfl (fun w h Y => PySem.W.kIn_of Y) ?F
  case F =>
    intro w mg fa h KX G hmg
    refine' PK.all_mk KX G hmg ?a1 ?l1 ?c1 ?k1 ?a2 ?l2 ?c2 ?k2 ?a3 ?l3 ?c3 ?k3 ?a4 ?l4 ?c4 ?k4 ?a5 ?l5 ?c5 ?k5 ?a6 ?l6 ?c6 ?k6 ?a7 ?l7 ?c7 ?k7 ?a8 ?l8 ?c8 ?k8 ?a9 ?l9 ?c9 ?k9 ?a10 ?l10 ?c10 ?k10 ?a11 ?l11 ?c11 ?k11 ?a12 ?l12 ?c12 ?k12 ?a13 ?l13 ?c13 ?k13 ?a14 ?l14 ?c14 ?k14 ?a15 ?l15 ?c15 ?k15 ?a16 ?l16 ?c16 ?k16 ?a17 ?l17 ?c17 ?k17 ?a18 ?l18 ?c18 ?k18 ?a19 ?l19 ?c19 ?k19 ?a20 ?l20 ?c20 ?k20 ?a21 ?l21 ?c21 ?k21 ?a22 ?l22 ?c22 ?k22 ?a23 ?l23 ?c23 ?k23 ?a24 ?l24 ?c24 ?k24 ?a25 ?l25 ?c25 ?k25 ?z_len ?z_int ?z_range ?z_min ?z_str ?z_tuple ?z_sorted ?z_isinstance ?z_any ?z_all ?z_list ?z_bool ?z_zip ?z_reversed ?z_dict ?z_sum ?gtaF ?ltaF
    (case a1 => k_is)
    (case l1 => k_is)
    (case c1 => k_is)
    (case k1 => k_is)
    (case a2 => k_is)
    (case l2 => k_is)
    (case c2 => k_is)
    (case k2 => k_is)
    (case a3 => k_is)
    (case l3 => k_is)
    (case c3 => k_is)
    (case k3 => k_is)
    (case a4 => k_is)
    (case l4 => k_is)
    (case c4 => k_is)
    (case k4 => k_is)
    (case a5 => k_is)
    (case l5 => k_is)
    (case c5 => k_is)
    (case k5 => k_is)
    (case a6 => k_is)
    (case l6 => k_is)
    (case c6 => k_is)
    (case k6 => k_is)
    (case a7 => k_is)
    (case l7 => k_is)
    (case c7 => k_is)
    (case k7 => k_is)
    (case a8 => k_is)
    (case l8 => k_is)
    (case c8 => k_is)
    (case k8 => k_is)
    (case a9 => k_is)
    (case l9 => k_is)
    (case c9 => k_is)
    (case k9 => k_is)
    (case a10 => k_is)
    (case l10 => k_is)
    (case c10 => k_is)
    (case k10 => k_is)
    (case a11 => k_is)
    (case l11 => k_is)
    (case c11 => k_is)
    (case k11 => k_is)
    (case a12 => k_is)
    (case l12 => k_is)
    (case c12 => k_is)
    (case k12 => k_is)
    (case a13 => k_is)
    (case l13 => k_is)
    (case c13 => k_is)
    (case k13 => k_is)
    (case a14 => k_is)
    (case l14 => k_is)
    (case c14 => k_is)
    (case k14 => k_is)
    (case a15 => k_is)
    (case l15 => k_is)
    (case c15 => k_is)
    (case k15 => k_is)
    (case a16 => k_is)
    (case l16 => k_is)
    (case c16 => k_is)
    (case k16 => k_is)
    (case a17 => k_is)
    (case l17 => k_is)
    (case c17 => k_is)
    (case k17 => k_is)
    (case a18 => k_is)
    (case l18 => k_is)
    (case c18 => k_is)
    (case k18 => k_is)
    (case a19 => k_is)
    (case l19 => k_is)
    (case c19 => k_is)
    (case k19 => k_is)
    (case a20 => k_is)
    (case l20 => k_is)
    (case c20 => k_is)
    (case k20 => k_is)
    (case a21 => k_is)
    (case l21 => k_is)
    (case c21 => k_is)
    (case k21 => k_is)
    (case a22 => k_is)
    (case l22 => k_is)
    (case c22 => k_is)
    (case k22 => k_is)
    (case a23 => k_is)
    (case l23 => k_is)
    (case c23 => k_is)
    (case k23 => k_is)
    (case a24 => k_is)
    (case l24 => k_is)
    (case c24 => k_is)
    (case k24 => k_is)
    (case a25 => k_is)
    (case l25 => k_is)
    (case c25 => k_is)
    (case k25 => k_is)
    (case z_len => k_is)
    (case z_int => k_is)
    (case z_range => k_is)
    (case z_min => k_is)
    (case z_str => k_is)
    (case z_tuple => k_is)
    (case z_sorted => k_is)
    (case z_isinstance => k_is)
    (case z_any => k_is)
    (case z_all => k_is)
    (case z_list => k_is)
    (case z_bool => k_is)
    (case z_zip => k_is)
    (case z_reversed => k_is)
    (case z_dict => k_is)
    (case z_sum => k_is)
    (case gtaF => k_is)
    (case ltaF => k_is)
#print axioms PySem.Challenge.cw_passproven_k33_symbolic_terms_holds
