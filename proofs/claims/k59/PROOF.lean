import PyProof.Rows.All
import Wide.All
import OpenK.AllK
import Wide.FinOn
import HandS.ForMost
import HandS.Wide
import HandS.IsInst
import HandS.More
import HandS.Conv
import HandS.Codes
import HandS.ForExc
import HandS.ExcInit
import HandS.ExcField
import HandS.TryMany
import KE.GoesEnum
import KE.KExcIs
import HandS.ExcIs
import HandS.Zip
import PyProof.ListNew
import HandS.Walk
import HandS.Style
import HandS.Flow
import PyProof.AttrMissHeap
import HandS.GenCall
import HandS.GenList
import HandS.GenOver
import HandS.GenYield
import HandS.List
import PyProof.Rows.SortShellAny
import PyProof.EqLayable
import HandS.Deep
import PyProof.ReprRoads
import HandS.Ends
import HandS.Words
import PyProof.NeData
import KE.KxText
import HandS.Star
import HandS.Rev
import HandS.DictComp
import HandS.GenBody
import HandS.FStr
import PyProof.ReprText
import PyProof.ReprBulk
import HandS.Text
import HandS.SetKeys
import PySem.Challenge.RW_passproven_k59_terms_without_sources
set_option Elab.async false
set_option linter.all false
set_option maxRecDepth 100000
namespace PKR
open PySem L2
/-! ### one of two walks, as it comes -/
theorem pi_or {X : Cx} {tg iter : Expr} {w1 w2 : TI} (a : PI X tg iter w1) (b : PI X tg iter w2) : PI X tg iter (fun σ H R => w1 σ H R ∨ w2 σ H R) :=
  ⟨fun pins s σ H R I h => h.elim (a.run pins s σ H R I) (b.run pins s σ H R I)⟩
/-! ### enumerate over a tuple -/
set_option maxHeartbeats 2000000 in
theorem meets_enum_any {v : Value} {o : Obj} {Hh : Heap → Prop} (B : Begins v o Hh) :
    Meets (Builtin.«enumerate.__new__» ⟨[.type "enumerate", v], []⟩) (fun _ R s => Hh s.heap ∧
      R (.ok (.ret (.ref (s.heap.push o).objs.size))) { s with heap := (s.heap.push o).push { cls := .type "enumerate", data := .fields #[.none, .bool false, .ref s.heap.objs.size, rawInt 0, .none, .none] } }) := by
  refine .of_wp fun prog w A R s h => ?_
  obtain ⟨hp, g, d, tk, os⟩ := s
  obtain ⟨hH, hR⟩ := h
  have sub_e := sub_enumerate
  have it_v : ∀ {A' : Around} {E Q : Value → Shared → Prop}, Q (.ref hp.objs.size) ⟨hp.push o, g, d, tk, os⟩ → wpAny (model prog w) A' (pyIter v) Q E ⟨hp, g, d, tk, os⟩ := fun z => B.iter prog w _ _ ⟨hp, g, d, tk, os⟩ _ hH z
  wp_walk using it_v
  refine wpAny_stack_any fun st => wpAny_pure ?_
  split
  · rename_i c _ _ _ _ _
    cases (c == Value.type "enumerate") <;> (wp_walk using it_v; exact ⟨_, rfl, hR⟩)
  · wp_walk using it_v
    exact ⟨_, rfl, hR⟩
theorem call_enum_any {prog : Program} {w : World} {A : Around} {E : Value → Shared → Prop} {s : Shared} {v : Value} {o : Obj} {Hh : Heap → Prop} {Q : Value → Shared → Prop} (B : Begins v o Hh) (hH : Hh s.heap)
    (hq : ∀ h', IsEnum h' (s.heap.objs.size + 1) s.heap.objs.size 0 .none → h'.get? s.heap.objs.size = some o → (∀ b u, s.heap.get? b = some u → h'.get? b = some u) → Q (.ref (s.heap.objs.size + 1)) { s with heap := h' }) :
    wpAny (model prog w) A (call (.type "enumerate") [v]) Q E s := by
  refine callType_new F.called_enumerate (by decide) (F.typeCall_enumerate_1 _) (F.newCall_enumerate_1 _) (fun obj => F.args_object_init_2 obj _) F.entry_enumerate_new (meets_enum_any B) ⟨hH, ?_⟩
  have sz : (s.heap.push o).objs.size = s.heap.objs.size + 1 := Heap.size_push ..
  show _ ∧ _
  rw [sz]
  have en : IsEnum ((s.heap.push o).push { cls := .type "enumerate", data := .fields #[.none, .bool false, .ref s.heap.objs.size, rawInt 0, .none, .none] }) (s.heap.objs.size + 1) s.heap.objs.size 0 .none := by
    have g := Heap.get?_push_size (s.heap.push o) (o := { cls := .type "enumerate", data := .fields #[.none, .bool false, .ref s.heap.objs.size, rawInt 0, .none, .none] }) rfl
    rw [sz] at g
    exact g
  exact ⟨⟨_, en, rfl⟩, hq _ en (Heap.get?_push_of_some _ (Heap.get?_push_size _ B.free)) fun b u z => Heap.get?_push_of_some _ (Heap.get?_push_of_some _ z)⟩
/-- the tuple at a, each item in a new pair with its number -/
def ItE (K : PySem.W.Frag) (a : Addr) : It :=
  ⟨fun i H => ∃ (xs : List V) (x : V), SqT K H a xs ∧ xs[i]? = some x, fun i H v H' => ∃ T x, v = .ref T ∧ H T = none ∧ H' = upd H T (.tup [.int (i : Nat), x]) ∧ ∀ xs, SqT K H a xs → xs[i]? = some x, fun i H => ∃ xs : List V, SqT K H a xs ∧ xs.length = i⟩
theorem pair_mem {b e it : Addr} (h : b ∈ [e, it]) : b = e ∨ b = it := by simpa using h
theorem turn_enumT {P : Program} {w : World} {K : PySem.W.Frag} {es : List Expr} {k : Nat} {pos : Pos} (a e it : Addr) :
    Turn P w K (.Tuple es k pos) (ItE K a) [e, it] e (fun i h => (∃ old, IsEnum h e it ((i : Nat) : Int) old) ∧ h.IsTupleIter it a i ∧ e ≠ it ∧ a ≠ it ∧ e ≠ a) where
  mem := List.mem_cons_self
  obj := fun i h st b hb => by
    obtain ⟨⟨old, he⟩, ⟨o, ho, _, hd⟩, _⟩ := st
    rcases pair_mem hb with rfl | rfl
    · exact ⟨_, he, fun v q => nomatch q⟩
    · exact ⟨o, ho, fun v q => by rw [hd] at q; cases q⟩
  keep := fun i h h' st k => by
    obtain ⟨⟨old, he⟩, hi, ne⟩ := st
    exact ⟨⟨old, k e List.mem_cons_self _ he⟩, hi.at fun o q => k it (List.mem_cons_of_mem _ List.mem_cons_self) o q, ne⟩
  item := by
    intro X eP ew eK calm i pins s σ H E I free st go
    subst eP ew eK
    obtain ⟨⟨old, he⟩, hi, ne, na, nea⟩ := st
    obtain ⟨xs, x, hx, gx⟩ := go
    obtain ⟨its, rv, pT, _⟩ := I.tuple hx
    obtain ⟨u, gu, ru⟩ := rv.get gx
    have hh : X.A.handled = none := I.ok.hd calm
    have D := Draws.tuple (prog := X.prog) (w := X.w) (A := X.A.in1) hh it a na its.toArray
    have lt : i < its.toArray.size := by
      have := (List.getElem?_eq_some_iff.mp gu).1
      simpa using this
    have be := Heap.lt_size he
    have bi : it < s.heap.objs.size := by obtain ⟨_, q, _⟩ := hi; exact Heap.lt_size q
    refine wpAny_pyNext_enum_itemD D he ⟨hi, show s.heap.IsTuple a its.toArray from pT⟩ lt ne (fun m => (pair_mem m).elim ne nea) fun y h1 tk hy out st1 hT _ old1 => ?_
    have ey : y = u := by
      have : its.toArray[i]? = some u := by simpa using gu
      rw [hy] at this
      exact Option.some.inj this
    subst ey
    refine ⟨_, rfl, wpAny_letOwnedTupleGo_enum (s := { s with heap := h1, toks := tk + 1 }) out fun h2 en sb => ?_⟩
    have hT2 := (sb.2 _ (Nat.ne_of_gt be)).trans hT
    have obj : ObjOk X.prog X.w (upd H s.heap.objs.size (.tup [.int (i : Nat), x])) h2 s.heap.objs.size (.tup [.int (i : Nat), x]) :=
      ⟨by show 2 ≤ sizeLine; decide, [.int i tk, y], .cons ⟨_, rfl⟩ (.cons ru .nil), ⟨_, hT2, rfl, _, rfl⟩⟩
    have J : Inv X pins σ (upd H s.heap.objs.size (.tup [.int (i : Nat), x])) { s with heap := h2, toks := tk + 1 } :=
      I.turnedNew (ch := [e, it]) (fun b ob nb q => by
        have n1 : b ≠ e := fun z => nb (by rw [z]; exact List.mem_cons_self)
        have n2 : b ≠ it := fun z => nb (by rw [z]; exact List.mem_cons_of_mem _ List.mem_cons_self)
        exact (sb.2 b n1).trans (old1 b ob n1 n2 q)) free (Nat.le_refl _) obj
    refine ⟨.ref s.heap.objs.size, _, J, rfl, ⟨_, x, rfl, I.hok.fresh (Nat.le_refl _), rfl, fun ys hy' => by rw [I.tuple_inj hy' hx]; exact gx⟩, ⟨⟨y, ?_⟩, st1.1.at fun o q => (sb.2 it ne.symm).trans q, ne, na, nea⟩, fun b hb => ?_⟩
    · rw [show ((i + 1 : Nat) : Int) = (i : Int) + 1 by omega]
      exact en
    · have lb : b < s.heap.objs.size := by
        rcases pair_mem hb with rfl | rfl
        · exact be
        · exact bi
      rw [upd_ne (Nat.ne_of_lt lb)]
      exact (free b hb).1
  done := by
    intro X eP ew eK calm i pins s σ H E I free st stop
    subst eP ew eK
    obtain ⟨⟨old, he⟩, hi, ne, na, nea⟩ := st
    obtain ⟨xs, hx, lx⟩ := stop
    obtain ⟨its, rv, pT, _⟩ := I.tuple hx
    have hh : X.A.handled = none := I.ok.hd calm
    have D := Draws.tuple (prog := X.prog) (w := X.w) (A := X.A.in1) hh it a na its.toArray
    have ei : its.toArray.size = i := by rw [List.size_toArray, ← rv.length, lx]
    obtain ⟨f0, f1, f2, f3, f4, f5⟩ := free it (List.mem_cons_of_mem _ List.mem_cons_self)
    exact wpAny_pyNext_enum_endD D he ⟨by rw [ei]; exact hi, show s.heap.IsTuple a its.toArray from pT⟩ fun h2 old1 => ⟨rfl, I.turned (t' := s.toks) (fun b o nb q => old1 b o nb q) f0 f1 f3 f4 f5⟩
  self := fun A i s Q E st h => by
    obtain ⟨⟨_, he⟩, _⟩ := st
    exact wpAny_pyIter_enum he h
def iEnumT (K : PySem.W.Frag) (ta : TA) : TI := fun σ H R => ta σ H fun vs H1 => ∃ a xs, vs = [.ref a] ∧ SqT K H1 a xs ∧ R (ItE K a) H1
theorem pi_enumT {X : Cx} {e : Expr} {ta : TA} {p pos tpos : Pos} {es : List Expr} {k : Nat} (hg : Gl X "enumerate") (hm : X.mg "enumerate" = none) (ha : PA X [e] ta) (hs : starEach [e] X.env = [(false, eval e X.env)] := by rfl) :
    PI X (.Tuple es k tpos) (.Call (.Name "enumerate" p) [e] [] pos) (iEnumT X.K ta) := by
  refine ⟨fun pins s σ H R I h => PyProof.Rows.Call_ (ld_blt I hg hm PyProof.Rows.boot_enumerate (PyProof.Rows.callWith_type1 (thn (ha.run pos pins s σ H _ I h) fun us s1 hz => ?_) hs rfl))⟩
  obtain ⟨vs, H1, I1, rs, a, xs, rfl, hx, q⟩ := hz
  cases rs with
  | cons r rest =>
    cases rest
    cases r
    obtain ⟨its, rv, pT, _⟩ := I1.tuple hx
    have la : a < s1.heap.objs.size := pT.lt
    refine call_enum_any (begins_tuple a its.toArray) (show s1.heap.IsTuple a its.toArray from pT) fun h2 en gi old => wpAny_pyIter_enum en ?_
    have J : Inv X pins σ H1 { s1 with heap := h2 } := I1.kept (t' := s1.toks) old
    have na : a ≠ s1.heap.objs.size := Nat.ne_of_lt la
    have nea : s1.heap.objs.size + 1 ≠ a := Nat.ne_of_gt (Nat.lt_succ_of_lt la)
    refine ⟨_, [s1.heap.objs.size + 1, s1.heap.objs.size], _, _, H1, rfl, J, turn_enumT a (s1.heap.objs.size + 1) s1.heap.objs.size, ⟨⟨.none, en⟩, ⟨_, gi, rfl, rfl⟩, Nat.succ_ne_self _, na, nea⟩, fun b hb => ?_, q⟩
    have lb : s1.heap.objs.size ≤ b := by
      rcases pair_mem hb with rfl | rfl
      · exact Nat.le_succ _
      · exact Nat.le_refl _
    exact I1.fpOk lb (I1.hok.fresh lb)
/-! ### an empty tuple and another one -/
def rCat0 (K : PySem.W.Frag) : R2 := fun x y H Q => ∃ a b ys, x = .ref a ∧ y = .ref b ∧ SqT K H a [] ∧ SqT K H b ys ∧ Q (.ref b) H
theorem op_cat0 {X : Cx} : OpR X (binaryOp .Add) (rCat0 X.K) := by
  intro pins s σ H x y v u Q I rx ry h
  obtain ⟨a, b, ys, rfl, rfl, ha, hb, q⟩ := h
  cases rx
  cases ry
  obtain ⟨i1, r1, p1, _⟩ := I.tuple ha
  obtain ⟨i2, r2, p2, _⟩ := I.tuple hb
  cases r1
  obtain ⟨⟨c1, d1, t1, l1⟩, g1, e1, n1, f1⟩ := id p1
  obtain ⟨⟨c2, d2, t2, l2⟩, g2, e2, n2, f2⟩ := id p2
  simp only at e1 f1 e2 f2
  subst e1 f1 e2 f2
  exact PySem.concat_meets ⟨_, g1, rfl⟩ ⟨_, g2, rfl⟩ PySem.noFill_tuple_add PySem.seq_tuple_add PySem.F.slot_tuple_add PySem.F.entry_tuple_add (PySem.F.args_tuple_add_2 _ _)
    (PyProof.Rows.tuple_addW0 a b #[] i2.toArray n1 n2 d1 d2 l1 l2 rfl) ⟨g1, g2, ⟨.ref b, H, I, rfl, q⟩⟩
/-- t + u -/
def rCatA (K : PySem.W.Frag) : R2 := fun x y H Q => rCatT K x y H Q ∨ rCat0 K x y H Q
theorem op_catA {X : Cx} : OpR X (binaryOp .Add) (rCatA X.K) := op_catT.or op_cat0
end PKR
/-! a try with several clauses 'except X as n', every one with its own suite -/
namespace L2.PKR
open PySem PySem.Spec PyProof.Rows
abbrev Suite := Addr → Value → Option Addr → TS
/-- the ends of a suite whose name is given back -/
def offEnds (i : Nat) (D : Ends) : Ends := ⟨fun p q => D.nx (p.set i none) q, D.rt, fun p q => D.bk (p.set i none) q, fun p q => D.ct (p.set i none) q⟩
/-- the wish of the clauses, in their order -/
def wRow (K : PySem.W.Frag) (Wout : WX) (D : Ends) : List (Value × Nat × Suite) → WX
  | [] => Wout
  | (c, i, ts) :: rest => fun cls d σ H =>
    ∃ yes, PySem.W.exmOne K cls c = some yes ∧ (yes = true → ∀ a, H a = none → ts a cls d (offEnds i D) (σ.set i (some (.ref a))) H) ∧ (yes = false → wRow K Wout D rest cls d σ H)
/-- the exception at a, caught and on the ground -/
structure Down (X : Cx) (pins : List (Addr × Obj)) (B : Heap) (a : Addr) (before : Shared) (σ : St) (H : Hp) (cls : Value) (d : Option Addr) (s : Shared) : Prop where
  inv : Inv X pins σ H before
  base : ∀ b o, before.heap.get? b = some o → b ∉ frs X.stack → B.get? b = some o
  slots : before.heap.UpToSlots s.heap
  fly : HandSPX.FlyingZ B (X.env :: X.outer) a (Zc cls d) s.heap
  out : H a = none
  os : s.os = before.os
  bare : AllBare s.gens
section
variable {X : Cx} {pins : List (Addr × Obj)} {B : Heap} {a : Addr} {before s : Shared} {σ : St} {H : Hp} {cls : Value} {d : Option Addr} {D : Ends} {Wout : WX}
theorem Down.here (z : Down X pins B a before σ H cls d s) : Inv X pins σ H s := z.inv.landed z.base z.fly.1 z.slots z.os z.bare
/-- its object, and that it is none of the frames' -/
theorem Down.obj (hf : X.env.frame = some X.env.locals) (z : Down X pins B a before σ H cls d s) : ∃ oe vs, s.heap.get? a = some oe ∧ Zc cls d oe ∧ oe.data = .fields vs ∧ a ≠ X.env.locals ∧ a ∉ X.fs := by
  obtain ⟨oe, vs, he, hz, hd⟩ := z.fly.there
  have nfr : a ∉ frs (X.env :: X.outer) := fun hm => by
    obtain ⟨_, o2, e2, no⟩ := z.fly.2.2.1.mem hm
    rw [he] at e2
    cases e2
    exact no _ hd
  refine ⟨oe, vs, he, hz, hd, fun q => nfr (List.mem_filterMap.mpr ⟨X.env, .head _, by rw [hf, q]⟩), fun q => ?_⟩
  obtain ⟨en, m, r⟩ := List.mem_filterMap.mp q
  exact nfr (List.mem_filterMap.mpr ⟨en, .tail _ m, r⟩)
theorem Down.more (z : Down X pins B a before σ H cls d s) {h : Heap} (fl : HandSPX.FlyingZ B (X.env :: X.outer) a (Zc cls d) h) (up : s.heap.UpToSlots h) : Down X pins B a before σ H cls d { s with heap := h } :=
  ⟨z.inv, z.base, z.slots.trans up, fl, z.out, z.os, z.bare⟩
/-- no clause is left -/
theorem row_nil (hs : X.stack = X.env :: X.outer) (hf : X.env.frame = some X.env.locals) (tk : Takes X Wout) (z : Down X pins B a before σ H cls d s) (w : Wout cls d σ H) :
    wpAny (model X.prog X.w) X.A (handleBy (.ref a) X.env []) (SP X pins D) X.xe s := by
  refine wpAny_handleBy_nil ?_
  obtain ⟨_, _, _, oe, vs, T, _, _, he, _, hd, h1, _⟩ := id z.fly
  unfold PySem.passOn
  refine wpAny_bind (wpAny_field he hd h1 ?_)
  rw [if_neg (show ¬ ((Value.ref T == Value.none) = true) by simp)]
  have last : wpAny (model X.prog X.w) X.A (setFlight (.ref a) X.env.frame) (fun _ s2 => wpAny (model X.prog X.w) X.A (throw (.ref a) : Sem Flow) (SP X pins D) X.xe s2) X.xe s := by
    rw [hf]
    refine HandSPX.setFlight_upZ z.fly fun h2 held up => wpAny_throw (tk _ _ ?_)
    exact ⟨a, B, before, pins, σ, H, cls, d, rfl, z.inv, z.base, z.slots.trans up, .inr (.inr (by rw [hs]; exact held)), z.out, z.os, z.bare, w⟩
  first
    | exact wpAny_bind (wpAny_pure (wpAny_bind last))
    | exact wpAny_bind last
/-- one clause -/
theorem row_cons {x n : Str} {c : Value} {i : Nat} {b₀ : Stmt} {more : List Stmt} {np pos : Pos} {ts : Suite} {hds : List ExceptHandler} {yes : Bool} (hf : X.env.frame = some X.env.locals) (hN : X.N.Nodup) (hi : X.N[i]? = some n)
    (hl : X.env.kindOf n = some .local) (hc : Names X x c)
    (body : ∀ (a : Addr) (oe : Obj) (cls : Value) (d : Option Addr) (pn : List (Addr × Obj)), Zc cls d oe → (∃ vs, oe.data = .fields vs) → PSs (X.suite a ((a, oe) :: pn)) (b₀ :: more) (ts a cls d))
    (z : Down X pins B a before σ H cls d s) (hy : PySem.W.exmOne X.K cls c = some yes) (t : yes = true → ts a cls d (offEnds i D) (σ.set i (some (.ref a))) H)
    (f : yes = false → wpAny (model X.prog X.w) X.A (handleBy (.ref a) X.env hds) (SP X pins D) X.xe s) :
    wpAny (model X.prog X.w) X.A (handleBy (.ref a) X.env (.ExceptHandler (some (.Name x np)) (some n) (b₀ :: more) pos :: hds)) (SP X pins D) X.xe s := by
  have ok := z.inv.ok
  obtain ⟨oe, vs, he, hz, hd, nL, nF⟩ := z.obj hf
  have S := z.here.suite he hd z.out nL nF
  refine wpAny_handleBy_cons (codeAny_handlers_test ?_) (fun q => nomatch q)
  have ty : PySem.W.Looks (model X.prog X.w) s.heap (typeOf (.ref a)) cls := fun _ _ _ _ k q => wpAny_typeOf_ref (k _ _ he) (by rw [hz.1]; exact q)
  have isIt := PySem.W.exm_one (M := model X.prog X.w) z.here.kIn ty hy
  have named : ∀ {Q E : Value → Shared → Prop}, Q c s → wpAny (model X.prog X.w) (X.A.mark (some (.ref a))) (eval (.Name x np) X.env) Q E s := fun {Q E} q => by
    obtain ⟨hg, nd, hm | ⟨hm, hv, hn⟩⟩ := hc
    · exact ld_glob (X := X.suite a ((a, oe) :: (X.pn ++ pins))) S hg hm q nd
    · exact ld_blt (X := X.suite a ((a, oe) :: (X.pn ++ pins))) S hg hm hv q hn nd
  refine named (isIt.here ?_)
  cases yes with
  | false => exact f rfl
  | true =>
    refine codeAny_handlers_suite_as (HandSPX.lands_againZ z.fly fun h2 fl up => ?_)
    have z2 := z.more fl up
    obtain ⟨oe2, vs2, he2, hz2, hd2, nL2, nF2⟩ := z2.obj hf
    refine store_ok (X := X.suite a ((a, oe2) :: (X.pn ++ pins))) (v := .ref a) (z2.here.suite he2 hd2 z.out nL2 nF2) hN hi (.inl hl) rfl (fun s3 S3 => ?_) (.inr hl)
    have run := (body a oe2 cls d (X.pn ++ pins) hz2 ⟨_, hd2⟩).run [] s3 (σ.set i (some (.ref a))) H (offEnds i D) S3 (t rfl)
    have gone : ∀ {p : St} {q : Hp} {s4 : Shared} {Q : Shared → Prop}, Inv (X.suite a ((a, oe2) :: (X.pn ++ pins))) [] p q s4 → (∀ s5, Inv X pins (p.set i none) q s5 → Q s5) →
        wpAny (model X.prog X.w) X.A (do bindName X.env n .none; unbindBehindTheSuite X.env n pos) (fun _ s5 => Q s5) X.xe s4 := fun S4 k => gone_ok (S4.unsuite ok) hN hi hl k
    refine wpAny_mono run (fun fl4 s4 done => ?_) (fun _ _ no => False.elim no)
    rcases fl4 with _ | _ | _ | u
    · obtain ⟨p, q, S4, k⟩ := done
      exact gone S4 fun s5 J => ⟨_, _, J, k⟩
    · obtain ⟨p, q, S4, k⟩ := done
      exact gone S4 fun s5 J => ⟨_, _, J, k⟩
    · obtain ⟨p, q, S4, k⟩ := done
      exact gone S4 fun s5 J => ⟨_, _, J, k⟩
    · obtain ⟨v, p, q, S4, r, k⟩ := done
      exact gone S4 fun s5 J => ⟨_, _, _, J, r, k⟩
end
/-- the clauses and their wishes -/
inductive Row (X : Cx) : List ExceptHandler → List (Value × Nat × Suite) → Prop
  | nil : Row X [] []
  | cons {x n : Str} {c : Value} {i : Nat} {b₀ : Stmt} {more : List Stmt} {np pos : Pos} {ts : Suite} {hds : List ExceptHandler} {l : List (Value × Nat × Suite)} (hi : X.N[i]? = some n) (hl : X.env.kindOf n = some .local) (hc : Names X x c)
      (body : ∀ (a : Addr) (oe : Obj) (cls : Value) (d : Option Addr) (pn : List (Addr × Obj)), Zc cls d oe → (∃ vs, oe.data = .fields vs) → PSs (X.suite a ((a, oe) :: pn)) (b₀ :: more) (ts a cls d)) (r : Row X hds l) :
      Row X (.ExceptHandler (some (.Name x np)) (some n) (b₀ :: more) pos :: hds) ((c, i, ts) :: l)
theorem row_runs {X : Cx} {pins : List (Addr × Obj)} {B : Heap} {a : Addr} {before s : Shared} {σ : St} {H : Hp} {cls : Value} {d : Option Addr} {D : Ends} {Wout : WX} (hs : X.stack = X.env :: X.outer) (hf : X.env.frame = some X.env.locals) (hN : X.N.Nodup) (tk : Takes X Wout)
    {hds : List ExceptHandler} {l : List (Value × Nat × Suite)} (hh : Row X hds l) (z : Down X pins B a before σ H cls d s) (w : wRow X.K Wout D l cls d σ H) : wpAny (model X.prog X.w) X.A (handleBy (.ref a) X.env hds) (SP X pins D) X.xe s := by
  induction hh with
  | nil => exact row_nil hs hf tk z w
  | cons hi hl hc body r ih =>
    obtain ⟨yes, hy, t, f⟩ := w
    exact row_cons hf hN hi hl hc body z hy (fun e => t e a z.out) fun e => ih (f e)
theorem ps_try_row {X : Cx} {body : List Stmt} {h₀ : ExceptHandler} {hds : List ExceptHandler} {l : List (Value × Nat × Suite)} {pos : Pos} {tb : WX → TS} {Wout : WX} (hs : X.stack = X.env :: X.outer) (hf : X.env.frame = some X.env.locals) (hN : X.N.Nodup) (tk : Takes X Wout)
    (hb : ∀ (W : WX) (pn : List (Addr × Obj)) (xe : Value → Shared → Prop), Takes (X.tr pn xe) W → PassesOwn (model X.prog X.w) X.A X.env xe → PSs (X.tr pn xe) body (tb W))
    (hh : Row X (h₀ :: hds) l) : PS X (.Try body (h₀ :: hds) [] [] pos) (fun D σ H => tb (wRow X.K Wout D l) D σ H) := by
  refine ⟨fun pins s σ H D I h => wpAny_Try_except ?_⟩
  have ok := I.ok
  have fr : X.A.frames = some (X.env :: X.outer) := by rw [ok.frames, hs]
  have inner := hb (wRow X.K Wout D l) (X.pn ++ pins)
    (fun e s1 => wpAny (model X.prog X.w) X.A (noteFrame e X.env) (fun _ s2 => wpAny (model X.prog X.w) X.A (setFlight e none) (fun _ s3 => wpAny (model X.prog X.w) X.A (handleBy e X.env (h₀ :: hds)) (SP X pins D) X.xe s3) X.xe s2) X.xe s1)
    (fun u s1 air => by
      obtain ⟨a, B, before, pins1, p, q, cls, d, rfl, J, base, up, sky, out, os, bare, w⟩ := air
      have J1 : Inv X pins p q before := J.ofTry ok
      refine Sky.land Zc.steady fr hf (show Sky B (X.env :: X.outer) a (Zc cls d) X.env.locals s1.heap by rw [← hs]; exact sky) fun h2 fl up2 => ?_
      exact row_runs hs hf hN tk hh (s := { s1 with heap := h2 }) ⟨J1, base, up.trans up2, fl, out, os, bare⟩ w)
    PassesOwn.looking
  refine wpAny_mono (inner.run [] s σ H D (I.toTry _) h) (fun f s1 done => ?_) (fun _ _ k => k)
  rcases f with _ | _ | _ | u
  · obtain ⟨p, q, J, k⟩ := done
    exact wpAny_execs_nil ⟨p, q, J.ofTry ok, k⟩
  · obtain ⟨p, q, J, k⟩ := done
    exact ⟨p, q, J.ofTry ok, k⟩
  · obtain ⟨p, q, J, k⟩ := done
    exact ⟨p, q, J.ofTry ok, k⟩
  · obtain ⟨v, p, q, J, r, k⟩ := done
    exact ⟨v, p, q, J.ofTry ok, r, k⟩
end L2.PKR
/-! isinstance(e, C), e a caught error of an own class with fields -/
namespace L2.PKR
open PySem PySem.Spec PyProof.Rows
def rIsX (K : PySem.W.Frag) (a : Addr) (cls : Value) (d : Option Addr) : List V → Hp → VK → Prop := fun xs H Q =>
  ∃ (c : V) (cv : Value) (yes : Bool) (D dd : Addr) (fs : List (Str × V)), xs = [.ref a, c] ∧ (∀ u, RelV c u → u = cv) ∧ cls = .ref D ∧ d = some dd ∧ H dd = some (.xd fs) ∧ ExcC K D ∧ PySem.W.kitOne K (.ref D) cv = some yes ∧ Q (.bl yes) H
theorem call_isX {X : Cx} {a : Addr} {oe : Obj} {cls : Value} {d : Option Addr} {pn : List (Addr × Obj)} (hz : Zc cls d oe) (hf : ∃ vs, oe.data = .fields vs) : CallR (X.suite a ((a, oe) :: pn)) (.builtin "isinstance") (rIsX X.K a cls d) := by
  intro pins s σ H xs us Q I r h
  obtain ⟨c, cv, yes, D, dd, fs, rfl, hcv, rfl, rfl, hx, C, hk, q⟩ := h
  rcases r with _ | ⟨rx, rr⟩
  rcases rr with _ | ⟨rc, rr⟩
  cases rr
  cases rx
  cases hcv _ rc
  have at_a := (I.pin (a, oe) (List.mem_append_left _ (.head _))).1
  obtain ⟨vs, hd⟩ := hf
  obtain ⟨mA, hns, _⟩ := (show ObjOk X.prog X.w H s.heap dd (.xd fs) from I.hok dd _ hx)
  obtain ⟨od, ho, _⟩ := lookIn_ns hns
  have J : PySem.W.InstAt s.heap a oe D (some od) := ⟨at_a, hz.1, by unfold PySem.W.notCls; rw [hd] <;> rfl, by rw [hz.2]; exact ho⟩
  obtain ⟨cd, hcd, _⟩ := PySem.W.any_some C.hd
  exact PySem.W.kia_one (PySem.W.kitx_exc (by rw [hcd]; rfl) C.hg C.hk C.hs C.ha C.hn C.ht C.hm) I.kIn J hk (fun e => nomatch e) fun tk => ⟨.bl yes, H, I.kept (t' := tk) fun _ _ k => k, rfl, q⟩
end L2.PKR
namespace PKZ
open PySem PySem.Spec PyProof.Rows L2
/-! zip of a list or a tuple with a list or a tuple, collected -/
inductive Kd where | l | t
def Kd.It : Kd → Heap → Addr → Addr → Nat → Prop
  | .l, h, i, a, k => h.IsListIter i a k
  | .t, h, i, a, k => h.IsTupleIter i a k
def Kd.Sq : Kd → Heap → Addr → Array Value → Prop
  | .l, h, a, xs => h.IsList a xs
  | .t, h, a, xs => h.IsTuple a xs
section
variable {prog : Program} {w : World} {A : Around} {E : Value → Shared → Prop} {s : Shared}
theorem Kd.it_at {kd : Kd} {h h' : Heap} {i a : Addr} {k : Nat} (q : kd.It h i a k) (e : ∀ o, h.get? i = some o → h'.get? i = some o) : kd.It h' i a k := by
  cases kd with
  | l => exact Heap.IsListIter.at q e
  | t => exact Heap.IsTupleIter.at q e
theorem Kd.sq_at {kd : Kd} {h h' : Heap} {a : Addr} {xs : Array Value} (q : kd.Sq h a xs) (e : ∀ o, h.get? a = some o → h'.get? a = some o) : kd.Sq h' a xs := by
  cases kd with
  | l => exact Heap.IsList.at q e
  | t => exact Heap.IsTuple.at q e
theorem nx_item {kd : Kd} {i a : Addr} {k : Nat} {xs : Array Value} {x : Value} {Q : Value → Shared → Prop} (q : kd.It s.heap i a k) (q2 : kd.Sq s.heap a xs) (hx : xs[k]? = some x)
    (hQ : ∀ h', kd.It h' i a (k + 1) → Heap.SameBut i s.heap h' → Q x { s with heap := h' }) : wpAny (model prog w) A (Builtin.SmallTypes.nextOf (.ref i)) Q E s := by
  cases kd with
  | l => exact wpAny_nextOf_list_item q q2 hx hQ
  | t => exact RZ.nextOf_tuple_item q q2 hx hQ
theorem nx_end {kd : Kd} {i a : Addr} {k : Nat} {xs : Array Value} {Q : Value → Shared → Prop} (hh : A.handled = none) (q : kd.It s.heap i a k) (q2 : kd.Sq s.heap a xs) (hx : xs[k]? = none)
    (hE : ∀ h' e, Heap.ExtBut i s.heap h' → (∃ o, h'.get? e = some o ∧ o.cls = .type "StopIteration") → E (.ref e) { s with heap := h' }) : wpAny (model prog w) A (Builtin.SmallTypes.nextOf (.ref i)) Q E s := by
  cases kd with
  | l => exact wpAny_nextOf_list_end hh q q2 hx hE
  | t => exact RZ.nextOf_tuple_end hh q q2 hx hE
theorem Kd.it_get {kd : Kd} {h : Heap} {i a : Addr} {k : Nat} (q : kd.It h i a k) : ∃ o, h.get? i = some o ∧ ∀ v, o.data ≠ .cell v := by
  cases kd with
  | l => obtain ⟨o, e, _, d⟩ := q; exact ⟨o, e, fun v z => by rw [d] at z; cases z⟩
  | t => obtain ⟨o, e, _, d⟩ := q; exact ⟨o, e, fun v z => by rw [d] at z; cases z⟩
/-- a zip object; b: its own pair is held elsewhere -/
abbrev Zo (h : Heap) (z TI TO : Addr) (f0 : Value) (b : Bool) : Prop :=
  h.get? z = some { cls := .type "zip", dict := none, data := .fields #[f0, .bool b, .bool false, .ref TI, .ref TO], slots := #[] }
theorem w_alive {M : Model} {a : Addr} {Q : Option Obj → Shared → Prop} (h : Q (s.heap.get? a) s) : wpAny M A (loadIfAlive a) Q E s := fun _ _ _ => h
/-- its own pair is held -/
theorem not_free {z TI TO T0 : Addr} {bb : Bool} {o0 : Obj} {Q : Bool → Shared → Prop} (hz : Zo s.heap z TI TO (rawInt T0) bb) (h0 : s.heap.get? T0 = some o0)
    (hQ : ∀ h', Zo h' z TI TO (rawInt T0) true → Heap.SameBut z s.heap h' → Q false { s with heap := h' }) : wpAny (model prog w) A (Builtin.SmallTypes.ownedTupleIsFree (.ref z)) Q E s := by
  unfold Builtin.SmallTypes.ownedTupleIsFree
  refine wpAny_bind (wpAny_field hz rfl (x := rawInt T0) rfl ?_)
  show wpAny _ _ (loadIfAlive (T0 : Int).toNat >>= _) _ _ _
  refine wpAny_bind (w_alive ?_)
  rw [Int.toNat_natCast, h0]
  show wpAny _ _ (field (.ref z) 1 >>= _) _ _ _
  refine wpAny_bind (wpAny_field hz rfl (x := .bool bb) rfl ?_)
  cases bb with
  | true => exact wpAny_pure (hQ _ hz ⟨rfl, fun _ _ => rfl⟩)
  | false =>
    show wpAny _ _ (setField (.ref z) 1 (.bool true) >>= _) _ _ _
    exact wpAny_bind (wpAny_setField_rec hz (by simp) fun h1 e1 e2 => wpAny_pure (hQ h1 e1 e2))
/-- its next pair, its own one being held -/
theorem held_item {ka kb : Kd} {z TI TO i1 i2 l1 l2 T0 : Addr} {n m : Nat} {bb : Bool} {xs ys : Array Value} {x y : Value} {o0 : Obj} {Q : Value → Shared → Prop} (D : ZipApart z TI TO i1 i2 l1 l2)
    (hz : Zo s.heap z TI TO (rawInt T0) bb) (h0 : s.heap.get? T0 = some o0) (hTI : IsPair s.heap TI (.ref i1) (.ref i2))
    (h1 : ka.It s.heap i1 l1 n) (h2 : kb.It s.heap i2 l2 m) (q1 : ka.Sq s.heap l1 xs) (q2 : kb.Sq s.heap l2 ys) (hx : xs[n]? = some x) (hy : ys[m]? = some y)
    (hQ : ∀ h', Zo h' z TI TO (rawInt T0) true → ka.It h' i1 l1 (n + 1) → kb.It h' i2 l2 (m + 1) → IsPair h' s.heap.objs.size x y → h'.objs.size = s.heap.objs.size + 1 →
      (∀ c o, c ≠ z → c ≠ i1 → c ≠ i2 → s.heap.get? c = some o → h'.get? c = some o) → Q (.ref s.heap.objs.size) { s with heap := h' }) :
    wpAny (model prog w) A (Builtin.«zip.__next__» ⟨[.ref z], []⟩) (fun fin s' => ∃ v, fin = .done (.ret v) ∧ Q v s') E s := by
  show wpAny _ _ (field (.ref z) 2 >>= _) _ _ _
  refine wpAny_bind (wpAny_field hz rfl (x := .bool false) rfl ?_)
  show wpAny _ _ (field (.ref z) 3 >>= _) _ _ _
  refine wpAny_bind (wpAny_field hz rfl (x := .ref TI) rfl (wpAny_bind (wpAny_seqItems hTI rfl ?_)))
  show wpAny _ _ (Builtin.SmallTypes.ownedTupleIsFree (.ref z) >>= _) _ _ _
  refine wpAny_bind (not_free hz h0 fun g1 z1 e1 => ?_)
  rw [if_neg Bool.false_ne_true]
  dsimp only
  refine wpAny_bind ?_
  rw [← Array.forIn_toList]
  simp only [List.forIn_cons, List.forIn_nil]
  refine wpAny_bind (wpAny_bind (wpAny_holding ?_))
  have a1 : ka.It g1 i1 l1 n := Kd.it_at h1 fun o q => e1.extBut _ _ D.i1z q
  have b1 : ka.Sq g1 l1 xs := Kd.sq_at q1 fun o q => e1.extBut _ _ D.l1z q
  show wpAny _ _ (Builtin.SmallTypes.nextOf (.ref i1) >>= _) _ _ _
  refine wpAny_bind (nx_item a1 b1 hx fun g2 a2 e2 => wpAny_pure (wpAny_pure ?_))
  dsimp only
  refine wpAny_bind (wpAny_bind (wpAny_holding ?_))
  have a3 : kb.It g2 i2 l2 m := Kd.it_at h2 fun o q => e2.extBut _ _ D.i12.symm (e1.extBut _ _ D.i2z q)
  have b3 : kb.Sq g2 l2 ys := Kd.sq_at q2 fun o q => e2.extBut _ _ D.l2i1 (e1.extBut _ _ D.l2z q)
  show wpAny _ _ (Builtin.SmallTypes.nextOf (.ref i2) >>= _) _ _ _
  refine wpAny_bind (nx_item a3 b3 hy fun g3 a4 e3 => wpAny_pure (wpAny_pure (wpAny_pure ?_)))
  have sz : g3.objs.size = s.heap.objs.size := e3.1.trans (e2.1.trans e1.1)
  have kp : ∀ c o, c ≠ z → c ≠ i1 → c ≠ i2 → s.heap.get? c = some o → g3.get? c = some o := fun c o c1 c2 c3 q => e3.extBut _ _ c3 (e2.extBut _ _ c2 (e1.extBut _ _ c1 q))
  have z3 : Zo g3 z TI TO (rawInt T0) true := e3.extBut _ _ D.i2z.symm (e2.extBut _ _ D.i1z.symm z1)
  show wpAny _ _ (newTuple [x, y] >>= _) _ _ _
  refine wpAny_bind (wpAny_newTuple (wpAny_pure ⟨_, rfl, ?_⟩))
  dsimp only
  rw [sz]
  refine hQ _ (Heap.get?_push_of_some _ z3) (Kd.it_at a2 fun o q => Heap.get?_push_of_some _ (e3.extBut _ _ D.i12 q)) (Kd.it_at a4 fun o q => Heap.get?_push_of_some _ q) ?_ (by rw [Heap.size_push, sz]) fun c o c1 c2 c3 q => Heap.get?_push_of_some _ (kp c o c1 c2 c3 q)
  rw [← sz]
  exact Heap.get?_push_size _ rfl
/-- one of the two is at its end, the own pair being held -/
theorem held_end {ka kb : Kd} {z TI TO i1 i2 l1 l2 T0 : Addr} {n m : Nat} {bb : Bool} {xs ys : Array Value} {o0 : Obj} {Q : PySem.Fin → Shared → Prop} (hh : A.handled = none) (D : ZipApart z TI TO i1 i2 l1 l2)
    (hz : Zo s.heap z TI TO (rawInt T0) bb) (h0 : s.heap.get? T0 = some o0) (hTI : IsPair s.heap TI (.ref i1) (.ref i2))
    (h1 : ka.It s.heap i1 l1 n) (h2 : kb.It s.heap i2 l2 m) (q1 : ka.Sq s.heap l1 xs) (q2 : kb.Sq s.heap l2 ys) (hend : xs[n]? = none ∨ ys[m]? = none)
    (hE : ∀ h' e, (∀ c o, c ≠ z → c ≠ i1 → c ≠ i2 → s.heap.get? c = some o → h'.get? c = some o) → (∃ o, h'.get? e = some o ∧ o.cls = .type "StopIteration") → E (.ref e) { s with heap := h' }) :
    wpAny (model prog w) A (Builtin.«zip.__next__» ⟨[.ref z], []⟩) Q E s := by
  show wpAny _ _ (field (.ref z) 2 >>= _) _ _ _
  refine wpAny_bind (wpAny_field hz rfl (x := .bool false) rfl ?_)
  show wpAny _ _ (field (.ref z) 3 >>= _) _ _ _
  refine wpAny_bind (wpAny_field hz rfl (x := .ref TI) rfl (wpAny_bind (wpAny_seqItems hTI rfl ?_)))
  show wpAny _ _ (Builtin.SmallTypes.ownedTupleIsFree (.ref z) >>= _) _ _ _
  refine wpAny_bind (not_free hz h0 fun g1 z1 e1 => ?_)
  rw [if_neg Bool.false_ne_true]
  dsimp only
  refine wpAny_bind ?_
  rw [← Array.forIn_toList]
  simp only [List.forIn_cons, List.forIn_nil]
  refine wpAny_bind (wpAny_bind (wpAny_holding ?_))
  have a1 : ka.It g1 i1 l1 n := Kd.it_at h1 fun o q => e1.extBut _ _ D.i1z q
  have b1 : ka.Sq g1 l1 xs := Kd.sq_at q1 fun o q => e1.extBut _ _ D.l1z q
  show wpAny _ _ (Builtin.SmallTypes.nextOf (.ref i1) >>= _) _ _ _
  cases hx : xs[n]? with
  | none => exact wpAny_bind (nx_end hh a1 b1 hx fun g2 e e2 he => hE g2 e (fun c o c1 c2 c3 q => e2 _ _ c2 (e1.extBut _ _ c1 q)) he)
  | some x =>
    have hy : ys[m]? = none := hend.resolve_left fun q => by rw [hx] at q; cases q
    refine wpAny_bind (nx_item a1 b1 hx fun g2 a2 e2 => wpAny_pure (wpAny_pure ?_))
    dsimp only
    refine wpAny_bind (wpAny_bind (wpAny_holding ?_))
    have a3 : kb.It g2 i2 l2 m := Kd.it_at h2 fun o q => e2.extBut _ _ D.i12.symm (e1.extBut _ _ D.i2z q)
    have b3 : kb.Sq g2 l2 ys := Kd.sq_at q2 fun o q => e2.extBut _ _ D.l2i1 (e1.extBut _ _ D.l2z q)
    show wpAny _ _ (Builtin.SmallTypes.nextOf (.ref i2) >>= _) _ _ _
    exact wpAny_bind (nx_end hh a3 b3 hy fun g3 e e3 he => hE g3 e (fun c o c1 c2 c3 q => e3 _ _ c3 (e2.extBut _ _ c2 (e1.extBut _ _ c1 q))) he)
/-- its own pair is free -/
theorem is_free {z TI TO : Addr} {Q : Bool → Shared → Prop} (hz : Zo s.heap z TI TO .none false) (hQ : Q true s) : wpAny (model prog w) A (Builtin.SmallTypes.ownedTupleIsFree (.ref z)) Q E s := by
  unfold Builtin.SmallTypes.ownedTupleIsFree
  exact wpAny_bind (wpAny_field hz rfl (x := .none) rfl (wpAny_pure hQ))
/-- its next pair, its own one being free -/
theorem free_item {ka kb : Kd} {z TI TO i1 i2 l1 l2 : Addr} {n m : Nat} {xs ys : Array Value} {x y p0 p1 : Value} {Q : Value → Shared → Prop} (D : ZipApart z TI TO i1 i2 l1 l2)
    (hz : Zo s.heap z TI TO .none false) (hTI : IsPair s.heap TI (.ref i1) (.ref i2)) (hTO : IsPair s.heap TO p0 p1)
    (h1 : ka.It s.heap i1 l1 n) (h2 : kb.It s.heap i2 l2 m) (q1 : ka.Sq s.heap l1 xs) (q2 : kb.Sq s.heap l2 ys) (hx : xs[n]? = some x) (hy : ys[m]? = some y)
    (hQ : ∀ h', Zo h' z TI TO (rawInt s.heap.objs.size) false → IsPair h' TO x y → ka.It h' i1 l1 (n + 1) → kb.It h' i2 l2 (m + 1) → IsPair h' s.heap.objs.size x y → h'.objs.size = s.heap.objs.size + 1 →
      (∀ c o, c ≠ z → c ≠ TO → c ≠ i1 → c ≠ i2 → s.heap.get? c = some o → h'.get? c = some o) → Q (.ref s.heap.objs.size) { s with heap := h' }) :
    wpAny (model prog w) A (Builtin.«zip.__next__» ⟨[.ref z], []⟩) (fun fin s' => ∃ v, fin = .done (.ret v) ∧ Q v s') E s := by
  show wpAny _ _ (field (.ref z) 2 >>= _) _ _ _
  refine wpAny_bind (wpAny_field hz rfl (x := .bool false) rfl ?_)
  show wpAny _ _ (field (.ref z) 3 >>= _) _ _ _
  refine wpAny_bind (wpAny_field hz rfl (x := .ref TI) rfl (wpAny_bind (wpAny_seqItems hTI rfl ?_)))
  show wpAny _ _ (Builtin.SmallTypes.ownedTupleIsFree (.ref z) >>= _) _ _ _
  refine wpAny_bind (is_free hz ?_)
  rw [if_pos rfl]
  refine wpAny_bind (wpAny_rule (wpAny_bind (wpAny_field hz rfl (x := .ref TO) rfl (wpAny_bind (wpAny_setField_rec hz (by simp) fun g1 z1 e1 => ?_)))))
  have z1 : Zo g1 z TI TO .ellipsis false := z1
  refine wpAny_bind ?_
  simp only [List.zipIdx_cons, List.zipIdx_nil, List.forIn_cons, List.forIn_nil]
  refine wpAny_bind (wpAny_bind (wpAny_onRaise ?_))
  have a1 : ka.It g1 i1 l1 n := Kd.it_at h1 fun o q => e1.extBut _ _ D.i1z q
  have b1 : ka.Sq g1 l1 xs := Kd.sq_at q1 fun o q => e1.extBut _ _ D.l1z q
  show wpAny _ _ (Builtin.SmallTypes.nextOf (.ref i1) >>= _) _ _ _
  refine wpAny_bind (nx_item a1 b1 hx fun g2 a2 e2 => wpAny_pure ?_)
  have t2 : IsPair g2 TO p0 p1 := e2.extBut _ _ D.TOi1 (e1.extBut _ _ D.TOz hTO)
  refine wpAny_bind (wpAny_seqItems t2 rfl (wpAny_bind (wpAny_updateSeq_pair t2 fun g3 t3 e3 => wpAny_bind (wpAny_letGo (wpAny_pure ?_)))))
  have t3 : IsPair g3 TO x p1 := t3
  refine wpAny_bind (wpAny_bind (wpAny_onRaise ?_))
  have a3 : kb.It g3 i2 l2 m := Kd.it_at h2 fun o q => e3.extBut _ _ D.TOi2.symm (e2.extBut _ _ D.i12.symm (e1.extBut _ _ D.i2z q))
  have b3 : kb.Sq g3 l2 ys := Kd.sq_at q2 fun o q => e3.extBut _ _ D.l2TO (e2.extBut _ _ D.l2i1 (e1.extBut _ _ D.l2z q))
  show wpAny _ _ (Builtin.SmallTypes.nextOf (.ref i2) >>= _) _ _ _
  refine wpAny_bind (nx_item a3 b3 hy fun g4 a4 e4 => wpAny_pure ?_)
  have t4 : IsPair g4 TO x p1 := e4.extBut _ _ D.TOi2 t3
  refine wpAny_bind (wpAny_seqItems t4 rfl (wpAny_bind (wpAny_updateSeq_pair t4 fun g5 t5 e5 => wpAny_bind (wpAny_letGo (wpAny_pure (wpAny_pure ?_))))))
  have t5 : IsPair g5 TO x y := t5
  refine wpAny_bind (wpAny_seqItems t5 rfl (wpAny_bind (wpAny_newTuple ?_)))
  have sz : g5.objs.size = s.heap.objs.size := e5.1.trans (e4.1.trans (e3.1.trans (e2.1.trans e1.1)))
  have z5 : Zo g5 z TI TO .ellipsis false := e5.extBut _ _ D.TOz.symm (e4.extBut _ _ D.i2z.symm (e3.extBut _ _ D.TOz.symm (e2.extBut _ _ D.i1z.symm z1)))
  have kp : ∀ c o, c ≠ z → c ≠ TO → c ≠ i1 → c ≠ i2 → s.heap.get? c = some o → g5.get? c = some o := fun c o c1 c2 c3 c4 q =>
    e5.extBut _ _ c2 (e4.extBut _ _ c4 (e3.extBut _ _ c2 (e2.extBut _ _ c3 (e1.extBut _ _ c1 q))))
  have k1 : ka.It g5 i1 l1 (n + 1) := Kd.it_at a2 fun o q => e5.extBut _ _ D.TOi1.symm (e4.extBut _ _ D.i12 (e3.extBut _ _ D.TOi1.symm q))
  have k2 : kb.It g5 i2 l2 (m + 1) := Kd.it_at a4 fun o q => e5.extBut _ _ D.TOi2.symm q
  have zl : z < g5.objs.size := Heap.lt_size z5
  show wpAny _ _ (Builtin.SmallTypes.ownedTupleHandOut (.ref z) (.ref g5.objs.size) >>= _) _ _ _
  refine wpAny_bind ?_
  unfold Builtin.SmallTypes.ownedTupleHandOut
  have z6 : Zo (g5.push { cls := .type "tuple", data := .seq #[x, y] }) z TI TO .ellipsis false := Heap.get?_push_of_some _ z5
  refine wpAny_bind (wpAny_setField_rec z6 (by simp) fun g7 z7 e7 => wpAny_setField_rec (show Zo g7 z TI TO (rawInt g5.objs.size) false from z7) (by simp) fun g8 z8 e8 => wpAny_pure ⟨_, rfl, ?_⟩)
  have up : ∀ c o, c ≠ z → g5.get? c = some o → g8.get? c = some o := fun c o c1 q => e8.extBut _ _ c1 (e7.extBut _ _ c1 (Heap.get?_push_of_some _ q))
  have t8 : IsPair g8 g5.objs.size x y := e8.extBut _ _ (Nat.ne_of_gt zl) (e7.extBut _ _ (Nat.ne_of_gt zl) (Heap.get?_push_size _ rfl))
  have s8 : g8.objs.size = g5.objs.size + 1 := by rw [e8.1, e7.1, Heap.size_push]
  have z8 : Zo g8 z TI TO (rawInt g5.objs.size) false := z8
  show Q (.ref g5.objs.size) _
  rw [sz] at z8 t8 s8 ⊢
  exact hQ g8 z8 (up _ _ D.TOz t5) (Kd.it_at k1 fun o q => up _ o D.i1z q) (Kd.it_at k2 fun o q => up _ o D.i2z q) t8 s8 fun c o c1 c2 c3 c4 q => up c o c1 (kp c o c1 c2 c3 c4 q)
theorem free_end {ka kb : Kd} {z TI TO i1 i2 l1 l2 : Addr} {n m : Nat} {xs ys : Array Value} {p0 p1 : Value} {Q : PySem.Fin → Shared → Prop} (hh : A.handled = none) (D : ZipApart z TI TO i1 i2 l1 l2)
    (hz : Zo s.heap z TI TO .none false) (hTI : IsPair s.heap TI (.ref i1) (.ref i2)) (hTO : IsPair s.heap TO p0 p1)
    (h1 : ka.It s.heap i1 l1 n) (h2 : kb.It s.heap i2 l2 m) (q1 : ka.Sq s.heap l1 xs) (q2 : kb.Sq s.heap l2 ys) (hend : xs[n]? = none ∨ ys[m]? = none)
    (hE : ∀ h' e, (∀ c o, c ≠ z → c ≠ TO → c ≠ i1 → c ≠ i2 → s.heap.get? c = some o → h'.get? c = some o) → (∃ o, h'.get? e = some o ∧ o.cls = .type "StopIteration") → E (.ref e) { s with heap := h' }) :
    wpAny (model prog w) A (Builtin.«zip.__next__» ⟨[.ref z], []⟩) Q E s := by
  show wpAny _ _ (field (.ref z) 2 >>= _) _ _ _
  refine wpAny_bind (wpAny_field hz rfl (x := .bool false) rfl ?_)
  show wpAny _ _ (field (.ref z) 3 >>= _) _ _ _
  refine wpAny_bind (wpAny_field hz rfl (x := .ref TI) rfl (wpAny_bind (wpAny_seqItems hTI rfl ?_)))
  show wpAny _ _ (Builtin.SmallTypes.ownedTupleIsFree (.ref z) >>= _) _ _ _
  refine wpAny_bind (is_free hz ?_)
  rw [if_pos rfl]
  refine wpAny_bind (wpAny_rule (wpAny_bind (wpAny_field hz rfl (x := .ref TO) rfl (wpAny_bind (wpAny_setField_rec hz (by simp) fun g1 z1 e1 => ?_)))))
  have z1 : Zo g1 z TI TO .ellipsis false := z1
  refine wpAny_bind ?_
  simp only [List.zipIdx_cons, List.zipIdx_nil, List.forIn_cons, List.forIn_nil]
  refine wpAny_bind (wpAny_bind (wpAny_onRaise ?_))
  have a1 : ka.It g1 i1 l1 n := Kd.it_at h1 fun o q => e1.extBut _ _ D.i1z q
  have b1 : ka.Sq g1 l1 xs := Kd.sq_at q1 fun o q => e1.extBut _ _ D.l1z q
  show wpAny _ _ (Builtin.SmallTypes.nextOf (.ref i1) >>= _) _ _ _
  cases hx : xs[n]? with
  | none =>
    refine wpAny_bind (nx_end hh a1 b1 hx fun g2 e e2 ⟨oe, he, hc⟩ => ?_)
    have z2 : Zo g2 z TI TO .ellipsis false := e2 _ _ D.i1z.symm z1
    have ne : e ≠ z := fun q => by rw [q, z2] at he; cases he; simp at hc
    exact wpAny_setField_rec z2 (by simp) fun g3 _ e3 => hE g3 e (fun c o c1 _ c3 _ q => e3.extBut _ _ c1 (e2 _ _ c3 (e1.extBut _ _ c1 q))) ⟨oe, e3.extBut _ _ ne he, hc⟩
  | some x =>
    have hy : ys[m]? = none := hend.resolve_left fun q => by rw [hx] at q; cases q
    refine wpAny_bind (nx_item a1 b1 hx fun g2 a2 e2 => wpAny_pure ?_)
    have t2 : IsPair g2 TO p0 p1 := e2.extBut _ _ D.TOi1 (e1.extBut _ _ D.TOz hTO)
    refine wpAny_bind (wpAny_seqItems t2 rfl (wpAny_bind (wpAny_updateSeq_pair t2 fun g3 t3 e3 => wpAny_bind (wpAny_letGo (wpAny_pure ?_)))))
    refine wpAny_bind (wpAny_bind (wpAny_onRaise ?_))
    have a3 : kb.It g3 i2 l2 m := Kd.it_at h2 fun o q => e3.extBut _ _ D.TOi2.symm (e2.extBut _ _ D.i12.symm (e1.extBut _ _ D.i2z q))
    have b3 : kb.Sq g3 l2 ys := Kd.sq_at q2 fun o q => e3.extBut _ _ D.l2TO (e2.extBut _ _ D.l2i1 (e1.extBut _ _ D.l2z q))
    show wpAny _ _ (Builtin.SmallTypes.nextOf (.ref i2) >>= _) _ _ _
    refine wpAny_bind (nx_end hh a3 b3 hy fun g4 e e4 ⟨oe, he, hc⟩ => ?_)
    have z4 : Zo g4 z TI TO .ellipsis false := e4 _ _ D.i2z.symm (e3.extBut _ _ D.TOz.symm (e2.extBut _ _ D.i1z.symm z1))
    have ne : e ≠ z := fun q => by rw [q, z4] at he; cases he; simp at hc
    exact wpAny_setField_rec z4 (by simp) fun g5 _ e5 => hE g5 e (fun c o c1 c2 c3 c4 q => e5.extBut _ _ c1 (e4 _ _ c4 (e3.extBut _ _ c2 (e2.extBut _ _ c3 (e1.extBut _ _ c1 q))))) ⟨oe, e5.extBut _ _ ne he, hc⟩
end
end PKZ
namespace PKZ
open PySem PySem.Spec PyProof.Rows L2
/-- the pairs that were drawn, at their places -/
structure Prs (xs ys : Array Value) (lo : Addr) (h : Heap) (as : List Addr) : Prop where
  rise : as.Pairwise (· < ·)
  above : ∀ a ∈ as, lo ≤ a
  there : ∀ a ∈ as, a < h.objs.size
  at_ : ∀ (j : Nat) (a : Addr), as[j]? = some a → ∃ x y, xs[j]? = some x ∧ ys[j]? = some y ∧ IsPair h a x y
/-- a zip of two, i pairs drawn -/
structure ZSt (ka kb : Kd) (z TI TO i1 i2 l1 l2 : Addr) (xs ys : Array Value) (i : Nat) (h : Heap) : Prop where
  ti : IsPair h TI (.ref i1) (.ref i2)
  to : ∃ a b, IsPair h TO a b
  it1 : ka.It h i1 l1 i
  it2 : kb.It h i2 l2 i
  sq1 : ka.Sq h l1 xs
  sq2 : kb.Sq h l2 ys
  zo : Zo h z TI TO .none false ∨ ∃ (T0 : Addr) (o0 : Obj) (bb : Bool), Zo h z TI TO (rawInt T0) bb ∧ h.get? T0 = some o0 ∧ T0 ≠ z ∧ T0 ≠ TO ∧ T0 ≠ i1 ∧ T0 ≠ i2
section
variable {prog : Program} {w : World} {A : Around} {E : Value → Shared → Prop} {s : Shared} {ka kb : Kd} {z TI TO i1 i2 l1 l2 : Addr} {xs ys : Array Value} {i : Nat}
theorem ZSt.zip {h : Heap} (Z : ZSt ka kb z TI TO i1 i2 l1 l2 xs ys i h) : ∃ o, h.get? z = some o ∧ o.cls = .type "zip" := by
  rcases Z.zo with q | ⟨T0, o0, bb, q, _⟩
  · exact ⟨_, q, rfl⟩
  · exact ⟨_, q, rfl⟩
theorem ZSt.type {h : Heap} (Z : ZSt ka kb z TI TO i1 i2 l1 l2 xs ys i h) {s : Shared} (e : s.heap = h) : s.TypeIs (.ref z) "zip" := by
  obtain ⟨o, q, c⟩ := Z.zip
  exact ⟨o, by rw [e]; exact q, c⟩
theorem ZSt.keep {h h' : Heap} (Z : ZSt ka kb z TI TO i1 i2 l1 l2 xs ys i h) {S : Addr} (hS : S ≠ z ∧ S ≠ TI ∧ S ≠ TO ∧ S ≠ i1 ∧ S ≠ i2 ∧ S ≠ l1 ∧ S ≠ l2) (k : ∀ b o, b ≠ S → h.get? b = some o → h'.get? b = some o) (kS : ∀ o, h.get? S = some o → ∃ o', h'.get? S = some o') :
    ZSt ka kb z TI TO i1 i2 l1 l2 xs ys i h' := by
  obtain ⟨a, b, c, d, e, f, g⟩ := hS
  refine ⟨k _ _ b.symm Z.ti, ?_, Kd.it_at Z.it1 fun o q => k _ _ d.symm q, Kd.it_at Z.it2 fun o q => k _ _ e.symm q, Kd.sq_at Z.sq1 fun o q => k _ _ f.symm q, Kd.sq_at Z.sq2 fun o q => k _ _ g.symm q, ?_⟩
  · obtain ⟨u, v, q⟩ := Z.to
    exact ⟨u, v, k _ _ c.symm q⟩
  · rcases Z.zo with q | ⟨T0, o0, bb, q, q0, n1⟩
    · exact .inl (k _ _ a.symm q)
    · by_cases e0 : T0 = S
      · subst e0
        obtain ⟨o', q'⟩ := kS _ q0
        exact .inr ⟨T0, o', bb, k _ _ a.symm q, q', n1⟩
      · exact .inr ⟨T0, o0, bb, k _ _ a.symm q, k _ _ e0 q0, n1⟩
/-- a pair is drawn -/
theorem zst_item {x y : Value} {Q : Option Value → Shared → Prop} (D : ZipApart z TI TO i1 i2 l1 l2) (Z : ZSt ka kb z TI TO i1 i2 l1 l2 xs ys i s.heap) (hx : xs[i]? = some x) (hy : ys[i]? = some y)
    (hQ : ∀ h', ZSt ka kb z TI TO i1 i2 l1 l2 xs ys (i + 1) h' → IsPair h' s.heap.objs.size x y → h'.objs.size = s.heap.objs.size + 1 →
      (∀ c o, c ≠ z → c ≠ TO → c ≠ i1 → c ≠ i2 → s.heap.get? c = some o → h'.get? c = some o) → Q (some (.ref s.heap.objs.size)) { s with heap := h' }) :
    wpAny (model prog w) A (pyNext (.ref z)) Q E s := by
  have hT := Z.type (s := s) rfl
  obtain ⟨u, v, hTO⟩ := Z.to
  have zl : z < s.heap.objs.size := by obtain ⟨o, q, _⟩ := Z.zip; exact Heap.lt_size q
  have TOl : TO < s.heap.objs.size := Heap.lt_size hTO
  have i1l : i1 < s.heap.objs.size := by obtain ⟨o, q, _⟩ := Kd.it_get Z.it1; exact Heap.lt_size q
  have i2l : i2 < s.heap.objs.size := by obtain ⟨o, q, _⟩ := Kd.it_get Z.it2; exact Heap.lt_size q
  unfold pyNext
  refine wpAny_bind (wpAny_attempt (wpAny_callSpecial?_slot (name := Str.ofString "__next__") hT F.slot_zip_next (wpAny_call_entry F.slot_zip_next hT F.entry_zip_next ?_ (F.args_zip_next_1 _))))
  rcases Z.zo with q | ⟨T0, o0, bb, q, q0, n1, n2, n3, n4⟩
  · exact free_item D q Z.ti hTO Z.it1 Z.it2 Z.sq1 Z.sq2 hx hy fun h' c1 c2 c3 c4 c5 c6 c7 => wpAny_pure (hQ h' ⟨c7 _ _ D.TIz D.TITO D.TIi1 D.TIi2 Z.ti, ⟨_, _, c2⟩, c3, c4, Kd.sq_at Z.sq1 fun o p => c7 _ _ D.l1z D.l1TO D.l1i1 D.l1i2 p, Kd.sq_at Z.sq2 fun o p => c7 _ _ D.l2z D.l2TO D.l2i1 D.l2i2 p,
      .inr ⟨_, _, _, c1, c5, Nat.ne_of_gt zl, Nat.ne_of_gt TOl, Nat.ne_of_gt i1l, Nat.ne_of_gt i2l⟩⟩ c5 c6 c7)
  · exact held_item D q q0 Z.ti Z.it1 Z.it2 Z.sq1 Z.sq2 hx hy fun h' c1 c3 c4 c5 c6 c7 => wpAny_pure (hQ h' ⟨c7 _ _ D.TIz D.TIi1 D.TIi2 Z.ti, ⟨_, _, c7 _ _ D.TOz D.TOi1 D.TOi2 hTO⟩, c3, c4, Kd.sq_at Z.sq1 fun o p => c7 _ _ D.l1z D.l1i1 D.l1i2 p, Kd.sq_at Z.sq2 fun o p => c7 _ _ D.l2z D.l2i1 D.l2i2 p,
      .inr ⟨T0, o0, true, c1, c7 _ _ n1 n3 n4 q0, n1, n2, n3, n4⟩⟩ c5 c6 fun c o d1 _ d3 d4 p => c7 c o d1 d3 d4 p)
/-- one of the two is at its end -/
theorem zst_done {Q : Option Value → Shared → Prop} (hh : A.handled = none) (D : ZipApart z TI TO i1 i2 l1 l2) (Z : ZSt ka kb z TI TO i1 i2 l1 l2 xs ys i s.heap) (hend : xs[i]? = none ∨ ys[i]? = none)
    (hQ : ∀ h', (∀ c o, c ≠ z → c ≠ TO → c ≠ i1 → c ≠ i2 → s.heap.get? c = some o → h'.get? c = some o) → Q none { s with heap := h' }) : wpAny (model prog w) A (pyNext (.ref z)) Q E s := by
  have hT := Z.type (s := s) rfl
  obtain ⟨u, v, hTO⟩ := Z.to
  have stop : ∀ h' e, (∀ c o, c ≠ z → c ≠ TO → c ≠ i1 → c ≠ i2 → s.heap.get? c = some o → h'.get? c = some o) → (∃ o, h'.get? e = some o ∧ o.cls = .type "StopIteration") →
      wpAny (model prog w) A (do if (← isInstance (.ref e) (.type "StopIteration")) = true then pure none else throw (.ref e)) Q E { s with heap := h' } := fun h' e k ⟨o, ho, hc⟩ =>
    wpAny_bind (wpAny_isInstance (T := "StopIteration") (b := true) ⟨o, ho, hc⟩ isSubtype_stop (wpAny_pure (hQ _ k)))
  unfold pyNext
  refine wpAny_bind (wpAny_attempt (wpAny_callSpecial?_slot (name := Str.ofString "__next__") hT F.slot_zip_next (wpAny_call_entry F.slot_zip_next hT F.entry_zip_next ?_ (F.args_zip_next_1 _))))
  rcases Z.zo with q | ⟨T0, o0, bb, q, q0, n1, n2, n3, n4⟩
  · exact free_end hh D q Z.ti hTO Z.it1 Z.it2 Z.sq1 Z.sq2 hend stop
  · exact held_end hh D q q0 Z.ti Z.it1 Z.it2 Z.sq1 Z.sq2 hend fun h' e k => stop h' e fun c o d1 _ d3 d4 p => k c o d1 d3 d4 p
theorem zl_loop {S lo : Addr} (hh : A.handled = none) (D : ZipApart z TI TO i1 i2 l1 l2) (hS : S ≠ z ∧ S ≠ TI ∧ S ≠ TO ∧ S ≠ i1 ∧ S ≠ i2 ∧ S ≠ l1 ∧ S ≠ l2) (lowz : z < lo) (lowTO : TO < lo) (low1 : i1 < lo) (low2 : i2 < lo) (lowS : S < lo)
    (hn : min xs.size ys.size ≤ sizeLine) (res : Value) {h₁ : Heap} {R : Result → Shared → Prop}
    (hR : ∀ (h' : Heap) (acc : Array Value) (c : Nat) (as : List Addr), (∀ b o, b ≠ S → b ≠ z → b ≠ TO → b ≠ i1 → b ≠ i2 → h₁.get? b = some o → h'.get? b = some o) → h'.get? S = some { cls := .type "list", dict := none, data := .seq acc c, slots := #[] } → as.length = min xs.size ys.size → Prs xs ys lo h' as →
      acc.toList = as.map Value.ref → R (.ok (.ret res)) { s with heap := h' }) :
    ∀ (k i : Nat) (h : Heap) (c : Nat) (acc : Array Value) (as : List Addr), min xs.size ys.size - i = k → i ≤ min xs.size ys.size → ZSt ka kb z TI TO i1 i2 l1 l2 xs ys i h → (∀ b o, b ≠ S → b ≠ z → b ≠ TO → b ≠ i1 → b ≠ i2 → h₁.get? b = some o → h.get? b = some o) →
      h.get? S = some { cls := .type "list", dict := none, data := .seq acc c, slots := #[] } → acc.toList = as.map Value.ref → as.length = i → Prs xs ys lo h as → lo ≤ h.objs.size →
      codeAny (model prog w) A (.builtin "list.extend.loop" ⟨[.ref S, .ref z, res], []⟩) R { s with heap := h } := by
  intro k
  induction k with
  | zero =>
    intro i h c acc as hk hi Z kp hSo ha hl G hlo
    have hin : i = min xs.size ys.size := by omega
    refine codeAny_builtin F.entry_extend_loop ?_
    (rw [Around.under_plainId F.plain_extend_loop])
    show wpAny _ A.in1 (pyNext (.ref z) >>= _) _ _ _
    have hend : xs[i]? = none ∨ ys[i]? = none := by
      rcases Nat.le_total xs.size ys.size with q | q
      · exact .inl (Array.getElem?_eq_none (by omega))
      · exact .inr (Array.getElem?_eq_none (by omega))
    refine wpAny_bind (zst_done (s := { s with heap := h }) (A := A.in1) hh D Z hend fun h' e => wpAny_pure (hR h' acc c as (fun b o b1 b2 b3 b4 b5 q => e b o b2 b3 b4 b5 (kp b o b1 b2 b3 b4 b5 q)) (e S _ hS.1 hS.2.2.1 hS.2.2.2.1 hS.2.2.2.2.1 hSo) (by omega) ⟨G.rise, G.above, fun a q => ?_, fun j a q => ?_⟩ ha))
    · obtain ⟨j, hj, rfl⟩ := List.getElem_of_mem q
      obtain ⟨x, y, _, _, p⟩ := G.at_ j _ (List.getElem?_eq_getElem hj)
      have lo_a := G.above _ (List.getElem_mem hj)
      exact Heap.lt_size (e _ _ (Nat.ne_of_gt (Nat.lt_of_lt_of_le lowz lo_a)) (Nat.ne_of_gt (Nat.lt_of_lt_of_le lowTO lo_a)) (Nat.ne_of_gt (Nat.lt_of_lt_of_le low1 lo_a)) (Nat.ne_of_gt (Nat.lt_of_lt_of_le low2 lo_a)) p)
    · obtain ⟨x, y, e1, e2, p⟩ := G.at_ j a q
      have lo_a := G.above _ (List.mem_of_getElem? q)
      exact ⟨x, y, e1, e2, e _ _ (Nat.ne_of_gt (Nat.lt_of_lt_of_le lowz lo_a)) (Nat.ne_of_gt (Nat.lt_of_lt_of_le lowTO lo_a)) (Nat.ne_of_gt (Nat.lt_of_lt_of_le low1 lo_a)) (Nat.ne_of_gt (Nat.lt_of_lt_of_le low2 lo_a)) p⟩
  | succ k ih =>
    intro i h c acc as hk hi Z kp hSo ha hl G hlo
    have ix : i < xs.size := by omega
    have iy : i < ys.size := by omega
    have hsz : acc.size = i := by rw [← Array.length_toList, ha, List.length_map, hl]
    refine codeAny_builtin F.entry_extend_loop ?_
    (rw [Around.under_plainId F.plain_extend_loop])
    show wpAny _ A.in1 (pyNext (.ref z) >>= _) _ _ _
    refine wpAny_bind (zst_item (s := { s with heap := h }) (A := A.in1) D Z (Array.getElem?_eq_getElem ix) (Array.getElem?_eq_getElem iy) fun h' Z' p sz e => ?_)
    dsimp only at p sz e ⊢
    have hS' := e S _ hS.1 hS.2.2.1 hS.2.2.2.1 hS.2.2.2.2.1 hSo
    have up : ∀ b o, b ≠ S → h'.get? b = some o → (h'.update S (Obj.mapSeq (·.push (Value.ref h.objs.size)))).get? b = some o := fun b o hb q => (Heap.get?_update_other _ _ (Ne.symm hb)).trans q
    have upS : ∀ o, h'.get? S = some o → ∃ o', (h'.update S (Obj.mapSeq (·.push (Value.ref h.objs.size)))).get? S = some o' := fun o q => ⟨_, Heap.get?_update_self _ hS' rfl⟩
    have Sl : S < h.objs.size := Heap.lt_size hSo
    have far : ∀ a, lo ≤ a → a ≠ z ∧ a ≠ TO ∧ a ≠ i1 ∧ a ≠ i2 ∧ a ≠ S := fun a q => ⟨Nat.ne_of_gt (Nat.lt_of_lt_of_le lowz q), Nat.ne_of_gt (Nat.lt_of_lt_of_le lowTO q), Nat.ne_of_gt (Nat.lt_of_lt_of_le low1 q), Nat.ne_of_gt (Nat.lt_of_lt_of_le low2 q), Nat.ne_of_gt (Nat.lt_of_lt_of_le lowS q)⟩
    have us : (h'.update S (Obj.mapSeq (·.push (Value.ref h.objs.size)))).objs.size = h'.objs.size := Heap.size_update ..
    show wpAny _ A.in1 (updateSeq S (·.push (Value.ref h.objs.size)) >>= _) _ _ _
    refine wpAny_bind (wpAny_updateSeq hS' rfl (wpAny_pure ⟨plainId_quiet F.plain_extend_loop _, ih (i + 1) _ _ (acc.push (Value.ref h.objs.size)) (as ++ [h.objs.size]) (by omega) (by omega) (Z'.keep hS up upS) (fun b o b1 b2 b3 b4 b5 q => up b o b1 (e b o b2 b3 b4 b5 (kp b o b1 b2 b3 b4 b5 q)))
      (Heap.get?_update_self _ hS' rfl) (by rw [Array.toList_push, ha, List.map_append]; rfl) (by rw [List.length_append, hl]; rfl) ⟨?_, ?_, ?_, ?_⟩ ?_⟩) ?_)
    · refine List.pairwise_append.mpr ⟨G.rise, List.pairwise_singleton _ _, fun a q b q2 => ?_⟩
      rw [List.mem_singleton.mp q2]
      exact G.there a q
    · intro a q
      rcases List.mem_append.mp q with q | q
      · exact G.above a q
      · rw [List.mem_singleton.mp q]; exact hlo
    · intro a q
      rw [us, sz]
      rcases List.mem_append.mp q with q | q
      · exact Nat.lt_succ_of_lt (G.there a q)
      · rw [List.mem_singleton.mp q]; exact Nat.lt_succ_self _
    · intro j b q
      by_cases hj : j < as.length
      · rw [List.getElem?_append_left hj] at q
        obtain ⟨x, y, e1, e2, e3⟩ := G.at_ j b q
        obtain ⟨f1, f2, f3, f4, f5⟩ := far b (G.above b (List.mem_of_getElem? q))
        exact ⟨x, y, e1, e2, up b _ f5 (e b _ f1 f2 f3 f4 e3)⟩
      · have hj2 : j = as.length := by
          have := (List.getElem?_eq_some_iff.mp q).1
          rw [List.length_append] at this
          have : j < as.length + 1 := this
          omega
        subst hj2
        have : h.objs.size = b := by simpa using q
        subst this
        exact ⟨xs[i], ys[i], by rw [hl]; exact Array.getElem?_eq_getElem ix, by rw [hl]; exact Array.getElem?_eq_getElem iy, up _ _ (Nat.ne_of_gt Sl) p⟩
    · rw [us, sz]; exact Nat.le_succ_of_le hlo
    · rw [hsz]; omega
theorem zip_nolen : typeLookup (.type "zip") "__len__" = pure none := by
  rw [typeLookup_type, builtinLookup_eq_fast]; kernel_rfl
theorem zip_nohint : typeLookup (.type "zip") "__length_hint__" = pure none := by
  rw [typeLookup_type, builtinLookup_eq_fast]; kernel_rfl
/-- list(zip(..)), S the new list -/
theorem zl_call {Q : Value → Shared → Prop} (hh : A.handled = none) (D : ZipApart z TI TO i1 i2 l1 l2) (Z : ZSt ka kb z TI TO i1 i2 l1 l2 xs ys 0 s.heap) (lTI : TI < s.heap.objs.size) (l1l : l1 < s.heap.objs.size) (l2l : l2 < s.heap.objs.size)
    (hn : min xs.size ys.size ≤ sizeLine)
    (hQ : ∀ (h' : Heap) (acc : Array Value) (c : Nat) (as : List Addr), (∀ b o, b ≠ z → b ≠ TO → b ≠ i1 → b ≠ i2 → s.heap.get? b = some o → h'.get? b = some o) → h'.get? s.heap.objs.size = some { cls := .type "list", dict := none, data := .seq acc c, slots := #[] } →
      as.length = min xs.size ys.size → Prs xs ys (s.heap.objs.size + 1) h' as → acc.toList = as.map Value.ref → Q (.ref s.heap.objs.size) { s with heap := h' }) :
    wpAny (model prog w) A (call (.type "list") [.ref z]) Q E s := by
  have zl : z < s.heap.objs.size := by obtain ⟨o, q, _⟩ := Z.zip; exact Heap.lt_size q
  have TOl : TO < s.heap.objs.size := by obtain ⟨_, _, q⟩ := Z.to; exact Heap.lt_size q
  have i1l : i1 < s.heap.objs.size := by obtain ⟨o, q, _⟩ := Kd.it_get Z.it1; exact Heap.lt_size q
  have i2l : i2 < s.heap.objs.size := by obtain ⟨o, q, _⟩ := Kd.it_get Z.it2; exact Heap.lt_size q
  refine callType_codes (Q₁ := fun obj s₁ => obj = .ref s.heap.objs.size ∧ s₁ = { s with heap := s.heap.push { cls := .type "list", data := .seq #[] } }) F.called_list (F.typeCall_list_1 _) F.entry_list_init (code_list_new _ ⟨rfl, rfl⟩) fun obj s₁ h₁ => ?_
  obtain ⟨rfl, rfl⟩ := h₁
  have hS0 : (s.heap.push { cls := .type "list", data := .seq #[] }).get? s.heap.objs.size = some { cls := .type "list", data := .seq #[] } := Heap.get?_push_size _ rfl
  have hS : s.heap.objs.size ≠ z ∧ s.heap.objs.size ≠ TI ∧ s.heap.objs.size ≠ TO ∧ s.heap.objs.size ≠ i1 ∧ s.heap.objs.size ≠ i2 ∧ s.heap.objs.size ≠ l1 ∧ s.heap.objs.size ≠ l2 :=
    ⟨Nat.ne_of_gt zl, Nat.ne_of_gt lTI, Nat.ne_of_gt TOl, Nat.ne_of_gt i1l, Nat.ne_of_gt i2l, Nat.ne_of_gt l1l, Nat.ne_of_gt l2l⟩
  refine ⟨⟨_, hS0, rfl⟩, F.args_list_init_2 _ _, ?_⟩
  generalize hs : s.heap.objs.size = S at hS0 hS hQ ⊢
  show wpAny _ _ (do let old ← Builtin.List.listItems (.ref S); Builtin.List.listUpdate (.ref S) (fun _ => #[]); letGo old.toList.reverse; Builtin.List.listExtendWith (.ref S) (.ref z) .none) _ _ _
  unfold Builtin.List.listItems
  refine wpAny_bind (wpAny_bind (wpAny_seqItems hS0 rfl (wpAny_pure ?_)))
  show wpAny _ _ (updateSeq S (fun _ => #[]) >>= fun _ => letGo (#[] : Array Value).toList.reverse >>= fun _ => Builtin.List.listExtendWith (.ref S) (.ref z) .none) _ _ _
  refine wpAny_bind (wpAny_updateSeq hS0 rfl (wpAny_bind (wpAny_letGo ?_)))
  have hS1 := Heap.get?_update_self (Obj.mapSeq (fun _ => (#[] : Array Value))) hS0 rfl
  have up1 : ∀ b o, b ≠ S → (s.heap.push { cls := .type "list", data := .seq #[] }).get? b = some o → ((s.heap.push { cls := .type "list", data := .seq #[] }).update S (Obj.mapSeq (fun _ => (#[] : Array Value)))).get? b = some o := fun b o hb q => (Heap.get?_update_other _ _ (Ne.symm hb)).trans q
  have Z1 : ZSt ka kb z TI TO i1 i2 l1 l2 xs ys 0 (s.heap.push { cls := .type "list", data := .seq #[] }) := Z.keep hS (fun b o _ q => Heap.get?_push_of_some _ q) fun o q => ⟨_, hS0⟩
  have Z2 := Z1.keep hS up1 fun o q => ⟨_, hS1⟩
  have base : ∀ b o, b ≠ S → b ≠ z → b ≠ TO → b ≠ i1 → b ≠ i2 → s.heap.get? b = some o → ((s.heap.push { cls := .type "list", data := .seq #[] }).update S (Obj.mapSeq (fun _ => (#[] : Array Value)))).get? b = some o := fun b o b1 _ _ _ _ q => up1 b o b1 (Heap.get?_push_of_some _ q)
  have sz1 : ((s.heap.push { cls := .type "list", data := .seq #[] }).update S (Obj.mapSeq (fun _ => (#[] : Array Value)))).objs.size = S + 1 := by rw [Heap.size_update, Heap.size_push, hs]
  generalize (s.heap.push { cls := .type "list", data := .seq #[] }).update S (Obj.mapSeq (fun _ => (#[] : Array Value))) = g at Z2 hS1 base sz1 ⊢
  unfold Builtin.List.listExtendWith
  refine wpAny_bind (wpAny_typeOf (T := "zip") (Z2.type rfl) ?_)
  have n1 : Builtin.List.listSameRef (.ref S) (.ref z) = false := by simp [Builtin.List.listSameRef, hS.1]
  have n2 : (Value.type "zip" == Value.type "list") = false := by decide
  have n3 : (Value.type "zip" == Value.type "tuple") = false := by decide
  simp only [n1, n2, n3, Bool.or_false, Bool.false_eq_true, if_false]
  have itr : ∀ {M : Around} {E' : Value → Shared → Prop} {Q' : Value → Shared → Prop} {s' : Shared}, s'.heap = g → Q' (.ref z) s' → wpAny (model prog w) M (pyIter (.ref z)) Q' E' s' := fun {M E' Q' s'} e q => by
    refine wpAny_pyIter_slot (Z2.type e) F.slot_zip_iter (wpAny_call_entry F.slot_zip_iter (Z2.type e) F.entry_zip_iter ?_ (F.args_zip_iter_1 _))
    show wpAny _ _ (ret (.ref z)) _ _ s'
    exact wpAny_pure ⟨_, rfl, "zip", _, Z2.type e, F.slot_zip_next.lookup, q⟩
  refine wpAny_bind (itr rfl (wpAny_bind (wpAny_holding ?_)))
  unfold Builtin.List.listLengthHint
  refine wpAny_bind (wpAny_specialOf (Z2.type rfl) zip_nolen ?_)
  show wpAny _ _ (specialOf (Value.ref z) (Str.ofString "__length_hint__") >>= _) _ _ _
  refine wpAny_bind (wpAny_specialOf (Z2.type rfl) zip_nohint (wpAny_pure ?_))
  rw [Bool.true_or, if_pos rfl]
  refine wpAny_bind (wpAny_rule (wpAny_bind ?_))
  show wpAny _ _ (updateSeq S (·.push .none) >>= fun _ => updateSeq S (·.pop)) _ _ _
  have hS2 := Heap.get?_update_self (Obj.mapSeq (·.push Value.none)) hS1 rfl
  refine wpAny_bind (wpAny_updateSeq hS1 rfl (wpAny_updateSeq (hz := by seq_fits) hS2 rfl ?_))
  have hS3 := Heap.get?_update_self (Obj.mapSeq (·.pop)) hS2 rfl
  have up3 : ∀ b o, b ≠ S → g.get? b = some o → ((g.update S (Obj.mapSeq (·.push Value.none))).update S (Obj.mapSeq (·.pop))).get? b = some o := fun b o hb q => (Heap.get?_update_other _ _ (Ne.symm hb)).trans ((Heap.get?_update_other _ _ (Ne.symm hb)).trans q)
  have sz3 : ((g.update S (Obj.mapSeq (·.push Value.none))).update S (Obj.mapSeq (·.pop))).objs.size = S + 1 := by rw [Heap.size_update, Heap.size_update, sz1]
  refine wpAny_pure ⟨plainId_quiet F.plain_extend_loop _, ?_⟩
  refine zl_loop (A := A.in1) (s := s) (h₁ := s.heap) (lo := S + 1) hh D hS (Nat.lt_succ_of_lt (hs ▸ zl)) (Nat.lt_succ_of_lt (hs ▸ TOl)) (Nat.lt_succ_of_lt (hs ▸ i1l)) (Nat.lt_succ_of_lt (hs ▸ i2l)) (Nat.lt_succ_self _) hn .none (fun h' acc c as k1 k2 k3 k4 k5 => ⟨rfl, hQ h' acc c as (fun b o b2 b3 b4 b5 q => ?_) k2 k3 k4 k5⟩)
    _ 0 _ _ #[] [] rfl (Nat.zero_le _) (Z2.keep hS up3 fun o q => ⟨_, hS3⟩) (fun b o b1 b2 b3 b4 b5 q => up3 b o b1 (base b o b1 b2 b3 b4 b5 q)) hS3 rfl rfl ⟨List.Pairwise.nil, (fun _ q => nomatch q), (fun _ q => nomatch q), fun j a q => by simp at q⟩ (by rw [sz3]; exact Nat.le_refl _)
  have := Heap.lt_size q
  exact k1 b o (Nat.ne_of_lt (hs ▸ this)) b2 b3 b4 b5 q
end
end PKZ
namespace PKZ
open PySem PySem.Spec PyProof.Rows L2
def Kd.nm : Kd → String
  | .l => "list_iterator"
  | .t => "tuple_iterator"
abbrev itO (kd : Kd) (a : Addr) : Obj := { cls := .type kd.nm, data := .fields #[.ref a, .int 0 0] }
abbrev zg1 (ka : Kd) (h : Heap) (a : Addr) : Heap := h.push (itO ka a)
abbrev zg2 (ka kb : Kd) (h : Heap) (a b : Addr) : Heap := (zg1 ka h a).push (itO kb b)
abbrev zg3 (ka kb : Kd) (h : Heap) (a b : Addr) : Heap := (zg2 ka kb h a b).push { cls := .type "tuple", data := .seq #[.ref h.objs.size, .ref (zg1 ka h a).objs.size] }
abbrev zg4 (ka kb : Kd) (h : Heap) (a b : Addr) : Heap := (zg3 ka kb h a b).push { cls := .type "tuple", data := .seq #[.none, .none] }
abbrev zg5 (ka kb : Kd) (h : Heap) (a b : Addr) : Heap := (zg4 ka kb h a b).push { cls := .type "zip", data := .fields #[.none, .bool false, .bool false, .ref (zg2 ka kb h a b).objs.size, .ref (zg3 ka kb h a b).objs.size] }
theorem Kd.sq_push {kd : Kd} {h : Heap} {a : Addr} {xs : Array Value} {o : Obj} (q : kd.Sq h a xs) : kd.Sq (h.push o) a xs := Kd.sq_at q fun _ e => Heap.get?_push_of_some _ e
theorem Kd.sq_lt {kd : Kd} {h : Heap} {a : Addr} {xs : Array Value} (q : kd.Sq h a xs) : a < h.objs.size := by
  cases kd with
  | l => obtain ⟨o, e, _⟩ := q; exact Heap.lt_size e
  | t => obtain ⟨o, e, _⟩ := q; exact Heap.lt_size e
theorem pyIter_kd {prog : Program} {w : World} {A : Around} {E : Value → Shared → Prop} {s : Shared} {kd : Kd} {a : Addr} {xs : Array Value} {Q : Value → Shared → Prop} (q : kd.Sq s.heap a xs)
    (h : Q (.ref s.heap.objs.size) { s with heap := s.heap.push (itO kd a) }) : wpAny (model prog w) A (pyIter (.ref a)) Q E s := by
  cases kd with
  | l => exact wpAny_pyIter_list q h
  | t => exact wpAny_pyIter_tuple q h
theorem meets_zg (ka kb : Kd) (a b : Addr) (xs ys : Array Value) :
    Meets (Builtin.«zip.__new__» ⟨[.type "zip", .ref a, .ref b], []⟩) (fun _ R s => ka.Sq s.heap a xs ∧ kb.Sq s.heap b ys ∧ R (.ok (.ret (.ref (zg4 ka kb s.heap a b).objs.size))) { s with heap := zg5 ka kb s.heap a b }) :=
  .of_wp fun prog w A R s h => by
    obtain ⟨hp, g, d, tk, os⟩ := s
    obtain ⟨h1, h2, h⟩ := h
    have hsub := sub_zip
    have p1 : ka.Sq (Shared.heap ⟨hp, g, d, tk, os⟩) a xs := h1
    have p2 : kb.Sq (Shared.heap ⟨hp.push (itO ka a), g, d, tk, os⟩) b ys := Kd.sq_push h2
    wp_walk using pyIter_kd p1, pyIter_kd p2
    exact ⟨_, rfl, h⟩
section
variable {prog : Program} {w : World} {A : Around} {E : Value → Shared → Prop} {s : Shared}
/-- zip(a, b) -/
theorem call_zg {ka kb : Kd} {a b : Addr} {xs ys : Array Value} {Q : Value → Shared → Prop} (h1 : ka.Sq s.heap a xs) (h2 : kb.Sq s.heap b ys)
    (hQ : ∀ h', ZSt ka kb (s.heap.objs.size + 4) (s.heap.objs.size + 2) (s.heap.objs.size + 3) s.heap.objs.size (s.heap.objs.size + 1) a b xs ys 0 h' → Zo h' (s.heap.objs.size + 4) (s.heap.objs.size + 2) (s.heap.objs.size + 3) .none false → h'.objs.size = s.heap.objs.size + 5 →
      (∀ c o, s.heap.get? c = some o → h'.get? c = some o) → Q (.ref (s.heap.objs.size + 4)) { s with heap := h' }) :
    wpAny (model prog w) A (call (.type "zip") [.ref a, .ref b]) Q E s := by
  refine callType_new F.called_zip (by decide) (F.typeCall_zip_2 _ _) (F.newCall_zip_2 _ _) (fun obj => F.args_object_init_3 obj _ _) F.entry_zip_new (meets_zg ka kb a b xs ys) ⟨h1, h2, ?_⟩
  have z1 : (zg1 ka s.heap a).objs.size = s.heap.objs.size + 1 := Heap.size_push ..
  have z2 : (zg2 ka kb s.heap a b).objs.size = s.heap.objs.size + 2 := by rw [Heap.size_push, z1]
  have z3 : (zg3 ka kb s.heap a b).objs.size = s.heap.objs.size + 3 := by rw [Heap.size_push, z2]
  have z4 : (zg4 ka kb s.heap a b).objs.size = s.heap.objs.size + 4 := by rw [Heap.size_push, z3]
  have z5 : (zg5 ka kb s.heap a b).objs.size = s.heap.objs.size + 5 := by rw [Heap.size_push, z4]
  have kp : ∀ c o, s.heap.get? c = some o → (zg5 ka kb s.heap a b).get? c = some o := fun c o e =>
    Heap.get?_push_of_some _ (Heap.get?_push_of_some _ (Heap.get?_push_of_some _ (Heap.get?_push_of_some _ (Heap.get?_push_of_some _ e))))
  have o5 : (zg5 ka kb s.heap a b).get? (zg4 ka kb s.heap a b).objs.size = some _ := Heap.get?_push_size _ rfl
  have o4 : (zg5 ka kb s.heap a b).get? (zg3 ka kb s.heap a b).objs.size = some _ := Heap.get?_push_of_some _ (Heap.get?_push_size _ rfl)
  have o3 : (zg5 ka kb s.heap a b).get? (zg2 ka kb s.heap a b).objs.size = some _ := Heap.get?_push_of_some _ (Heap.get?_push_of_some _ (Heap.get?_push_size _ rfl))
  have o2 : (zg5 ka kb s.heap a b).get? (zg1 ka s.heap a).objs.size = some (itO kb b) := Heap.get?_push_of_some _ (Heap.get?_push_of_some _ (Heap.get?_push_of_some _ (Heap.get?_push_size _ rfl)))
  have o1 : (zg5 ka kb s.heap a b).get? s.heap.objs.size = some (itO ka a) := Heap.get?_push_of_some _ (Heap.get?_push_of_some _ (Heap.get?_push_of_some _ (Heap.get?_push_of_some _ (Heap.get?_push_size _ rfl))))
  have it : ∀ (kd : Kd) (i c : Addr), (zg5 ka kb s.heap a b).get? i = some (itO kd c) → kd.It (zg5 ka kb s.heap a b) i c 0 := fun kd i c e => by
    cases kd with
    | l => exact ⟨_, e, rfl, rfl⟩
    | t => exact ⟨_, e, rfl, rfl⟩
  rw [z2, z3, z4] at o5
  rw [z1, z2] at o3
  rw [z3] at o4
  rw [z1] at o2
  show _ ∧ _
  rw [z4]
  exact ⟨⟨_, o5, rfl⟩, hQ _ ⟨o3, ⟨_, _, o4⟩, it _ _ _ o1, it _ _ _ o2, Kd.sq_at h1 fun o e => kp _ _ e, Kd.sq_at h2 fun o e => kp _ _ e, .inl o5⟩ o5 z5 kp⟩
end
/-- the heap has grown, some of the new objects are tracked -/
theorem inv_grow {X : Cx} {pins : List (Addr × Obj)} {σ : L2.St} {H H' : Hp} {s : Shared} {h' : Heap} {tk : Nat} (I : Inv X pins σ H s) (hk : ∀ b o, s.heap.get? b = some o → h'.get? b = some o) (kp : ∀ b u, H b = some u → H' b = some u)
    (nn : ∀ b o, s.heap.get? b = some o → H b = none → H' b = none) (hok : ∀ b u, H' b = some u → H b = some u ∨ ObjOk X.prog X.w H' h' b u) : Inv X pins σ H' { s with heap := h', toks := tk } := by
  refine I.call' (ch := []) rfl ⟨fun b o q _ _ _ => hk b o q, fun b o q _ _ _ => ⟨o.slots, hk b o q⟩, fun b o q n _ => nn b o q n, fun b o q _ => ⟨o, hk b o q⟩, fun b xs q => kp b _ q, fun b o u q => kp b _ q, fun b ps q => ⟨#[], by rw [kp b _ q]; simp⟩⟩ (fun b u q => ?_) I.bare fun b z => nomatch z
  rcases hok b u q with e | e
  · exact (I.hok b u e).stay (fun d v _ y => hk d v y) (fun d y => kp d _ y) fun d xs y => kp d _ y
  · exact e
/-- pairs tracked at their places -/
def putP : Hp → List Addr → List V → List V → Hp
  | H, a :: as, x :: xs, y :: ys => putP (upd H a (.tup [x, y])) as xs ys
  | H, _, _, _ => H
theorem putP_off {b : Addr} : ∀ (as : List Addr) (xs ys : List V) (H : Hp), b ∉ as → putP H as xs ys b = H b
  | [], _, _, _, _ => rfl
  | _ :: _, [], _, _, _ => rfl
  | _ :: _, _ :: _, [], _, _ => rfl
  | a :: as, x :: xs, y :: ys, H, h => by
    show putP (upd H a (.tup [x, y])) as xs ys b = H b
    rw [putP_off as xs ys _ (fun z => h (List.mem_cons_of_mem _ z)), upd_ne (fun z => h (by rw [z]; exact List.mem_cons_self))]
theorem putP_at : ∀ (as : List Addr) (xs ys : List V) (H : Hp), as.length ≤ xs.length → as.length ≤ ys.length → as.Nodup → ∀ (j : Nat) (a : Addr), as[j]? = some a → ∃ x y, xs[j]? = some x ∧ ys[j]? = some y ∧ putP H as xs ys a = some (.tup [x, y])
  | [], _, _, _, _, _, _, _, _, e => by simp at e
  | _ :: _, [], _, _, h, _, _, _, _, _ => by simp at h
  | _ :: _, _ :: _, [], _, _, h, _, _, _, _ => by simp at h
  | a :: as, x :: xs, y :: ys, H, h1, h2, hn, 0, b, e => by
    have e : a = b := by simpa using e
    subst e
    refine ⟨x, y, rfl, rfl, ?_⟩
    show putP (upd H a (.tup [x, y])) as xs ys a = _
    rw [putP_off as xs ys _ (List.nodup_cons.mp hn).1, upd_same]
  | a :: as, x :: xs, y :: ys, H, h1, h2, hn, j + 1, b, e => by
    obtain ⟨u, v, e1, e2, e3⟩ := putP_at as xs ys (upd H a (.tup [x, y])) (Nat.le_of_succ_le_succ h1) (Nat.le_of_succ_le_succ h2) (List.nodup_cons.mp hn).2 j b (by simpa using e)
    exact ⟨u, v, by simpa using e1, by simpa using e2, e3⟩
theorem refs_vals : ∀ as : List Addr, Vals (as.map V.ref) (as.map Value.ref)
  | [] => .nil
  | _ :: as => .cons rfl (refs_vals as)
def Sq2 (K : PySem.W.Frag) (H : Hp) (a : Addr) (xs : List V) : Prop := SqL K H a xs ∨ SqT K H a xs
theorem sq_of {X : Cx} {pins : List (Addr × Obj)} {σ : L2.St} {H : Hp} {s : Shared} {a : Addr} {xs : List V} (I : Inv X pins σ H s) (q : Sq2 X.K H a xs) : ∃ (kd : Kd) (its : List Value), Vals xs its ∧ kd.Sq s.heap a its.toArray := by
  rcases q with q | q
  · obtain ⟨its, rv, p, _⟩ := I.list q
    exact ⟨.l, its, rv, p.isList⟩
  · obtain ⟨its, rv, p, _⟩ := I.tuple q
    exact ⟨.t, its, rv, p⟩
def rListZip (K : PySem.W.Frag) : List V → Hp → VK → Prop := fun vs H Q => ∃ (a b : Addr) (xs ys : List V), vs = [.ref a, .ref b] ∧ Sq2 K H a xs ∧ Sq2 K H b ys ∧ min xs.length ys.length ≤ sizeLine ∧
  ∀ (H' : Hp) (p : Addr) (ts : List Addr), (∀ b o, H b = some o → H' b = some o) → H p = none → (∀ t ∈ ts, H t = none) → ts.length = min xs.length ys.length → H' p = some (.lst (ts.map V.ref)) →
    (∀ (j : Nat) (t : Addr), ts[j]? = some t → ∃ x y, xs[j]? = some x ∧ ys[j]? = some y ∧ H' t = some (.tup [x, y])) → Q (.ref p) H'
def tListZip (K : PySem.W.Frag) (ta : TA) : TE := fun σ H Q => ta σ H fun vs H1 => rListZip K vs H1 Q
/-- list(zip(e, e2)) -/
theorem pe_listZip {X : Cx} {e e2 : Expr} {ta : TA} {p p2 pos pos2 : Pos} (hc : X.calm = true) (hg : Gl X "list") (hm : X.mg "list" = none) (hv : bootBuiltins "list" = some (.type "list")) (hg2 : Gl X "zip") (hm2 : X.mg "zip" = none) (ha : PA X [e, e2] ta)
    (hs : starEach [.Call (.Name "zip" p2) [e, e2] [] pos2] X.env = (false, eval (.Call (.Name "zip" p2) [e, e2] [] pos2) X.env) :: starEach [] X.env := by rfl)
    (hs2 : starEach [e, e2] X.env = (false, eval e X.env) :: starEach [e2] X.env := by rfl) (hpl : (backTo pos2 (starEach [e2] X.env)).any (·.1) = false := by rfl) :
    PE X (.Call (.Name "list" p) [.Call (.Name "zip" p2) [e, e2] [] pos2] [] pos) (tListZip X.K ta) := by
  refine ⟨fun pins s σ H Q I hq => ?_⟩
  refine wpAny_Call_Name_kw (ld_blt I hg hm hv (PyProof.Rows.callWith_type1 ?_ hs rfl))
  rw [hs]
  show wpAny _ _ (spliced ((false, eval (.Call (.Name "zip" p2) [e, e2] [] pos2) X.env) :: backTo pos (starEach [] X.env))) _ _ s
  refine Calls.spliced_cons (Call_ (ld_blt I hg2 hm2 PyProof.Rows.boot_zip (PyProof.Rows.callWith_type1 (thn (ha.run pos2 pins s σ H _ I hq) fun us s1 ⟨vs, H1, I1, r1, q1⟩ => ?_) hs2 hpl)))
  obtain ⟨a, b, xs, ys, rfl, qa, qb, hmin, q⟩ := q1
  obtain ⟨u, us, rfl, ru, rr⟩ : ∃ u us', us = u :: us' ∧ RelV (V.ref a) u ∧ Vals [V.ref b] us' := by cases r1 with | cons r t => exact ⟨_, _, rfl, r, t⟩
  obtain ⟨u2, rfl, ru2⟩ : ∃ u2, us = [u2] ∧ RelV (V.ref b) u2 := by cases rr with | cons r t => cases t; exact ⟨_, rfl, r⟩
  obtain rfl : u = Value.ref a := ru
  obtain rfl : u2 = Value.ref b := ru2
  obtain ⟨ka, ia, va, sa⟩ := sq_of I1 qa
  obtain ⟨kb, ib, vb, sb⟩ := sq_of I1 qb
  have la := va.length
  have lb := vb.length
  have mn : min ia.toArray.size ib.toArray.size = min xs.length ys.length := by rw [List.size_toArray, List.size_toArray, la, lb]
  refine call_zg sa sb fun g Z zo sz kp => Calls.spliced_nil ?_
  have hal := Kd.sq_lt sa
  have hbl := Kd.sq_lt sb
  refine zl_call (s := { s1 with heap := g }) (I1.ok.hd hc) (PySem.W.ktu_apart s1.heap.objs.size a b hal hbl) Z (Heap.lt_size Z.ti) (Nat.lt_of_lt_of_le hal (by show s1.heap.objs.size ≤ g.objs.size; rw [sz]; exact Nat.le_add_right _ _)) (Nat.lt_of_lt_of_le hbl (by show s1.heap.objs.size ≤ g.objs.size; rw [sz]; exact Nat.le_add_right _ _)) (by rw [mn]; exact hmin) fun h' acc c as k1 k2 k3 k4 k5 => ?_
  dsimp only at k1 k2 k3 k4 k5 ⊢
  have hS : s1.heap.objs.size ≤ g.objs.size := by rw [sz]; exact Nat.le_add_right _ _
  have hk : ∀ b o, s1.heap.get? b = some o → h'.get? b = some o := fun b o e => by
    have lt := Heap.lt_size e
    exact k1 b o (Nat.ne_of_lt (Nat.lt_of_lt_of_le lt (Nat.le_add_right _ _))) (Nat.ne_of_lt (Nat.lt_of_lt_of_le lt (Nat.le_add_right _ _))) (Nat.ne_of_lt lt) (Nat.ne_of_lt (Nat.lt_of_lt_of_le lt (Nat.le_add_right _ _))) (kp _ _ e)
  have nS : H1 g.objs.size = none := I1.hok.fresh hS
  have nas : ∀ t ∈ as, H1 t = none := fun t ht => I1.hok.fresh (Nat.le_trans hS (Nat.le_of_lt (k4.above t ht)))
  have nd : as.Nodup := List.Pairwise.imp (fun {x y} (h : x < y) => Nat.ne_of_lt h) k4.rise
  have Sn : g.objs.size ∉ as := fun z => Nat.lt_irrefl _ (k4.above _ z)
  have lx : as.length ≤ xs.length := by rw [k3, mn]; exact Nat.min_le_left _ _
  have ly : as.length ≤ ys.length := by rw [k3, mn]; exact Nat.min_le_right _ _
  have at_ := putP_at as xs ys (upd H1 g.objs.size (.lst (as.map V.ref))) lx ly nd
  have off : ∀ b, b ∉ as → b ≠ g.objs.size → putP (upd H1 g.objs.size (.lst (as.map V.ref))) as xs ys b = H1 b := fun b h1 h2 => by rw [putP_off as xs ys _ h1, upd_ne h2]
  have eS : putP (upd H1 g.objs.size (.lst (as.map V.ref))) as xs ys g.objs.size = some (.lst (as.map V.ref)) := by rw [putP_off as xs ys _ Sn, upd_same]
  have kp2 : ∀ b u, H1 b = some u → putP (upd H1 g.objs.size (.lst (as.map V.ref))) as xs ys b = some u := fun b u e => by
    rw [off b (fun z => by rw [nas b z] at e; cases e) (fun z => by rw [z, nS] at e; cases e)]
    exact e
  refine ⟨.ref g.objs.size, _, inv_grow (tk := s1.toks) I1 hk kp2 (fun b o e n => ?_) (fun b u e => ?_), rfl, q _ _ as kp2 nS nas (by rw [k3, mn]) eS at_⟩
  · have lt := Heap.lt_size e
    rw [off b (fun z => absurd (Nat.lt_of_lt_of_le lt (Nat.le_trans hS (Nat.le_of_lt (k4.above b z)))) (Nat.lt_irrefl _)) (Nat.ne_of_lt (Nat.lt_of_lt_of_le lt hS))]
    exact n
  · by_cases hb : b ∈ as
    · right
      obtain ⟨j, hj, rfl⟩ := List.getElem_of_mem hb
      obtain ⟨x, y, e1, e2, e3⟩ := at_ j _ (List.getElem?_eq_getElem hj)
      rw [e3] at e
      cases e
      obtain ⟨vx, vy, f1, f2, f3⟩ := k4.at_ j _ (List.getElem?_eq_getElem hj)
      obtain ⟨wx, g1, r1⟩ := va.get e1
      obtain ⟨wy, g2, r2⟩ := vb.get e2
      have h1 : vx = wx := Option.some.inj (f1.symm.trans (by simpa using g1))
      have h2 : vy = wy := Option.some.inj (f2.symm.trans (by simpa using g2))
      subst h1 h2
      exact ⟨by show 2 ≤ sizeLine; decide, [vx, vy], .cons r1 (.cons r2 .nil), ⟨_, f3, rfl, _, rfl⟩⟩
    · by_cases hb2 : b = g.objs.size
      · right
        rw [hb2] at e ⊢
        rw [eS] at e
        cases e
        refine ⟨by rw [List.length_map, k3, mn]; exact hmin, acc.toList, c, by rw [k5]; exact refs_vals as, ?_⟩
        rw [Array.toArray_toList]
        exact k2
      · left
        rw [off b hb hb2] at e
        exact e
end PKZ
namespace PKZ
open PySem PySem.Spec PyProof.Rows L2
def SqV (kd : Kd) (K : PySem.W.Frag) (H : Hp) (a : Addr) (xs : List V) : Prop := match kd with
  | .l => SqL K H a xs
  | .t => SqT K H a xs
theorem sq_kd {X : Cx} {pins : List (Addr × Obj)} {σ : L2.St} {H : Hp} {s : Shared} {kd : Kd} {a : Addr} {xs : List V} (I : Inv X pins σ H s) (q : SqV kd X.K H a xs) : ∃ its : List Value, Vals xs its ∧ kd.Sq s.heap a its.toArray := by
  cases kd with
  | l => obtain ⟨its, rv, p, _⟩ := I.list q; exact ⟨its, rv, p.isList⟩
  | t => obtain ⟨its, rv, p, _⟩ := I.tuple q; exact ⟨its, rv, p⟩
/-- pairs of the items of two sequences -/
def ItP (K : PySem.W.Frag) (ka kb : Kd) (a b : Addr) (xs ys : List V) : It :=
  ⟨fun i H => SqV ka K H a xs ∧ SqV kb K H b ys ∧ i < xs.length ∧ i < ys.length,
    fun i H v H' => ∃ T x y, v = .ref T ∧ H T = none ∧ H' = upd H T (.tup [x, y]) ∧ xs[i]? = some x ∧ ys[i]? = some y,
    fun i H => SqV ka K H a xs ∧ SqV kb K H b ys ∧ (xs.length ≤ i ∨ ys.length ≤ i)⟩
theorem turn_zip {P : Program} {w : World} {K : PySem.W.Frag} {elts : List Expr} {kk : Nat} {tpos : Pos} {ka kb : Kd} {a b z TI TO i1 i2 : Addr} {xs ys : List V} (D : ZipApart z TI TO i1 i2 a b) :
    Turn P w K (.Tuple elts kk tpos) (ItP K ka kb a b xs ys) [z, TI, TO, i1, i2] z (fun i h => Zo h z TI TO .none false ∧ IsPair h TI (.ref i1) (.ref i2) ∧ (∃ x y, IsPair h TO x y) ∧ ka.It h i1 a i ∧ kb.It h i2 b i) where
  mem := List.mem_cons_self
  obj := fun i h st c hc => by
    obtain ⟨q1, q2, ⟨x, y, q3⟩, q4, q5⟩ := st
    simp only [List.mem_cons, List.not_mem_nil, or_false] at hc
    rcases hc with e | e | e | e | e
    · rw [e]; exact ⟨_, q1, fun v q => nomatch q⟩
    · rw [e]; exact ⟨_, q2, fun v q => nomatch q⟩
    · rw [e]; exact ⟨_, q3, fun v q => nomatch q⟩
    · rw [e]; exact Kd.it_get q4
    · rw [e]; exact Kd.it_get q5
  keep := fun i h h' st k => by
    obtain ⟨q1, q2, ⟨x, y, q3⟩, q4, q5⟩ := st
    exact ⟨k z (by simp) _ q1, k TI (by simp) _ q2, ⟨x, y, k TO (by simp) _ q3⟩, Kd.it_at q4 fun o q => k i1 (by simp) o q, Kd.it_at q5 fun o q => k i2 (by simp) o q⟩
  item := by
    intro X hP hw hK hc i pins s σ H E I hf st hg
    subst hP hw hK
    obtain ⟨q1, q2, ⟨x0, y0, q3⟩, q4, q5⟩ := st
    obtain ⟨sx, sy, lx, ly⟩ := hg
    obtain ⟨ia, va, sa⟩ := sq_kd I sx
    obtain ⟨ib, vb, sb⟩ := sq_kd I sy
    obtain ⟨u, hu, ru⟩ := va.get (List.getElem?_eq_getElem lx)
    obtain ⟨u2, hu2, ru2⟩ := vb.get (List.getElem?_eq_getElem ly)
    have zl : z < s.heap.objs.size := Heap.lt_size q1
    have hT : s.TypeIs (.ref z) "zip" := ⟨_, q1, rfl⟩
    unfold pyNext
    refine wpAny_bind (wpAny_attempt (wpAny_callSpecial?_slot (name := Str.ofString "__next__") hT F.slot_zip_next (wpAny_call_entry F.slot_zip_next hT F.entry_zip_next ?_ (F.args_zip_next_1 _))))
    refine free_item D q1 q2 q3 q4 q5 sa sb (x := u) (y := u2) (by simpa using hu) (by simpa using hu2) fun h' c1 c2 c3 c4 c5 c6 c7 => wpAny_pure ?_
    refine ⟨_, rfl, wpAny_letOwnedTupleGo_zip (s := { s with heap := h' }) c1 fun g d1 d2 => ?_⟩
    have t2 : g.get? s.heap.objs.size = some { cls := .type "tuple", data := .seq #[u, u2] } := (d2.2 _ (Nat.ne_of_gt zl)).trans c5
    have new : ObjOk X.prog X.w (upd H s.heap.objs.size (.tup [xs[i], ys[i]])) g s.heap.objs.size (.tup [xs[i], ys[i]]) := ⟨by show 2 ≤ sizeLine; decide, [u, u2], .cons ru (.cons ru2 .nil), ⟨_, t2, rfl, _, rfl⟩⟩
    have away : ∀ c o, c ∉ [z, TI, TO, i1, i2] → s.heap.get? c = some o → g.get? c = some o := fun c o hb q => by
      simp only [List.mem_cons, List.not_mem_nil, or_false, not_or] at hb
      exact (d2.2 c hb.1).trans (c7 c o hb.1 hb.2.2.1 hb.2.2.2.1 hb.2.2.2.2 q)
    have I1 : Inv X pins σ (upd H s.heap.objs.size (.tup [xs[i], ys[i]])) { s with heap := g } := I.turnedNew (t' := s.toks) (ch := [z, TI, TO, i1, i2]) away hf (Nat.le_refl _) new
    refine ⟨.ref s.heap.objs.size, _, I1, rfl, ⟨_, xs[i], ys[i], rfl, I.hok.fresh (Nat.le_refl _), rfl, List.getElem?_eq_getElem lx, List.getElem?_eq_getElem ly⟩, ⟨d1, (d2.2 _ D.TIz).trans (c7 _ _ D.TIz D.TITO D.TIi1 D.TIi2 q2), ⟨_, _, (d2.2 _ D.TOz).trans c2⟩, Kd.it_at c3 fun o q => (d2.2 _ D.i1z).trans q, Kd.it_at c4 fun o q => (d2.2 _ D.i2z).trans q⟩, fun c hc => ?_⟩
    have lt : c < s.heap.objs.size := by
      simp only [List.mem_cons, List.not_mem_nil, or_false] at hc
      rcases hc with e | e | e | e | e
      · rw [e]; exact zl
      · rw [e]; exact Heap.lt_size q2
      · rw [e]; exact Heap.lt_size q3
      · rw [e]; obtain ⟨o, p, _⟩ := Kd.it_get q4; exact Heap.lt_size p
      · rw [e]; obtain ⟨o, p, _⟩ := Kd.it_get q5; exact Heap.lt_size p
    rw [upd_ne (Nat.ne_of_lt lt)]
    exact (hf c hc).1
  done := by
    intro X hP hw hK hc i pins s σ H E I hf st hg
    subst hP hw hK
    obtain ⟨q1, q2, ⟨x0, y0, q3⟩, q4, q5⟩ := st
    obtain ⟨sx, sy, hend⟩ := hg
    obtain ⟨ia, va, sa⟩ := sq_kd I sx
    obtain ⟨ib, vb, sb⟩ := sq_kd I sy
    have la := va.length
    have lb := vb.length
    have he : ia.toArray[i]? = none ∨ ib.toArray[i]? = none := by
      rcases hend with q | q
      · exact .inl (by simp; omega)
      · exact .inr (by simp; omega)
    have hT : s.TypeIs (.ref z) "zip" := ⟨_, q1, rfl⟩
    unfold pyNext
    refine wpAny_bind (wpAny_attempt (wpAny_callSpecial?_slot (name := Str.ofString "__next__") hT F.slot_zip_next (wpAny_call_entry F.slot_zip_next hT F.entry_zip_next ?_ (F.args_zip_next_1 _))))
    refine free_end (I.ok.hd hc) D q1 q2 q3 q4 q5 sa sb he fun h' e k ⟨o, ho, hc2⟩ => ?_
    refine wpAny_bind (wpAny_isInstance (T := "StopIteration") (b := true) ⟨o, ho, hc2⟩ isSubtype_stop (wpAny_pure ⟨rfl, I.turnedL (t' := s.toks) (ch := [z, TI, TO, i1, i2]) (fun c o hb q => ?_) hf⟩))
    simp only [List.mem_cons, List.not_mem_nil, or_false, not_or] at hb
    exact k c o hb.1 hb.2.2.1 hb.2.2.2.1 hb.2.2.2.2 q
  self := fun A i s Q E st h => wpAny_pyIter_zip st.1 h
def iZipP (K : PySem.W.Frag) (ta : TA) : TI := fun σ H R => ta σ H fun vs H1 => ∃ (ka kb : Kd) (a b : Addr) (xs ys : List V), vs = [.ref a, .ref b] ∧ SqV ka K H1 a xs ∧ SqV kb K H1 b ys ∧ R (ItP K ka kb a b xs ys) H1
/-- for x, y in zip(e, e2), lists and tuples -/
theorem pi_zipP {X : Cx} {e e2 : Expr} {ta : TA} {p pos tpos : Pos} {elts : List Expr} {kk : Nat} (hg : Gl X "zip") (hm : X.mg "zip" = none) (ha : PA X [e, e2] ta)
    (hs : starEach [e, e2] X.env = (false, eval e X.env) :: starEach [e2] X.env := by rfl) (hpl : (backTo pos (starEach [e2] X.env)).any (·.1) = false := by rfl) :
    PI X (.Tuple elts kk tpos) (.Call (.Name "zip" p) [e, e2] [] pos) (iZipP X.K ta) := by
  refine ⟨fun pins s σ H R I h => ?_⟩
  refine Call_ (ld_blt I hg hm PyProof.Rows.boot_zip (PyProof.Rows.callWith_type1 (thn (ha.run pos pins s σ H _ I h) fun us s1 ⟨vs, H1, I1, r1, q1⟩ => ?_) hs hpl))
  obtain ⟨ka, kb, a, b, xs, ys, rfl, sx, sy, q⟩ := q1
  obtain ⟨u, u2, rfl, ru, ru2⟩ : ∃ u u2, us = [u, u2] ∧ RelV (V.ref a) u ∧ RelV (V.ref b) u2 := by
    cases r1 with
    | cons r t => cases t with
      | cons r2 t => cases t; exact ⟨_, _, rfl, r, r2⟩
  obtain rfl : u = Value.ref a := ru
  obtain rfl : u2 = Value.ref b := ru2
  obtain ⟨ia, va, sa⟩ := sq_kd I1 sx
  obtain ⟨ib, vb, sb⟩ := sq_kd I1 sy
  refine call_zg sa sb fun g Z zo sz kp => wpAny_pyIter_zip (s := { s1 with heap := g }) zo ?_
  have I2 : Inv X pins σ H1 { s1 with heap := g } := I1.kept (t' := s1.toks) kp
  refine ⟨s1.heap.objs.size + 4, [s1.heap.objs.size + 4, s1.heap.objs.size + 2, s1.heap.objs.size + 3, s1.heap.objs.size, s1.heap.objs.size + 1], _, _, H1, rfl, I2, turn_zip (PySem.W.ktu_apart s1.heap.objs.size a b (Kd.sq_lt sa) (Kd.sq_lt sb)), ⟨zo, Z.ti, Z.to, Z.it1, Z.it2⟩, fun c hc => ?_, q⟩
  have le : s1.heap.objs.size ≤ c := by
    simp only [List.mem_cons, List.not_mem_nil, or_false] at hc
    rcases hc with e | e | e | e | e
    · rw [e]; exact Nat.le_add_right _ _
    · rw [e]; exact Nat.le_add_right _ _
    · rw [e]; exact Nat.le_add_right _ _
    · rw [e]; exact Nat.le_refl _
    · rw [e]; exact Nat.le_add_right _ _
  exact I1.fpOk le (I1.hok.fresh le)
theorem walk_zipP {K : PySem.W.Frag} {ka kb : Kd} {a b : Addr} {xs ys : List V} {n : Nat} (hn : n = min xs.length ys.length) : Walk (ItP K ka kb a b xs ys) n (fun H => SqV ka K H a xs ∧ SqV kb K H b ys) (YPair (fun i => xs[i]?) (fun i => ys[i]?)) := by
  subst hn
  refine ⟨fun i _ hi q => ⟨q.1, q.2, by omega, by omega⟩, fun _ q => ⟨q.1, q.2, by omega⟩, fun i H v H' _ q y => ?_⟩
  obtain ⟨T, x, y, h1, h2, h3, h4, h5⟩ := y
  exact ⟨T, x, y, h1, h2, h3, h4, h5⟩
end PKZ
namespace PKZ
open PySem PySem.Spec PyProof.Rows L2
/-! t[::-1] of a tuple; xs.extend(t) -/
theorem adjust_back (n : Nat) : Builtin.Slice.sliceAdjust none none (-1) (n : Int) = ((n : Int) - 1, -1) := by
  unfold Builtin.Slice.sliceAdjust
  simp
theorem places_back (n : Nat) : Builtin.Slice.slicePlaces ((n : Int) - 1) (-1) (-1) = n := by
  unfold Builtin.Slice.slicePlaces
  rw [if_neg (by decide), show (- -1 : Int) = 1 by decide, Int.ediv_one]
  split <;> omega
theorem fm_congr {α β : Type} {f g : α → Option β} : ∀ {l : List α}, (∀ x ∈ l, f x = g x) → l.filterMap f = l.filterMap g
  | [], _ => rfl
  | x :: r, h => by
    have e := h x List.mem_cons_self
    have ih := fm_congr (l := r) fun y hy => h y (List.mem_cons_of_mem _ hy)
    cases q : f x with
    | none => rw [List.filterMap_cons_none q, List.filterMap_cons_none (e ▸ q), ih]
    | some y => rw [List.filterMap_cons_some q, List.filterMap_cons_some (e ▸ q), ih]
theorem pick_back (xs : List Value) : (((List.range xs.length).filterMap fun (k : Nat) => xs.toArray[((xs.length : Int) - 1 + (k : Int) * (-1)).toNat]?)) = xs.reverse := by
  have e : (List.range xs.length).filterMap (fun (k : Nat) => xs.toArray[((xs.length : Int) - 1 + (k : Int) * (-1)).toNat]?) = (List.range xs.length).filterMap fun k => xs.reverse.toArray[0 + k]? := by
    refine fm_congr fun k hk => ?_
    have hk := List.mem_range.mp hk
    have : ((xs.length : Int) - 1 + (k : Int) * (-1)).toNat = xs.length - 1 - k := by omega
    rw [this]
    simp [List.getElem?_reverse hk]
  have p := pick_run xs.reverse.toArray 0 xs.length
  rw [List.filterMap_map] at p
  rw [e]
  refine p.trans ?_
  rw [List.drop_zero]
  exact List.take_of_length_le (by rw [List.length_reverse]; exact Nat.le_refl _)
section
variable {prog : Program} {w : World} {A : Around} {E : Value → Shared → Prop} {s : Shared}
theorem applied_back {sl : Addr} {t : Tok} {n : Nat} {Q : Int × Int × Nat → Shared → Prop} (hs : s.heap.IsSliceOf sl .none .none (.int (-1) t)) (h : Q ((n : Int) - 1, -1, n) s) : wpAny (model prog w) A (Builtin.Slice.sliceApplied (.ref sl) (pure (n : Int))) Q E s := by
  obtain ⟨os, hos, hcs, hds⟩ := id hs
  unfold Builtin.Slice.sliceApplied Builtin.Slice.sliceFields
  refine wpAny_bind (wpAny_bind (wpAny_field hos hds (x := .none) rfl (wpAny_bind (wpAny_field hos hds (x := .none) rfl (wpAny_bind (wpAny_field hos hds (x := .int (-1) t) rfl (wpAny_pure ?_)))))))
  refine wpAny_bind (HT.slicePart_ (o := some (-1)) (.int _ _) ?_)
  show wpAny _ _ (if ((-1 : Int) == 0) = true then _ else _) _ _ s
  rw [if_neg (by decide)]
  refine wpAny_bind (HT.slicePart_ .none (wpAny_bind (HT.slicePart_ .none (wpAny_bind (wpAny_pure ?_)))))
  show wpAny _ _ (match Builtin.Slice.sliceAdjust none none (-1) (n : Int) with | (lo, hi) => pure (lo, (-1 : Int), Builtin.Slice.slicePlaces lo hi (-1))) _ _ s
  rw [adjust_back]
  show wpAny _ _ (pure ((n : Int) - 1, (-1 : Int), Builtin.Slice.slicePlaces ((n : Int) - 1) (-1) (-1))) _ _ s
  rw [places_back]
  exact wpAny_pure h
theorem tuple_back {t sl : Addr} {its : List Value} {tk : Tok} {Q : Value → Shared → Prop} (ht : PyProof.Rows.IsTup s.heap t its.toArray) (hs : s.heap.IsSliceOf sl .none .none (.int (-1) tk)) (hz : its.length ≤ sizeLine)
    (h : Q (.ref s.heap.objs.size) { s with heap := s.heap.push { cls := .type "tuple", data := .seq its.reverse.toArray } }) : wpAny (model prog w) A (getItem (.ref t) (.ref sl)) Q E s := by
  have fit : sizeOk (.seq its.reverse.toArray) := by
    show its.reverse.toArray.size ≤ sizeLine
    rw [List.size_toArray, List.length_reverse]; exact hz
  obtain ⟨os, hos, hcs, hds⟩ := id hs
  unfold getItem
  try with_reducible refine wpAny_holding ?_
  first | refine wpAny_bind (wpAny_pure ?_) | skip
  refine wpAny_bind (wpAny_sequenceKey ht.typeIs (by decide) (wpAny_bind (wpAny_callSpecial?_slot (name := Str.ofString "__getitem__") ht.typeIs PyProof.Rows.slot_tuple_getitem (wpAny_call_entry PyProof.Rows.slot_tuple_getitem ht.typeIs entry_tuple_getitem ?_ (args_tuple_getitem _ _)))))
  show wpAny _ _ (Builtin.Tuple.tupleItemsOf (.ref t) >>= _) _ _ s
  refine wpAny_bind (tupleItemsOf_ ht (wpAny_bind (wpAny_typeOf (T := "slice") ⟨os, hos, hcs⟩ ?_)))
  rw [if_pos (by decide)]
  refine wpAny_bind (applied_back hs ?_)
  have no : ¬ ((((its.toArray.size : Int) - 1) == 0 && (-1 : Int) == 1 && its.toArray.size == its.toArray.size) = true) := by simp
  show wpAny _ _ (if ((((its.toArray.size : Int) - 1) == 0 && (-1 : Int) == 1 && its.toArray.size == its.toArray.size)) = true then _ else _) _ _ s
  rw [if_neg no]
  have pk : ((List.range its.toArray.size).filterMap fun (k : Nat) => its.toArray[((its.toArray.size : Int) - 1 + (k : Int) * (-1)).toNat]?).toArray = its.reverse.toArray := by
    rw [List.size_toArray, pick_back]
  rw [pk]
  first
    | exact wpAny_bind (m := Builtin.Tuple.tupleExact _) (wpAny_newObj_type (wpAny_pure ⟨_, rfl, wpAny_pure h⟩) fit)
    | exact wpAny_bind (m := Builtin.Tuple.tupleExact _) (wpAny_newObj_type (wpAny_bind (wpAny_pure (wpAny_pure ⟨_, rfl, wpAny_pure h⟩))) fit)
    | exact wpAny_bind (wpAny_bind (m := Builtin.Tuple.tupleExact _) (wpAny_newObj_type (wpAny_pure (wpAny_pure ⟨_, rfl, wpAny_pure h⟩)) fit))
    | exact wpAny_bind (wpAny_bind (m := Builtin.Tuple.tupleExact _) (wpAny_newObj_type (wpAny_pure ⟨_, rfl, wpAny_pure h⟩) fit))
end
def tRevT (K : PySem.W.Frag) (te : TE) : TE := fun σ H Q => te σ H fun x H1 => ∃ a xs, x = .ref a ∧ SqT K H1 a xs ∧ ∀ p, H1 p = none → Q (.ref p) (upd H1 p (.tup xs.reverse))
/-- t[::-1] of a tuple -/
theorem pe_revT {X : Cx} {e : Expr} {te : TE} {k : Nat} {p1 p2 p3 pos : Pos} (he : PE X e te) : PE X (.Subscript e (.Slice none none (some (.UnaryOp .USub (.Constant (.int 1) k p1) p2)) p3) pos) (tRevT X.K te) := by
  refine ⟨fun pins s σ H Q I h => Subscript_ (thn (he.run pins s σ H _ I h) fun v s1 ⟨x, H1, I1, r1, q1⟩ => ?_)⟩
  obtain ⟨a, xs, ex, hx, q⟩ := q1
  subst ex
  cases r1
  have hst : PO X (some (.UnaryOp .USub (.Constant (.int 1) k p1) p2)) (tPart (tUn (rU fun i => .int (-i)) (tC (.int 1)))) := po_some (pe_un un_neg pe_int)
  refine wpAny_Slice (thn (po_none.run pins s1 σ H1 (fun o H2 => o = none ∧ H2 = H1) I1 ⟨rfl, rfl⟩) fun vl s2 ⟨l, H2, I2, pl, el, e2⟩ => ?_)
  subst el e2
  refine thn (po_none.run pins s2 σ H2 (fun o H3 => o = none ∧ H3 = H2) I2 ⟨rfl, rfl⟩) fun vu s3 ⟨u, H3, I3, pu, eu, e3⟩ => ?_
  subst eu e3
  refine thn (hst.run pins s3 σ H3 (fun o H4 => o = some (-1) ∧ H4 = H3) I3 ⟨1, rfl, -1, rfl, rfl, rfl⟩) fun vs s4 ⟨o, H4, I4, ps, eo, e4⟩ => ?_
  subst eo e4
  have I5 : Inv X pins σ H4 { s4 with heap := s4.heap.push { cls := .type "slice", data := .fields #[vl, vu, vs] } } := I4.kept (t' := s4.toks) fun b ob q => Heap.get?_push_of_some _ q
  cases pl
  cases pu
  cases ps
  obtain ⟨its, r, ht, hz⟩ := I5.tuple hx
  have hlen := r.length
  refine tail_any (ops := [.ref a, .ref s4.heap.objs.size]) ht.typeIs (PyProof.Rows.slot_tuple_getitem.lookup) (tuple_back ht (Heap.IsSliceOf.new ..) (by omega) ?_) (by with_unfolding_all rfl)
  refine ⟨.ref _, _, I5.laid (t' := s4.toks) (o := .tup xs.reverse) (fun b ob q => Heap.get?_push_of_some _ q) (Nat.le_refl _) ?_, rfl, q _ (I5.hok.fresh (Nat.le_refl _))⟩
  exact ⟨by rw [List.length_reverse]; exact hz, _, r.reverse, IsTup.new _ _⟩
/-- a list is extended by a tuple -/
theorem extend_meets (l b : Addr) (xs ys : Array Value) (n m : Nat) (od : Option Addr) (os : Array (Option Value)) (long : ¬ (!xs.isEmpty && Builtin.List.listTooLong (xs.size + ys.size)) = true) (hx : xs.size ≤ sizeLine) (hxy : (xs ++ ys).size ≤ sizeLine + 1) :
    Meets (Builtin.«list.extend» ⟨[.ref l, .ref b], []⟩) (fun _ R s => s.heap.get? l = some { cls := .type "list", dict := none, data := .seq xs n, slots := #[] } ∧ s.heap.get? b = some { cls := .type "tuple", dict := od, data := .seq ys m, slots := os } ∧
      R (.ok (.ret Value.none)) { s with heap := s.heap.update l (Obj.mapSeq (· ++ ys)) }) :=
  .of_wp fun prog w A R s h => by
    obtain ⟨hp, g, d, tk, o⟩ := s
    obtain ⟨hl, hb, h⟩ := h
    have f1 := AutoSeq1.idx_int
    have f2 := AutoSeq1.sub_tuple_tuple
    have f3 := AutoSeq1.sub_list_list
    have f4 := AutoSeq1.sub_tuple_list
    wp_walk using (wpAny_updateSeq hl rfl (hz := hx) (_hz' := hxy)), wpAny_loadPart' hl, wpAny_loadPart' hb
    exact ⟨_, rfl, h⟩
def rExtT (K : PySem.W.Frag) : V → List V → Hp → VK → Prop := fun x vs H Q => ∃ l b xs zs, x = .ref l ∧ vs = [.ref b] ∧ H l = some (.lst xs) ∧ SqT K H b zs ∧ xs.length + zs.length ≤ sizeLine ∧ Q .non (upd H l (.lst (xs ++ zs)))
theorem mt_extendT {X : Cx} : MtM X "list.extend" (rExtT X.K) := by
  intro pins s σ H x vs v us Q I rx rv h
  obtain ⟨l, b, xs, zs, rfl, rfl, hH, hB, hz, q⟩ := h
  cases rx
  obtain ⟨u, rfl, ru⟩ := rv.one
  cases ru
  obtain ⟨z, its, n, r, hl, e⟩ := I.lstM hH
  obtain ⟨its2, r2, ⟨o, ho, hc, n2, hd⟩, _⟩ := I.tuple hB
  obtain ⟨oc, od, odt, osl⟩ := o
  cases hc
  cases hd
  have l2 := r2.length
  have hsz : its.toArray.size + its2.toArray.size ≤ sizeLine := by rw [List.size_toArray, List.size_toArray]; omega
  have long : ¬ (!its.toArray.isEmpty && Builtin.List.listTooLong (its.toArray.size + its2.toArray.size)) = true := by
    rw [notLongL hsz, Bool.and_false]
    exact Bool.false_ne_true
  refine call_meets F.slot_list_extend ⟨_, e, rfl⟩ F.entry_list_extend (F.args_list_extend_2 _ _) (extend_meets l b its.toArray its2.toArray n n2 od osl long (by rw [List.size_toArray]; omega) (by rw [Array.size_append]; omega)) ⟨e, ho, ?_⟩
  refine ⟨.non, _, I.lset (its' := its ++ its2) hH e (by simp) (r.append r2) ?_, rfl, q⟩
  rw [List.length_append]
  omega
end PKZ
namespace PKZ
open PySem PySem.Spec PyProof.Rows L2
/-! dict(zip(e, e2)) -/
theorem zip_nokeys : typeLookup (.type "zip") "keys" = pure none := by
  rw [typeLookup_type, builtinLookup_eq_fast]; kernel_rfl
theorem zip_nogetattr : typeLookup (.type "zip") "__getattr__" = pure none := by
  rw [typeLookup_type, builtinLookup_eq_fast]; kernel_rfl
theorem zip_getattribute : entryFor table "zip.__getattribute__" = some Builtin.«object.__getattribute__» :=
  entryFor_alias (id' := "object.__getattribute__") (by kernel_rfl) (by decide +kernel) (by decide +kernel) (by kernel_rfl)
set_option maxRecDepth 8000 in
theorem zip_miss (a : Addr) (vs : Array Value) (u : Tok) :
    Meets (Builtin.«object.__getattribute__» ⟨[.ref a, .str "keys" u], []⟩) (fun A R s => s.heap.get? a = some { cls := .type "zip", dict := none, data := .fields vs, slots := #[] } ∧ raisesAttr (.ref a) "keys" A R s) :=
  Meets.of_wp fun prog w A R s hs => by
    obtain ⟨hp, g, d, tk, os⟩ := s
    obtain ⟨hx, hs⟩ := hs
    have hT : (⟨hp, g, d, tk, os⟩ : Shared).TypeIs (.ref a) "zip" := ⟨_, hx, rfl⟩
    have hmiss := zip_nokeys
    have hname : (["__module__", "__name__", "__qualname__", "__doc__", "__annotations__"] : List Str).contains "keys" = false := by decide +kernel
    have hsz : ("keys" : Str).length + 100 ≤ sizeLine := by first | size_fits | decide +kernel
    unfold Builtin.«object.__getattribute__»
    repeat (any_goals (first | assumption | wp_step))
    try simp only [hname, Bool.false_eq_true, if_false]
    repeat (any_goals (first | assumption | wp_step))
    exact wpAny_raiseAttrError hs.1 hs.2 (attrMsg_fits (by decide +kernel) hsz)
section
variable {prog : Program} {w : World} {A : Around} {E : Value → Shared → Prop}
set_option maxRecDepth 8000 in
theorem zip_has_no_keys {s : Shared} {a : Addr} {vs : Array Value} {Q : Option Value → Shared → Prop} (hx : s.heap.get? a = some { cls := .type "zip", dict := none, data := .fields vs, slots := #[] }) (hA : A.handled = none)
    (h : ∀ h' tk, (∀ b ob, s.heap.get? b = some ob → h'.get? b = some ob) → Q none { s with heap := h', toks := tk }) : wpAny (model prog w) A (getAttr? (.ref a) "keys") Q E s := by
  obtain ⟨hp, g, d, tk, os⟩ := s
  have hT : ∀ tk', (⟨hp, g, d, tk', os⟩ : Shared).TypeIs (.ref a) "zip" := fun _ => ⟨_, hx, rfl⟩
  have f1 := sub_AttributeError
  have f3 := PySem.F.slot_zip_getattribute.lookup
  have f4 := PySem.F.slot_zip_getattribute.bind (.ref a)
  have f5 := zip_nogetattr
  unfold getAttr? getAttrBy? getAttrBy
  repeat (any_goals (first | assumption | exact hT _ | ((with_reducible show wpAny _ _ (call (Value.builtin "zip.__getattribute__") _ _) _ _ _); refine call_meets PySem.F.slot_zip_getattribute (hT _) zip_getattribute (PySem.F.args_zip_getattribute_2 _ _) (zip_miss _ _ _) ⟨hx, hA, fun h' tk' e hx' => ?_⟩) | wp_step))
  obtain ⟨t', u', he⟩ := hx'.there
  show wpAny _ _ (getattributeRaised _ _ _ _ _ _ _) _ _ _
  unfold getattributeRaised
  repeat (any_goals (first | assumption | wp_step))
  all_goals first | exact h _ _ hx'.keeps | (dsimp only; repeat (any_goals (first | assumption | exact h _ _ hx'.keeps | wp_step)))
end
end PKZ
namespace PKZ
open PySem PySem.Spec PyProof.Rows L2
section
variable {prog : Program} {w : World} {A : Around} {E : Value → Shared → Prop} {ka kb : Kd} {z TI TO i1 i2 l1 l2 S : Addr} {xs ys : Array Value}
theorem dz_loop {R : Result → Shared → Prop} {res : Value} (hh : A.handled = none) (D : ZipApart z TI TO i1 i2 l1 l2) (hS : S ≠ z ∧ S ≠ TI ∧ S ≠ TO ∧ S ≠ i1 ∧ S ≠ i2 ∧ S ≠ l1 ∧ S ≠ l2) :
    ∀ (rest : List (Key × Value)) (i : Nat) (acc : List (Key × Value)) (ix : Int) (t : Tok) (s : Shared), (∀ (j : Nat) (q : Key × Value), rest[j]? = some q → ∃ u, xs[i + j]? = some u ∧ ys[i + j]? = some q.2 ∧ keyIs q.1 u = true) →
      min xs.size ys.size = i + rest.length → acc.length + rest.length ≤ sizeLine → ZSt ka kb z TI TO i1 i2 l1 l2 xs ys i s.heap → s.heap.DictOf (mixKind prog w) S acc →
      (∀ h' tk, h'.DictOf (mixKind prog w) S (merged acc rest) → (∀ b o, b ≠ S → b ≠ z → b ≠ TO → b ≠ i1 → b ≠ i2 → s.heap.get? b = some o → h'.get? b = some o) → R (.ok (.ret res)) { s with heap := h', toks := tk }) →
      codeAny (model prog w) A (.builtin "dict.update.loop" ⟨[.ref S, .ref z, .int ix t, res], []⟩) R s
  | [], i, acc, ix, t, s, hp, hn, hl, Z, hd, hR => by
    refine codeAny_builtin ud_entry ?_
    (rw [Around.under_plainId ud_plain])
    show wpAny _ A.in1 (pyNext (.ref z) >>= _) _ _ s
    have hend : xs[i]? = none ∨ ys[i]? = none := by
      have hn : min xs.size ys.size = i := hn
      rcases Nat.le_total xs.size ys.size with q | q
      · exact .inl (Array.getElem?_eq_none (by omega))
      · exact .inr (Array.getElem?_eq_none (by omega))
    refine wpAny_bind (zst_done (A := A.in1) hh D Z hend fun h' e => ?_)
    show wpAny _ A.in1 (Builtin.Dict.addKeywords S [] >>= _) _ _ _
    refine wpAny_bind (wpAny_pure (wpAny_pure (hR h' s.toks (hd.at fun o q => e _ o hS.1 hS.2.2.1 hS.2.2.2.1 hS.2.2.2.2.1 q) fun b o _ b2 b3 b4 b5 q => e b o b2 b3 b4 b5 q)))
  | p :: rest, i, acc, ix, t, s, hp, hn, hl, Z, hd, hR => by
    obtain ⟨u, hu, hv, hk⟩ := hp 0 p rfl
    rw [List.length_cons] at hn hl
    refine codeAny_builtin ud_entry ?_
    (rw [Around.under_plainId ud_plain])
    show wpAny _ A.in1 (pyNext (.ref z) >>= _) _ _ s
    refine wpAny_bind (zst_item (A := A.in1) D Z (by simpa using hu) (by simpa using hv) fun h1 Z1 pr sz e => ?_)
    have hd1 : h1.DictOf (mixKind prog w) S acc := hd.at fun o q => e _ o hS.1 hS.2.2.1 hS.2.2.2.1 hS.2.2.2.2.1 q
    show wpAny _ A.in1 (holding [Value.ref s.heap.objs.size] _ >>= _) _ _ _
    refine wpAny_bind (wpAny_holding (wpAny_bind (wpAny_tryCatch ?_)))
    unfold Builtin.Dict.pairItems
    refine wpAny_bind (wpAny_typeOf (T := "tuple") ⟨_, pr, rfl⟩ ?_)
    rw [if_pos (by first | decide | rfl | simp)]
    refine wpAny_bind (wpAny_seqItems pr rfl (wpAny_pure ?_))
    show wpAny _ A.in1 (holding [u, p.2] (dictSet S u p.2)) _ _ _
    refine wpAny_holding (wpAny_dictSet_pairs (knd := mixKind prog w) (k := p.1) hk hd1 (fun h2 hd2 e2 => ?_) (by omega))
    have kS : ∀ o, h1.get? S = some o → ∃ o', h2.get? S = some o' := fun o q => let ⟨q', _, _, hq, _⟩ := hd2; ⟨q', hq⟩
    refine wpAny_pure ⟨plainId_quiet ud_plain _, dz_loop hh D hS rest (i + 1) (stored acc p.1 p.2) (ix + 1) 0 _ (fun j q' h => ?_) (by omega) ?_ (Z1.keep hS (fun b o hb q => e2.extBut b o hb q) kS) hd2 fun h' tk hd' k => ?_⟩
    · obtain ⟨u', a1, a2, a3⟩ := hp (j + 1) q' (by simpa using h)
      exact ⟨u', by rw [show i + 1 + j = i + (j + 1) by omega]; exact a1, by rw [show i + 1 + j = i + (j + 1) by omega]; exact a2, a3⟩
    · have := stored_length_le acc p.1 p.2
      omega
    · exact hR h' tk hd' fun b o b1 b2 b3 b4 b5 q => k b o b1 b2 b3 b4 b5 (e2.extBut b o b1 (e b o b2 b3 b4 b5 q))
theorem dz_call {s : Shared} {prs : List (Key × Value)} {Q : Value → Shared → Prop} (hh : A.handled = none) (D : ZipApart z TI TO i1 i2 l1 l2) (Z : ZSt ka kb z TI TO i1 i2 l1 l2 xs ys 0 s.heap) (zo : Zo s.heap z TI TO .none false)
    (lTI : TI < s.heap.objs.size) (l1l : l1 < s.heap.objs.size) (l2l : l2 < s.heap.objs.size) (hp : ∀ (j : Nat) (q : Key × Value), prs[j]? = some q → ∃ u, xs[j]? = some u ∧ ys[j]? = some q.2 ∧ keyIs q.1 u = true) (hn : min xs.size ys.size = prs.length) (hl : prs.length ≤ sizeLine)
    (hQ : ∀ h' tk, h'.DictOf (mixKind prog w) s.heap.objs.size (merged [] prs) → (∀ b o, b ≠ z → b ≠ TO → b ≠ i1 → b ≠ i2 → s.heap.get? b = some o → h'.get? b = some o) → Q (.ref s.heap.objs.size) { s with heap := h', toks := tk }) :
    wpAny (model prog w) A (call (.type "dict") [.ref z]) Q E s := by
  have zl : z < s.heap.objs.size := Heap.lt_size zo
  have TOl : TO < s.heap.objs.size := by obtain ⟨_, _, q⟩ := Z.to; exact Heap.lt_size q
  have i1l : i1 < s.heap.objs.size := by obtain ⟨o, q, _⟩ := Kd.it_get Z.it1; exact Heap.lt_size q
  have i2l : i2 < s.heap.objs.size := by obtain ⟨o, q, _⟩ := Kd.it_get Z.it2; exact Heap.lt_size q
  refine callType_codes (Q₁ := fun obj s₁ => obj = .ref s.heap.objs.size ∧ s₁ = { s with heap := s.heap.push { cls := .type "dict", data := .dict #[] } }) PySem.F.kt_called_dict (PySem.F.kt_typeCall_dict_1 _) PySem.F.entry_dict_init (kt_code_dict_new _ ⟨rfl, rfl⟩) fun obj s₁ h₁ => ?_
  obtain ⟨rfl, rfl⟩ := h₁
  refine ⟨⟨_, Heap.get?_push_size _ rfl, rfl⟩, PySem.F.args_dict_init_2 _ _, ?_⟩
  have hnew : (s.heap.push { cls := .type "dict", data := .dict #[] }).DictOf (mixKind prog w) s.heap.objs.size [] := Heap.DictOf.new s.heap
  unfold Builtin.«dict.__init__»
  refine wpAny_bind ?_
  unfold Builtin.Dict.selfAndRest
  refine wpAny_bind (wpAny_notOrdered_dict hnew.typeIs ?_)
  show wpAny _ _ (pure (s.heap.objs.size, [Value.ref z])) _ _ _
  refine wpAny_pure ?_
  show wpAny _ _ (Builtin.Dict.updateFrom "dict.__init__" s.heap.objs.size (.ref z) [] .none) _ _ _
  unfold Builtin.Dict.updateFrom
  have kp : ∀ b o, s.heap.get? b = some o → (s.heap.push { cls := .type "dict", data := .dict #[] }).get? b = some o := fun b o e => Heap.get?_push_of_some _ e
  refine wpAny_bind (wpAny_typeOf (T := "zip") ⟨_, kp _ _ zo, rfl⟩ ?_)
  rw [if_pos (by first | decide | rfl | simp)]
  refine wpAny_bind (zip_has_no_keys (kp _ _ zo) hh fun h1 tk1 k1 => ?_)
  simp only [Option.isNone_none, if_true]
  refine wpAny_bind (wpAny_rule ?_)
  have k2 : ∀ b o, s.heap.get? b = some o → h1.get? b = some o := fun b o e => k1 b o (kp b o e)
  refine wpAny_bind (wpAny_pyIter_zip (k2 _ _ zo) ?_)
  refine wpAny_pure ⟨plainId_quiet ud_plain _, ?_⟩
  have ne : ∀ b, b < s.heap.objs.size → s.heap.objs.size ≠ b := fun b h => Ne.symm (Nat.ne_of_lt h)
  refine dz_loop (w := w) (prog := prog) (A := A.in1) (s := ⟨h1, _, _, _, _⟩) (ka := ka) (kb := kb) (xs := xs) (ys := ys) hh D ⟨ne _ zl, ne _ lTI, ne _ TOl, ne _ i1l, ne _ i2l, ne _ l1l, ne _ l2l⟩ prs 0 [] _ _ (fun j q e => ?_) ?_ ?_ ?_ ?_ fun h' tk hd' k => ?_
  · obtain ⟨u, a1, a2, a3⟩ := hp j q e
    exact ⟨u, by rw [Nat.zero_add]; exact a1, by rw [Nat.zero_add]; exact a2, a3⟩
  · rw [Nat.zero_add]; exact hn
  · show 0 + prs.length ≤ sizeLine
    rw [Nat.zero_add]; exact hl
  · exact Z.keep ⟨ne _ zl, ne _ lTI, ne _ TOl, ne _ i1l, ne _ i2l, ne _ l1l, ne _ l2l⟩ (fun b o _ q => k2 b o q) fun o q => absurd (Heap.lt_size q) (Nat.lt_irrefl _)
  · exact hnew.at fun o q => k1 _ o q
  · exact ⟨rfl, hQ h' tk hd' fun b o b1 b2 b3 b4 q => k b o (Nat.ne_of_lt (Heap.lt_size q)) b1 b2 b3 b4 (k2 b o q)⟩
end
end PKZ
namespace PKZ
open PySem PySem.Spec PyProof.Rows L2
def rDictZip (K : PySem.W.Frag) : List V → Hp → VK → Prop := fun vs H Q => ∃ (a b : Addr) (ks : List Key) (ys : List V), vs = [.ref a, .ref b] ∧ Sq2 K H a (ks.map kV) ∧ Sq2 K H b ys ∧ min ks.length ys.length ≤ sizeLine ∧
  ∀ p, H p = none → Q (.ref p) (upd H p (.dK (mergeK [] (ks.zip ys))))
def tDictZip (K : PySem.W.Frag) (ta : TA) : TE := fun σ H Q => ta σ H fun vs H1 => rDictZip K vs H1 Q
theorem kv_zip {X : Cx} : ∀ {ks : List Key} {ys : List V} {ia ib : List Value}, Vals (ks.map kV) ia → Vals ys ib →
    ∃ prs : List (Key × Value), KV (ks.zip ys) prs ∧ min ia.length ib.length = prs.length ∧ ∀ (j : Nat) (q : Key × Value), prs[j]? = some q → ∃ u, ia[j]? = some u ∧ ib[j]? = some q.2 ∧ keyIs q.1 u = true
  | [], ys, ia, ib, va, vb => by
    cases va
    exact ⟨[], by rw [List.zip_nil_left]; exact .nil, by simp, fun j q e => by simp at e⟩
  | k :: ks, [], ia, ib, va, vb => by
    cases vb
    exact ⟨[], by rw [List.zip_nil_right]; exact .nil, by simp, fun j q e => by simp at e⟩
  | k :: ks, y :: ys, ia, ib, va, vb => by
    rw [List.map_cons] at va
    cases va with
    | cons r t => cases vb with
      | cons r2 t2 =>
        rename_i u us u2 us2
        obtain ⟨prs, k1, k2, k3⟩ := kv_zip (X := X) t t2
        refine ⟨(k, u2) :: prs, ?_, ?_, fun j q e => ?_⟩
        · rw [List.zip_cons_cons]
          exact .cons ⟨rfl, r2⟩ k1
        · rw [List.length_cons, List.length_cons, List.length_cons, ← k2]
          omega
        · cases j with
          | zero =>
            have e' : (k, u2) = q := Option.some.inj e
            subst e'
            exact ⟨u, rfl, rfl, kV_is (P := X.prog) (w := X.w) r⟩
          | succ j =>
            obtain ⟨b, e1, e2, e3⟩ := k3 j q (by simpa using e)
            exact ⟨b, by simpa using e1, by simpa using e2, e3⟩
/-- dict(zip(e, e2)) -/
theorem pe_dictZip {X : Cx} {e e2 : Expr} {ta : TA} {p p2 pos pos2 : Pos} (hc : X.calm = true) (hg : Gl X "dict") (hm : X.mg "dict" = none) (hv : bootBuiltins "dict" = some (.type "dict")) (hg2 : Gl X "zip") (hm2 : X.mg "zip" = none) (ha : PA X [e, e2] ta)
    (hs : starEach [.Call (.Name "zip" p2) [e, e2] [] pos2] X.env = (false, eval (.Call (.Name "zip" p2) [e, e2] [] pos2) X.env) :: starEach [] X.env := by rfl)
    (hs2 : starEach [e, e2] X.env = (false, eval e X.env) :: starEach [e2] X.env := by rfl) (hpl : (backTo pos2 (starEach [e2] X.env)).any (·.1) = false := by rfl) :
    PE X (.Call (.Name "dict" p) [.Call (.Name "zip" p2) [e, e2] [] pos2] [] pos) (tDictZip X.K ta) := by
  refine ⟨fun pins s σ H Q I hq => ?_⟩
  refine wpAny_Call_Name_kw (ld_blt I hg hm hv (PyProof.Rows.callWith_type1 ?_ hs rfl))
  rw [hs]
  show wpAny _ _ (spliced ((false, eval (.Call (.Name "zip" p2) [e, e2] [] pos2) X.env) :: backTo pos (starEach [] X.env))) _ _ s
  refine Calls.spliced_cons (Call_ (ld_blt I hg2 hm2 PyProof.Rows.boot_zip (PyProof.Rows.callWith_type1 (thn (ha.run pos2 pins s σ H _ I hq) fun us s1 ⟨vs, H1, I1, r1, q1⟩ => ?_) hs2 hpl)))
  obtain ⟨a, b, ks, ys, rfl, qa, qb, hmin, q⟩ := q1
  obtain ⟨u, us, rfl, ru, rr⟩ : ∃ u us', us = u :: us' ∧ RelV (V.ref a) u ∧ Vals [V.ref b] us' := by cases r1 with | cons r t => exact ⟨_, _, rfl, r, t⟩
  obtain ⟨u2, rfl, ru2⟩ : ∃ u2, us = [u2] ∧ RelV (V.ref b) u2 := by cases rr with | cons r t => cases t; exact ⟨_, rfl, r⟩
  obtain rfl : u = Value.ref a := ru
  obtain rfl : u2 = Value.ref b := ru2
  obtain ⟨ka, ia, va, sa⟩ := sq_of I1 qa
  obtain ⟨kb, ib, vb, sb⟩ := sq_of I1 qb
  have la := va.length
  rw [List.length_map] at la
  have lb := vb.length
  obtain ⟨prs, rel, hl, hpr⟩ := kv_zip (X := X) va vb
  have hlen : prs.length ≤ sizeLine := by rw [← hl, ← la, ← lb]; exact hmin
  refine call_zg sa sb fun g Z zo sz kp => Calls.spliced_nil ?_
  have hal := Kd.sq_lt sa
  have hbl := Kd.sq_lt sb
  have hS : s1.heap.objs.size ≤ g.objs.size := by rw [sz]; exact Nat.le_add_right _ _
  refine dz_call (s := { s1 with heap := g }) (prs := prs) (I1.ok.hd hc) (PySem.W.ktu_apart s1.heap.objs.size a b hal hbl) Z zo (Heap.lt_size Z.ti) (Nat.lt_of_lt_of_le hal hS) (Nat.lt_of_lt_of_le hbl hS) (fun j q e => ?_) (by rw [List.size_toArray, List.size_toArray]; exact hl) hlen fun h' tk hd' k => ?_
  · obtain ⟨u, e1, e2, e3⟩ := hpr j q e
    exact ⟨u, by simpa using e1, by simpa using e2, e3⟩
  · dsimp only at hd' k ⊢
    have hk : ∀ b o, s1.heap.get? b = some o → h'.get? b = some o := fun b o e => by
      have lt := Heap.lt_size e
      exact k b o (Nat.ne_of_lt (Nat.lt_of_lt_of_le lt (Nat.le_add_right _ _))) (Nat.ne_of_lt (Nat.lt_of_lt_of_le lt (Nat.le_add_right _ _))) (Nat.ne_of_lt lt) (Nat.ne_of_lt (Nat.lt_of_lt_of_le lt (Nat.le_add_right _ _))) (kp _ _ e)
    have nS : H1 g.objs.size = none := I1.hok.fresh hS
    have hm : (g.objs.size == sysModules) = false := beq_eq_false_iff_ne.mpr (Nat.ne_of_gt (Nat.lt_of_lt_of_le I1.big hS))
    have hz : (mergeK [] (ks.zip ys)).length ≤ sizeLine := by
      refine Nat.le_trans (length_mergeK _ []) ?_
      rw [List.length_nil, Nat.zero_add, rel.length]
      exact hlen
    exact ⟨.ref g.objs.size, upd H1 g.objs.size (.dK (mergeK [] (ks.zip ys))), I1.laid (t' := tk) hk hS (show ObjOk X.prog X.w _ _ _ (.dK (mergeK [] (ks.zip ys))) from ⟨hz, hm, merged [] prs, KV.merge rel .nil, hd'⟩), rfl, q _ nS⟩
end PKZ
/-! del xs[-m:], m from 1 to the length: the list's last m items go -/
namespace L2.PKR
open PySem PySem.Spec PyProof.Rows
theorem keep_first {sel : Nat → Bool} {a : Nat} : ∀ (its : List Value) (j : Nat), (∀ k, k < j + its.length → sel k = decide (a ≤ k)) →
    (its.zipIdx j).filterMap (fun p => if sel p.2 = true then none else some p.1) = its.take (a - j)
  | [], _, _ => by simp
  | x :: r, j, h => by
    have ih := keep_first r (j + 1) (fun k hk => h k (by rw [List.length_cons]; omega))
    have e := h j (by rw [List.length_cons]; omega)
    rw [List.zipIdx_cons]
    by_cases q : a ≤ j
    · rw [decide_eq_true q] at e
      rw [List.filterMap_cons_none (by simp only [e, if_true]), ih, show a - (j + 1) = 0 by omega, show a - j = 0 by omega, List.take_zero, List.take_zero]
    · rw [decide_eq_false q] at e
      rw [List.filterMap_cons_some (b := x) (by simp only [e]; rfl), ih, show a - j = (a - (j + 1)) + 1 by omega, List.take_succ_cons]
theorem tail_bounds {m n : Nat} (h : m ≤ n) (h0 : 0 < m) : sliceBounds (some (-(m : Int))) none none n = (((n - m : Nat) : Int), (n : Int), 1) := by
  simp only [sliceBounds, Option.getD_none]
  have h1 : (-(m : Int)) < 0 := by omega
  simp only [h1, if_true, show (1 : Int) > 0 by decide]
  congr 1
  omega
section
variable {prog : Program} {w : World} {A : Around} {E : Value → Shared → Prop} {s : Shared}
theorem del_tail {l sl : Addr} {its : List Value} {n m : Nat} {vl : Value} {Q : Unit → Shared → Prop} (e : s.heap.get? l = some { cls := .type "list", data := .seq its.toArray n }) (hs : s.heap.IsSliceOf sl vl .none .none)
    (pl : IsPart vl (some (-(m : Int)))) (h0 : 0 < m) (hm : m ≤ its.length) (hz : its.length ≤ sizeLine)
    (h : ∀ f : Array Value → Array Value, f its.toArray = (its.take (its.length - m)).toArray → Q () { s with heap := s.heap.update l (Obj.mapSeq f) }) : wpAny (model prog w) A (delItem (.ref l) (.ref sl)) Q E s := by
  have hl : s.heap.IsList l its.toArray := PySem.IsL.isList e
  obtain ⟨os, hos, hcs, hds⟩ := id hs
  have ty : s.TypeIs (.ref sl) "slice" := ⟨os, hos, hcs⟩
  refine wpAny_delItem_slot hl.typeIs (by decide) F.slot_list_delitem (wpAny_call_entry F.slot_list_delitem hl.typeIs F.entry_list_delitem ?_ (F.args_list_delitem_2 _ _))
  show wpAny _ _ (Builtin.List.listSubscript? (.ref sl) >>= _) _ _ s
  unfold Builtin.List.listSubscript?
  refine wpAny_bind (wpAny_bind (wpAny_specialOf ty slice_no_index ?_))
  simp only [Option.isNone_none, if_true]
  refine wpAny_pure ?_
  show wpAny _ _ (typeOf (.ref sl) >>= _) _ _ s
  refine wpAny_bind (wpAny_typeOf ty ?_)
  first | (rw [if_neg (by decide)]) | (refine PySem.W.KFB.if_not (by decide) ?_)
  rw [listSliceParts_eq]
  refine wpAny_bind (wpAny_bind (wpAny_field hos hds (x := .none) rfl (wpAny_bind (wpAny_listPart .none ?_)))); rw [if_neg (show ¬ ((rawPart none == rawInt 0) = true) from Bool.false_ne_true)]
  refine wpAny_bind (wpAny_field hos hds (x := vl) rfl (wpAny_bind (wpAny_listPart pl (wpAny_bind (wpAny_field hos hds (x := .none) rfl (wpAny_bind (wpAny_listPart .none (wpAny_pure ?_))))))))
  unfold Builtin.List.listItems
  refine wpAny_bind (wpAny_bind (wpAny_seqItems e rfl (wpAny_pure ?_)))
  refine wpAny_bind (wpAny_of_eq ((sliceIndices_raw (some (-(m : Int))) none none its.toArray.size (by simp)).trans (congrArg (pure : Int × Int × Int → Sem (Int × Int × Int)) (tail_bounds (n := its.toArray.size) (by simpa using hm) h0))) ?_)
  refine wpAny_bind (wpAny_rule ?_)
  have lt : its.toArray.size = its.length := List.size_toArray
  show wpAny _ _ (updateSeq l _ >>= _) _ _ _
  refine wpAny_bind (wpAny_updateSeq (hz := by rw [lt]; exact hz) (_hz' := ?fit) e rfl (wpAny_bind (wpAny_letGo (wpAny_pure ⟨.none, rfl, h _ (congrArg List.toArray ?same)⟩))))
  case fit =>
    rw [List.size_toArray]
    exact Nat.le_succ_of_le (Nat.le_trans (List.length_filterMap_le _ _) (by rw [List.length_zipIdx]; exact hz))
  case same =>
    refine (keep_first (a := its.length - m) its 0 fun k hk => ?_)
    show (if (1 : Int) > 0 then (decide (((its.toArray.size - m : Nat) : Int) ≤ (k : Int)) && decide ((k : Int) < (its.toArray.size : Int)) && (((k : Int) - ((its.toArray.size - m : Nat) : Int)) % 1 == 0)) else _) = _
    rw [if_pos (by decide), lt, Int.emod_one]
    have k2 : (k : Int) < (its.length : Int) := by omega
    rw [decide_eq_true k2, Bool.and_true]
    by_cases q : its.length - m ≤ k
    · rw [decide_eq_true q, decide_eq_true (show ((its.length - m : Nat) : Int) ≤ (k : Int) by omega)]; rfl
    · rw [decide_eq_false q, decide_eq_false (show ¬ ((its.length - m : Nat) : Int) ≤ (k : Int) by omega)]; rfl
end
def tDelTail (to ti : TE) : TS := fun D σ H => to σ H fun x H1 => ti σ H1 fun y H2 => ∃ (l : Addr) (xs : List V) (m : Nat), x = .ref l ∧ y = .int (-(m : Int)) ∧ H2 l = some (.lst xs) ∧ 0 < m ∧ m ≤ xs.length ∧ D.nx σ (upd H2 l (.lst (xs.take (xs.length - m))))
theorem ps_delTail {X : Cx} {o i : Expr} {to ti : TE} {p2 tpos pos : Pos} (ho : PE X o to) (hi : PE X i ti) : PS X (.Delete [.Subscript o (.Slice (some i) none none p2) tpos] pos) (tDelTail to ti) := by
  refine ⟨fun pins s σ H D I h => wpAny_Delete (wpAny_deleteEach_cons (wpAny_delete_Subscript (thn (ho.run pins s σ H _ I h) fun u s1 ⟨x, H1, I1, rx, q1⟩ => wpAny_Slice ?_)))⟩
  rw [evalPart_some]
  refine thn (hi.run pins s1 σ H1 _ I1 q1) fun v s2 ⟨y, H2, I2, ry, l, xs, m, ex, ey, hH, h0, hm, q2⟩ => ?_
  subst ex ey
  cases (show u = Value.ref l from rx)
  obtain ⟨t, rfl⟩ := (show ∃ t, v = Value.int (-(m : Int)) t from ry)
  rw [evalPart_none]
  refine wpAny_pure (wpAny_pure ?_)
  have I3 : Inv X pins σ H2 { s2 with heap := s2.heap.push { cls := .type "slice", data := .fields #[.int (-(m : Int)) t, .none, .none] } } := I2.kept (t' := s2.toks) fun b ob z => Heap.get?_push_of_some _ z
  obtain ⟨hz, its, n, r, hl, e⟩ := I3.lstM hH
  refine del_tail (m := m) e (Heap.IsSliceOf.new ..) (.int _ _) h0 (by omega) (by omega) fun f hf => wpAny_deleteEach_nil ⟨σ, _, I3.lset (its' := its.take (its.length - m)) (t' := s2.toks) hH e hf (by rw [← hl]; exact r.take _) (by rw [List.length_take]; omega), q2⟩
end L2.PKR
/-! What runs leaves every suspended generator alone that it could not have woken: shown by a run where those would come to nothing -/
namespace GenF
open PySem
def noGen (fs : List Frame) : Bool := fs.all fun F => match F with | .ret .. => true | .gen .. => false
def noGenE : End → Prop
  | .ret _ => True
  | .susp _ _ _ _ _ _ fs => noGen fs = true
def NoG : GenState → Prop
  | .suspended _ _ _ _ fs _ => noGen fs = true
  | _ => True
def IsSusp : GenState → Prop
  | .suspended .. => True
  | _ => False
/-- suspended where it was, but with nothing behind it -/
def pz : GenState → GenState
  | .suspended _ l c p fs cl => .suspended (fun _ => .unsupported "") l c p fs cl
  | x => x
abbrev Zs := Nat → Option GenState
def mixA (Z : Zs) (a : Array GenState) : Array GenState := a.mapIdx fun i x => (Z i).getD x
def mix (Z : Zs) (s : Shared) : Shared := { s with gens := mixA Z s.gens }
structure Good (Z : Zs) (a : Array GenState) : Prop where
  held : ∀ i x, Z i = some x → a[i]? = some (pz x) ∧ IsSusp x
  free : ∀ i x, Z i = none → a[i]? = some x → NoG x
theorem mixA_get {Z : Zs} {a : Array GenState} {i : Nat} : (mixA Z a)[i]? = a[i]?.map fun x => (Z i).getD x := by
  unfold mixA; rw [Array.getElem?_mapIdx]
theorem mixA_free {Z : Zs} {a : Array GenState} {i : Nat} (h : Z i = none) : (mixA Z a)[i]? = a[i]? := by
  rw [mixA_get, h]; simp
theorem mixA_held {Z : Zs} {a : Array GenState} {i : Nat} {x : GenState} (g : Good Z a) (h : Z i = some x) : (mixA Z a)[i]? = some x := by
  rw [mixA_get, (g.held i x h).1, h]; rfl
theorem mixA_size {Z : Zs} {a : Array GenState} : (mixA Z a).size = a.size := by unfold mixA; simp
theorem mixA_set {Z : Zs} {a : Array GenState} {g : Nat} {x : GenState} (h : Z g = none) : mixA Z (a.setIfInBounds g x) = (mixA Z a).setIfInBounds g x := by
  apply Array.ext_getElem?
  intro i
  rw [mixA_get, Array.getElem?_setIfInBounds, Array.getElem?_setIfInBounds, mixA_get, mixA_size]
  by_cases e : g = i
  · subst e
    rw [if_pos rfl, if_pos rfl, h]
    split <;> rfl
  · rw [if_neg e, if_neg e]
theorem mixA_push {Z : Zs} {a : Array GenState} {x : GenState} (h : Z a.size = none) : mixA Z (a.push x) = (mixA Z a).push x := by
  apply Array.ext_getElem?
  intro i
  rw [mixA_get, Array.getElem?_push, Array.getElem?_push, mixA_get, mixA_size]
  by_cases e : i = a.size
  · subst e
    rw [if_pos rfl, if_pos rfl]
    simp [h]
  · rw [if_neg e, if_neg e]
theorem Good.none_of {Z : Zs} {a : Array GenState} {i : Nat} {x : GenState} (g : Good Z a) (h : a[i]? = some x) (n : ∀ k l c p fs cl, x ≠ .suspended k l c p fs cl) : Z i = none := by
  cases e : Z i with
  | none => rfl
  | some y =>
    obtain ⟨h1, h2⟩ := g.held i y e
    rw [h] at h1
    cases y with
    | suspended k l c p fs cl => exact absurd (Option.some.inj h1) (n _ _ _ _ _ _)
    | _ => exact h2.elim
theorem Good.none_size {Z : Zs} {a : Array GenState} (g : Good Z a) : Z a.size = none := by
  cases e : Z a.size with
  | none => rfl
  | some y =>
    have h1 := (g.held _ y e).1
    rw [Array.getElem?_eq_none (Nat.le_refl _)] at h1
    cases h1
theorem Good.set {Z : Zs} {a : Array GenState} {i : Nat} {x : GenState} (g : Good Z a) (h : Z i = none) (n : NoG x) : Good Z (a.setIfInBounds i x) := by
  refine ⟨fun j y e => ⟨?_, (g.held j y e).2⟩, fun j y e q => ?_⟩
  · have : i ≠ j := fun q => by rw [q, e] at h; cases h
    rw [Array.getElem?_setIfInBounds, if_neg this]
    exact (g.held j y e).1
  · rw [Array.getElem?_setIfInBounds] at q
    by_cases q' : i = j
    · rw [if_pos q'] at q
      split at q
      · cases q; exact n
      · cases q
    · rw [if_neg q'] at q
      exact g.free j y e q
theorem Good.push {Z : Zs} {a : Array GenState} {x : GenState} (g : Good Z a) (n : NoG x) : Good Z (a.push x) := by
  refine ⟨fun j y e => ⟨?_, (g.held j y e).2⟩, fun j y e q => ?_⟩
  · have h1 := (g.held j y e).1
    rw [Array.getElem?_push, if_neg, h1]
    intro q
    rw [q, Array.getElem?_eq_none (Nat.le_refl _)] at h1
    cases h1
  · rw [Array.getElem?_push] at q
    split at q
    · cases q; exact n
    · exact g.free j y e q
theorem mix_set {Z : Zs} {s : Shared} {g : Nat} {x : GenState} (h : Z g = none) : mix Z (s.setGen g x) = (mix Z s).setGen g x := by
  show ({ s with gens := mixA Z (s.gens.setIfInBounds g x) } : Shared) = { s with gens := (mixA Z s.gens).setIfInBounds g x }
  rw [mixA_set h]
theorem noGen_split {fs : List Frame} (h : noGen fs = true) : splitAtGen fs = none := by
  induction fs with
  | nil => rfl
  | cons F r ih =>
    have h2 : noGen r = true := by
      unfold noGen at h ⊢; rw [List.all_cons, Bool.and_eq_true] at h; exact h.2
    cases F with
    | ret k hh g l c p kp => simp [splitAtGen, ih h2]
    | gen g k l c p => simp [noGen] at h
theorem noGen_cons {F : Frame} {fs : List Frame} (h : noGen (F :: fs) = true) : noGen fs = true := by
  unfold noGen at h ⊢; rw [List.all_cons, Bool.and_eq_true] at h; exact h.2
theorem noGen_app {a b : List Frame} (ha : noGen a = true) (hb : noGen b = true) : noGen (a ++ b) = true := by
  unfold noGen at *; rw [List.all_append, ha, hb]; rfl
theorem noG_end {e : End} (h : noGenE e) : NoG e.genState := by
  cases e with
  | ret r => trivial
  | susp v g l k c p fs => exact h
theorem runs_unsup {M : Model} {m : String} : ∀ {Γ : Ctx} {p : Pos} {t : Sem PySem.Fin} {fs : List Frame} {s s' : Shared} {e : End}, Runs M Γ p t fs s e s' → t = .unsupported m → False := by
  intro Γ p t fs s s' e h
  induction h <;> intro q <;> first | (cases q; done) | (rename_i ih _; exact ih q) | (rename_i ih; exact ih q) | skip
theorem runs_mix {M : Model} {Γ : Ctx} {p : Pos} {t : Sem PySem.Fin} {fs : List Frame} {s s' : Shared} {e : End} (h : Runs M Γ p t fs s e s') :
    ∀ Z : Zs, Good Z s.gens → noGen fs = true → Good Z s'.gens ∧ noGenE e ∧ Runs M Γ p t fs (mix Z s) e (mix Z s') := by
  induction h with
  | done => exact fun Z g n => ⟨g, trivial, .done⟩
  | raise => exact fun Z g n => ⟨g, trivial, .raise⟩
  | again q _ ih => exact fun Z g n => let ⟨a, b, c⟩ := ih Z g n; ⟨a, b, .again q c⟩
  | rule _ ih => exact fun Z g n => let ⟨a, b, c⟩ := ih Z g n; ⟨a, b, .rule c⟩
  | «at» _ ih => exact fun Z g n => let ⟨a, b, c⟩ := ih Z g n; ⟨a, b, .at c⟩
  | load q _ ih => exact fun Z g n => let ⟨a, b, c⟩ := ih Z g n; ⟨a, b, .load q c⟩
  | update q _ ih => exact fun Z g n => let ⟨a, b, c⟩ := ih Z g n; ⟨a, b, .update q c⟩
  | loadIfAlive _ ih => exact fun Z g n => let ⟨a, b, c⟩ := ih Z g n; ⟨a, b, .loadIfAlive c⟩
  | point _ ih => exact fun Z g n => let ⟨a, b, c⟩ := ih Z g n; ⟨a, b, .point c⟩
  | alloc _ ih => exact fun Z g n => let ⟨a, b, c⟩ := ih Z g n; ⟨a, b, .alloc c⟩
  | fresh _ ih => exact fun Z g n => let ⟨a, b, c⟩ := ih Z g n; ⟨a, b, .fresh c⟩
  | ask _ ih => exact fun Z g n => let ⟨a, b, c⟩ := ih Z g n; ⟨a, b, .ask c⟩
  | choose q _ ih => exact fun Z g n => let ⟨a, b, c⟩ := ih Z g n; ⟨a, b, .choose q c⟩
  | os _ ih => exact fun Z g n => let ⟨a, b, c⟩ := ih Z g n; ⟨a, b, .os c⟩
  | handled _ ih => exact fun Z g n => let ⟨a, b, c⟩ := ih Z g n; ⟨a, b, .handled c⟩
  | stack _ ih => exact fun Z g n => let ⟨a, b, c⟩ := ih Z g n; ⟨a, b, .stack c⟩
  | thread _ ih => exact fun Z g n => let ⟨a, b, c⟩ := ih Z g n; ⟨a, b, .thread c⟩
  | «yield» => exact fun Z g n => ⟨g, rfl, .yield⟩
  | @genState g0 st Γ p k s e s' q _ ih =>
    intro Z g n
    obtain ⟨a, b, c⟩ := ih Z g n
    cases ez : Z g0 with
    | none => exact ⟨a, b, .genState ((mixA_free ez).trans q) c⟩
    | some y =>
      have h1 := (g.held g0 y ez)
      rw [q] at h1
      refine ⟨a, b, .genState (st := y) (mixA_held g ez) ?_⟩
      rw [Option.some.inj h1.1] at c
      cases y with
      | suspended k l c p fs cl => exact c
      | _ => exact h1.2.elim
  | @newGen Γ p k s e s' c _ ih =>
    intro Z g n
    obtain ⟨a, b, r⟩ := ih Z (g.push trivial) n
    refine ⟨a, b, .newGen ?_⟩
    have e1 : (mix Z s).gens.size = s.gens.size := mixA_size
    rw [e1]
    have e2 : ({ (mix Z s) with gens := (mix Z s).gens.push (GenState.fresh c) } : Shared) = mix Z { s with gens := s.gens.push (GenState.fresh c) } := by
      show ({ s with gens := (mixA Z s.gens).push _ } : Shared) = { s with gens := mixA Z (s.gens.push _) }
      rw [mixA_push g.none_size]
    rw [e2]; exact r
  | call _ _ ih1 ih2 =>
    intro Z g n
    obtain ⟨a, _, r⟩ := ih1 Z g rfl
    obtain ⟨a2, b2, r2⟩ := ih2 Z a rfl
    exact ⟨a2, b2, .call r r2⟩
  | callSusp _ ih1 =>
    intro Z g n
    obtain ⟨a, b, r⟩ := ih1 Z g rfl
    exact ⟨a, noGen_app b rfl, .callSusp r⟩
  | @resumeFresh Γ p g0 l k s c e₁ s₁ e s' q _ qu _ ih1 ih2 =>
    intro Z g n
    have hz := g.none_of q (by intros; exact fun q => nomatch q)
    obtain ⟨a, b, r⟩ := ih1 Z (g.set hz trivial) rfl
    obtain ⟨a2, b2, r2⟩ := ih2 Z (a.set hz (noG_end b)) rfl
    rw [mix_set hz] at r r2
    exact ⟨a2, b2, .resumeFresh ((mixA_free hz).trans q) r qu r2⟩
  | @resumeSuspended Γ p g0 rr l k s k₀ l₀ c₀ p₀ fs cl e₁ s₁ e s' q r1 qu _ ih1 ih2 =>
    intro Z g n
    cases ez : Z g0 with
    | some y =>
      have h1 := (g.held g0 y ez)
      rw [q] at h1
      cases y with
      | suspended k l c p fs cl =>
        have hh := Option.some.inj h1.1
        cases hh
        exact (runs_unsup r1 rfl).elim
      | _ => exact h1.2.elim
    | none =>
      obtain ⟨a, b, r⟩ := ih1 Z (g.set ez trivial) (g.free g0 _ ez q)
      obtain ⟨a2, b2, r2⟩ := ih2 Z (a.set ez (noG_end b)) rfl
      rw [mix_set ez] at r r2
      exact ⟨a2, b2, .resumeSuspended ((mixA_free ez).trans q) r qu r2⟩
  | resumeJustStarted q v _ ih =>
    intro Z g n
    have hz := g.none_of q (by intros; exact fun q => nomatch q)
    obtain ⟨a, b, r⟩ := ih Z g rfl
    exact ⟨a, b, .resumeJustStarted ((mixA_free hz).trans q) v r⟩
  | resumeThrowFresh q _ ih =>
    intro Z g n
    have hz := g.none_of q (by intros; exact fun q => nomatch q)
    obtain ⟨a, b, r⟩ := ih Z (g.set hz trivial) rfl
    rw [mix_set hz] at r
    exact ⟨a, b, .resumeThrowFresh ((mixA_free hz).trans q) r⟩
  | resumeRunning q _ ih =>
    intro Z g n
    have hz := g.none_of q (by intros; exact fun q => nomatch q)
    obtain ⟨a, b, r⟩ := ih Z g rfl
    exact ⟨a, b, .resumeRunning ((mixA_free hz).trans q) r⟩
  | resumeFinished q _ ih =>
    intro Z g n
    have hz := g.none_of q (by intros; exact fun q => nomatch q)
    obtain ⟨a, b, r⟩ := ih Z g rfl
    exact ⟨a, b, .resumeFinished ((mixA_free hz).trans q) r⟩
  | segRet _ _ ih1 ih2 =>
    intro Z g n
    obtain ⟨a, b, r⟩ := ih1 Z g rfl
    obtain ⟨a2, b2, r2⟩ := ih2 Z a (noGen_cons n)
    exact ⟨a2, b2, .segRet r r2⟩
  | segGen _ _ ih1 ih2 =>
    intro Z g n
    simp [noGen] at n
  | segSuspOut q _ ih1 =>
    intro Z g n
    obtain ⟨a, b, r⟩ := ih1 Z g rfl
    exact ⟨a, noGen_app b n, .segSuspOut q r⟩
  | segSuspGen q _ _ _ ih1 ih2 =>
    intro Z g n
    rw [noGen_split n] at q
    cases q
/-- what a state is with every generator that is suspended in it barred -/
def barred (s : Shared) : Shared := { s with gens := s.gens.map pz }
def zs (s : Shared) : Zs := fun i => match s.gens[i]? with
  | some (.suspended k l c p fs cl) => some (.suspended k l c p fs cl)
  | _ => none
theorem zs_some {s : Shared} {i : Nat} {x : GenState} (h : s.gens[i]? = some x) (k : IsSusp x) : zs s i = some x := by
  unfold zs; rw [h]; cases x with
  | suspended => rfl
  | _ => exact k.elim
theorem zs_inv {s : Shared} {i : Nat} {x : GenState} (h : zs s i = some x) : s.gens[i]? = some x ∧ IsSusp x := by
  unfold zs at h
  cases e : s.gens[i]? with
  | none => rw [e] at h; cases h
  | some y =>
    rw [e] at h
    cases y with
    | suspended => cases h; exact ⟨rfl, trivial⟩
    | _ => cases h
theorem good_barred (s : Shared) : Good (zs s) (barred s).gens := by
  refine ⟨fun i x h => ?_, fun i x h q => ?_⟩
  · obtain ⟨a, b⟩ := zs_inv h
    refine ⟨?_, b⟩
    show (s.gens.map pz)[i]? = _
    rw [Array.getElem?_map, a]; rfl
  · have q' : (s.gens.map pz)[i]? = some x := q
    rw [Array.getElem?_map] at q'
    cases e : s.gens[i]? with
    | none => rw [e] at q'; cases q'
    | some y =>
      rw [e] at q'
      cases q'
      cases y with
      | suspended => rw [zs_some e trivial] at h; cases h
      | _ => trivial
theorem mix_barred (s : Shared) : mix (zs s) (barred s) = s := by
  show ({ s with gens := mixA (zs s) (s.gens.map pz) } : Shared) = s
  have : mixA (zs s) (s.gens.map pz) = s.gens := by
    apply Array.ext_getElem?
    intro i
    rw [mixA_get, Array.getElem?_map]
    cases e : s.gens[i]? with
    | none => rfl
    | some y =>
      cases y with
      | suspended => rw [zs_some e trivial]; rfl
      | fresh => simp [zs, e, pz]
      | running => simp [zs, e, pz]
      | finished => simp [zs, e, pz]
  rw [this]
end GenF
namespace GenF
open PySem
variable {M : Model} {Z : Zs}
theorem wpCode_mix {Γ : Ctx} {R : Result → Shared → Prop} {p : Pos} {s : Shared} (g : Good Z s.gens) (h : wpCode M Γ R p s) :
    wpCode M Γ (fun r s' => ∃ s1, s' = mix Z s1 ∧ Good Z s1.gens ∧ R r s1) p (mix Z s) := by
  obtain ⟨r, s1, h1, h2⟩ := h
  obtain ⟨a, b, c⟩ := runs_mix h1 Z g rfl
  exact ⟨r, mix Z s1, c, s1, rfl, a, h2⟩
theorem wakes_mix {Γ : Ctx} {p : Pos} {g0 : Nat} {r : Resume} {s s' : Shared} {res : GenResult} (g : Good Z s.gens) (h : Wakes M Γ p g0 r s res s') :
    Good Z s'.gens ∧ Wakes M Γ p g0 r (mix Z s) res (mix Z s') := by
  unfold Wakes at h ⊢
  cases q : s.gens[g0]? with
  | none => rw [q] at h; exact h.elim
  | some x =>
    rw [q] at h
    cases x with
    | fresh c =>
      have hz := g.none_of q (by intros; exact fun q => nomatch q)
      rw [show (mix Z s).gens[g0]? = _ from (mixA_free hz).trans q]
      cases r with
      | throw x =>
        obtain ⟨h1, h2⟩ := h
        subst h2
        exact ⟨g.set hz trivial, h1, by rw [mix_set hz]⟩
      | send v =>
        cases v with
        | none =>
          obtain ⟨e1, s1, h1, h2, h3, h4⟩ := h
          obtain ⟨a, b, c⟩ := runs_mix h1 Z (g.set hz trivial) rfl
          rw [mix_set hz] at c
          subst h4
          exact ⟨a.set hz (noG_end b), e1, mix Z s1, c, h2, h3, by rw [mix_set hz]⟩
        | _ =>
          obtain ⟨h1, h2⟩ := h
          subst h2
          exact ⟨g, h1, rfl⟩
    | suspended k l c p0 fs cl =>
      cases ez : Z g0 with
      | some y =>
        obtain ⟨e1, s1, h1, _⟩ := h
        have h2 := (g.held g0 y ez)
        rw [q] at h2
        cases y with
        | suspended k l c p fs cl =>
          have hh := Option.some.inj h2.1
          cases hh
          exact (runs_unsup h1 rfl).elim
        | _ => exact h2.2.elim
      | none =>
        rw [show (mix Z s).gens[g0]? = _ from (mixA_free ez).trans q]
        obtain ⟨e1, s1, h1, h2, h3, h4⟩ := h
        obtain ⟨a, b, c⟩ := runs_mix h1 Z (g.set ez trivial) (g.free g0 _ ez q)
        rw [mix_set ez] at c
        subst h4
        exact ⟨a.set ez (noG_end b), e1, mix Z s1, c, h2, h3, by rw [mix_set ez]⟩
    | running =>
      have hz := g.none_of q (by intros; exact fun q => nomatch q)
      rw [show (mix Z s).gens[g0]? = _ from (mixA_free hz).trans q]
      obtain ⟨h1, h2⟩ := h
      subst h2
      exact ⟨g, h1, rfl⟩
    | finished =>
      have hz := g.none_of q (by intros; exact fun q => nomatch q)
      rw [show (mix Z s).gens[g0]? = _ from (mixA_free hz).trans q]
      obtain ⟨h1, h2⟩ := h
      subst h2
      exact ⟨g, h1, rfl⟩
theorem wp_mix {α : Type} {Γ : Ctx} {Q : α → Pos → Shared → Prop} {E : Value → Pos → Shared → Prop} (t : Sem α) : ∀ {p : Pos} {s : Shared}, Good Z s.gens → Sem.wp M Γ t Q E p s →
    Sem.wp M Γ t (fun a p' s' => ∃ s1, s' = mix Z s1 ∧ Good Z s1.gens ∧ Q a p' s1) (fun e p' s' => ∃ s1, s' = mix Z s1 ∧ Good Z s1.gens ∧ E e p' s1) p (mix Z s) := by
  induction t with
  | pure a => intro p s g h; exact ⟨s, rfl, g, h⟩
  | raise e => intro p s g h; exact ⟨s, rfl, g, h⟩
  | unsupported => intro p s g h; exact h.elim
  | finish => intro p s g h; exact h.elim
  | rule tag k ih => intro p s g h; exact ih () g h
  | «at» p' k ih => intro p s g h; exact ih () g h
  | load a part k ih => intro p s g h; obtain ⟨o, h1, h2⟩ := h; exact ⟨o, h1, ih o g h2⟩
  | update a part f k ih => intro p s g h; obtain ⟨h1, h2⟩ := h; exact ⟨h1, ih () (s := { s with heap := s.heap.update a f }) g h2⟩
  | alloc o k ih => intro p s g h; exact ih _ (s := { s with heap := s.heap.push o }) g h
  | loadIfAlive a k ih => intro p s g h; exact ih _ g h
  | point l k ih => intro p s g h; exact ih () g h
  | register => intro p s g h; exact h.elim
  | fresh k ih => intro p s g h; exact ih _ (s := { s with toks := s.toks + 1 }) g h
  | ask k ih => intro p s g h; exact ih _ g h
  | choose src n k ih => intro p s g h; obtain ⟨h1, h2⟩ := h; exact ⟨h1, ih _ (s := { s with drawn := s.drawn.bump src }) g h2⟩
  | os q l k ih => intro p s g h; exact ih _ (s := { s with os := (Os.step s.os q).fst }) g h
  | call c hh gg l k ih =>
    intro p s g h
    rw [Sem.wp_call] at h ⊢
    obtain ⟨r, s1, h1, h2⟩ := wpCode_mix g h
    obtain ⟨s2, e, g2, h3⟩ := h2
    subst e
    exact ⟨r, _, h1, ih r g2 h3⟩
  | handled own k ih => intro p s g h; exact ih _ g h
  | newGen c k ih =>
    intro p s g h
    have := ih s.gens.size (s := { s with gens := s.gens.push (GenState.fresh c) }) (g.push trivial) h
    show Sem.wp M Γ (k (mix Z s).gens.size) _ _ p { (mix Z s) with gens := (mix Z s).gens.push (GenState.fresh c) }
    have e1 : (mix Z s).gens.size = s.gens.size := mixA_size
    rw [e1]
    have e2 : ({ (mix Z s) with gens := (mix Z s).gens.push (GenState.fresh c) } : Shared) = mix Z { s with gens := s.gens.push (GenState.fresh c) } := by
      show ({ s with gens := (mixA Z s.gens).push _ } : Shared) = { s with gens := mixA Z (s.gens.push _) }
      rw [mixA_push g.none_size]
    rw [e2]; exact this
  | genState g0 k ih =>
    intro p s g h
    obtain ⟨st, q, h2⟩ := h
    have c := ih st.seen g h2
    cases ez : Z g0 with
    | none => exact ⟨st, (mixA_free ez).trans q, c⟩
    | some y =>
      have h1 := (g.held g0 y ez)
      rw [q] at h1
      refine ⟨y, mixA_held g ez, ?_⟩
      rw [Option.some.inj h1.1] at c
      cases y with
      | suspended k l c p fs cl => exact c
      | _ => exact h1.2.elim
  | resume g0 r l k ih =>
    intro p s g h
    rw [Sem.wp_resume] at h ⊢
    obtain ⟨res, s1, h1, h2⟩ := h
    obtain ⟨a, b⟩ := wakes_mix g h1
    exact ⟨res, mix Z s1, b, ih res a h2⟩
  | «yield» => intro p s g h; exact h.elim
  | stack k ih => intro p s g h; exact ih _ g h
  | fork => intro p s g h; exact h.elim
  | thread k ih => intro p s g h; exact ih _ g h
  | await => intro p s g h; exact h.elim
/-- what runs from a state with its suspended generators barred runs from the state, and they are as they were -/
theorem wpAny_kept {α : Type} {A : Around} {t : Sem α} {Q : α → Shared → Prop} {E : Value → Shared → Prop} {s : Shared} (h : wpAny M A t Q E (barred s)) :
    wpAny M A t (fun a s' => ∃ s1, s' = mix (zs s) s1 ∧ Good (zs s) s1.gens ∧ Q a s1) (fun e s' => ∃ s1, s' = mix (zs s) s1 ∧ Good (zs s) s1.gens ∧ E e s1) s := by
  intro Γ p i
  have := wp_mix (Z := zs s) t (good_barred s) (h Γ p i)
  rw [mix_barred] at this
  exact this
theorem bare_pz {x : GenState} (h : x.bare = true) : (pz x).bare = true := by cases x <;> exact h
theorem bare_barred {s : Shared} (h : PyProof.Rows.AllBare s.gens) : PyProof.Rows.AllBare (barred s).gens := by
  intro y hy
  obtain ⟨x, hx, e⟩ := Array.mem_map.mp (show y ∈ s.gens.map pz from hy)
  rw [← e]; exact bare_pz (h x hx)
theorem bare_mix {s s1 : Shared} (h : PyProof.Rows.AllBare s.gens) (h1 : PyProof.Rows.AllBare s1.gens) : PyProof.Rows.AllBare (mix (zs s) s1).gens := by
  intro y hy
  obtain ⟨i, hi⟩ := Array.getElem?_of_mem hy
  rw [show (mix (zs s) s1).gens[i]? = _ from mixA_get] at hi
  cases e : s1.gens[i]? with
  | none => rw [e] at hi; cases hi
  | some x =>
    rw [e] at hi
    cases ez : zs s i with
    | none => rw [ez] at hi; cases hi; exact h1 _ (Array.mem_of_getElem? e)
    | some z => rw [ez] at hi; cases hi; exact h _ (Array.mem_of_getElem? (zs_inv ez).1)
theorem mix_gen {s s1 : Shared} {g : Nat} {x : GenState} (h : s.gens[g]? = some x) (k : IsSusp x) (g1 : Good (zs s) s1.gens) : (mix (zs s) s1).gens[g]? = some x :=
  mixA_held g1 (zs_some h k)
end GenF
/-! a generator that sleeps, as its consumer sees it -/
namespace GenF
open PySem PySem.Spec PyProof.Rows GenW L2
/-- the heap below n -/
def cutH (h : Heap) (n : Nat) : Heap := { h with objs := h.objs.extract 0 n }
theorem cutH_get {h : Heap} {n b : Nat} (hb : b < n) : (cutH h n).get? b = h.get? b := by
  have e : (h.objs.extract 0 n)[b]? = h.objs[b]? := by
    rw [Array.getElem?_extract]
    simp only [Nat.sub_zero, Nat.zero_add]
    by_cases q : b < h.objs.size
    · rw [if_pos (by omega)]
    · rw [if_neg (by omega), Array.getElem?_eq_none (by omega)]
  unfold Heap.get? cutH
  rw [e]
theorem cutH_size {h : Heap} {n : Nat} (hn : n ≤ h.objs.size) : (cutH h n).objs.size = n := by
  show (h.objs.extract 0 n).size = n
  rw [Array.size_extract]; omega
theorem cutH_of {h : Heap} {n b : Nat} {o : Obj} (e : (cutH h n).get? b = some o) : b < n ∧ h.get? b = some o := by
  have lt : b < n := by
    refine Nat.lt_of_lt_of_le (Heap.lt_size e) ?_
    show (h.objs.extract 0 n).size ≤ n
    rw [Array.size_extract]; omega
  exact ⟨lt, by rw [← cutH_get lt]; exact e⟩
/-- what the frame at F owns: itself, and what stands under x -/
def OwnF (x : Str) (h : Heap) (F b : Addr) : Prop := b = F ∨ ∃ m, h.Ns F m ∧ m x = some (.ref b)
theorem OwnF.at {x : Str} {h h' : Heap} {F b : Addr} (k : ∀ o, h.get? F = some o → h'.get? F = some o) (ex : ∃ o, h.get? F = some o) (q : OwnF x h' F b) : OwnF x h F b := by
  rcases q with q | ⟨m, ⟨o, es, ep, ho, r⟩, hm⟩
  · exact .inl q
  · obtain ⟨o', e'⟩ := ex
    have e2 := k o' e'
    rw [ho] at e2
    cases e2
    exact .inr ⟨m, ⟨o, es, ep, e', r⟩, hm⟩
/-- the tuples of H -/
def tupsOf (H : Hp) : Hp := fun b => match H b with
  | some (.tup xs) => some (.tup xs)
  | some (.frz _ (.tup xs)) => some (.tup xs)
  | _ => none
theorem tupsOf_inv {H : Hp} {b : Addr} {u : HO} (e : tupsOf H b = some u) : ∃ xs, u = .tup xs ∧ Rd H b (.tup xs) := by
  unfold tupsOf at e
  cases q : H b with
  | none => rw [q] at e; cases e
  | some v =>
    rw [q] at e
    cases v with
    | tup xs => cases e; exact ⟨xs, rfl, .inl q⟩
    | frz o v =>
      cases v with
      | tup xs => cases e; exact ⟨xs, rfl, .inr ⟨o, q⟩⟩
      | _ => cases e
    | _ => cases e
theorem tupsOf_rd {H : Hp} {b : Addr} {xs : List V} (r : Rd H b (.tup xs)) : tupsOf H b = some (.tup xs) := by
  unfold tupsOf
  rcases r with r | ⟨o, r⟩ <;> rw [r]
theorem tupsOf_none {H : Hp} {b : Addr} (e : H b = none) : tupsOf H b = none := by unfold tupsOf; rw [e]
/-- all tuples of H stand in H' -/
def TK (H H' : Hp) : Prop := ∀ b xs, Rd H b (.tup xs) → Rd H' b (.tup xs)
theorem TK.refl (H : Hp) : TK H H := fun _ _ r => r
theorem TK.trans {H H1 H2 : Hp} (a : TK H H1) (b : TK H1 H2) : TK H H2 := fun c xs r => b c xs (a c xs r)
theorem TK.sq {K : PySem.W.Frag} {H H' : Hp} (t : TK H H') : ∀ a xs, SqT K (tupsOf H) a xs → SqT K H' a xs := fun a xs s => by
  rcases s with (s | ⟨o, s⟩) | s
  · obtain ⟨ys, e, r⟩ := tupsOf_inv s
    cases e
    exact .inl (t a xs r)
  · obtain ⟨ys, e, _⟩ := tupsOf_inv s
    cases e
  · exact .inr s
/-- a generator of the program's own, made by its consumer: what stands fixed -/
structure Gs where
  P : Program
  w : World
  K : PySem.W.Frag
  base : Heap
  A : Around
  stk : List Env
  F : Addr
  a : Addr
  g : Nat
  go : Obj
  x : Str
  H1 : Hp
  n : Nat
  it : Nat → V → Prop
abbrev Gs.M (G : Gs) : Model := model G.P G.w
/-- what its waking asks -/
structure Wk (G : Gs) (own : List (Addr × Obj)) (s : Shared) : Prop where
  bare : AllBare s.gens
  bs : ∀ b o, G.base.get? b = some o → s.heap.get? b = some o
  funs : s.heap.FunFrames G.base G.stk
  own : ∀ p ∈ own, s.heap.get? p.1 = some p.2
  data : ∀ b xs, Rd G.H1 b (.tup xs) → ObjOk G.P G.w G.H1 s.heap b (.tup xs)
/-- what a piece of its run leaves -/
structure Stp (G : Gs) (s s1 : Shared) : Prop where
  os : s1.os = s.os
  bare : AllBare s1.gens
  keep : ∀ b o, s.heap.get? b = some o → ¬ OwnF G.x s.heap G.F b → b ∉ frs G.stk → s1.heap.get? b = some o
  slot : ∀ b o, s.heap.get? b = some o → b ∈ frs G.stk → ∃ sl, s1.heap.get? b = some { o with slots := sl }
  there : ∀ b o, s.heap.get? b = some o → ∃ o', s1.heap.get? b = some o'
structure OwnOk (G : Gs) (s : Shared) (own : List (Addr × Obj)) (s1 : Shared) : Prop where
  at_ : ∀ p ∈ own, s1.heap.get? p.1 = some p.2 ∧ ∀ v, p.2.data ≠ .cell v
  new : ∀ p ∈ own, OwnF G.x s.heap G.F p.1 ∨ s.heap.objs.size ≤ p.1 ∨ p.1 = G.a
  all : ∀ b, OwnF G.x s1.heap G.F b → b ∈ own.map (·.1)
  a : (G.a, G.go) ∈ own
def GYp (G : Gs) : Protocol := fun n s v s1 kap => ∃ x own, n + 1 ≤ G.n ∧ G.it (G.n - (n + 1)) x ∧ RelV x v ∧ Stp G s s1 ∧ OwnOk G s own s1 ∧ ∀ sn, Wk G own sn → kap (.send .none) sn ∧ kap (.send (.bool true)) sn
def GRe (G : Gs) : GenEnd := fun n s r s1 => ((r = .ok (.ret .none) ∨ r = .ok .next) ∧ n = 0 ∧ Stp G s s1) ∨ ∃ e, r = .error e ∧ False
/-- it sleeps; i items are out; fp: its objects -/
def Slp (G : Gs) (i : Nat) (fp : List Addr) (s : Shared) : Prop := ∃ gs own, s.gens[G.g]? = some gs ∧ fp = own.map (·.1) ∧ (G.a, G.go) ∈ own ∧ (∀ p ∈ own, s.heap.get? p.1 = some p.2 ∧ ∀ v, p.2.data ≠ .cell v) ∧ (∀ b, OwnF G.x s.heap G.F b → b ∈ fp) ∧ (i = 0 ∨ IsSusp gs) ∧
  ∀ sn, Wk G own sn → gs.Goes G.M G.A.in1 (GRe G) (GYp G) (G.n - i) (.send .none) sn
theorem Slp.mem {G : Gs} {i : Nat} {fp : List Addr} {s : Shared} (h : Slp G i fp s) : G.a ∈ fp := by
  obtain ⟨gs, own, _, e, m, _⟩ := h
  rw [e]; exact List.mem_map.mpr ⟨_, m, rfl⟩
theorem Slp.memF {G : Gs} {i : Nat} {fp : List Addr} {s : Shared} (h : Slp G i fp s) : G.F ∈ fp := by
  obtain ⟨gs, own, _, e, m, _, q, _⟩ := h
  exact q _ (.inl rfl)
theorem Slp.obj {G : Gs} {i : Nat} {fp : List Addr} {s : Shared} (h : Slp G i fp s) : ∀ b ∈ fp, ∃ o, s.heap.get? b = some o ∧ ∀ v, o.data ≠ .cell v := by
  obtain ⟨gs, own, _, e, m, q, _⟩ := h
  intro b hb
  rw [e] at hb
  obtain ⟨p, hp, rfl⟩ := List.mem_map.mp hb
  exact ⟨p.2, q p hp⟩
/-- what keeps its objects, and it in the table, keeps its sleep -/
theorem Slp.keep {G : Gs} {i : Nat} {fp : List Addr} {s s' : Shared} (h : Slp G i fp s) (k : ∀ b ∈ fp, ∀ o, s.heap.get? b = some o → s'.heap.get? b = some o) (kg : s'.gens = s.gens ∨ (0 < i ∧ ∀ (g : Nat) (x : GenState), s.gens[g]? = some x → IsSusp x → s'.gens[g]? = some x)) : Slp G i fp s' := by
  have hF := h.memF
  obtain ⟨oF, eF, _⟩ := h.obj _ hF
  obtain ⟨gs, own, h1, h2, h3, h4, h5, h6, h7⟩ := h
  refine ⟨gs, own, ?_, h2, h3, fun p hp => ⟨k _ (by rw [h2]; exact List.mem_map.mpr ⟨p, hp, rfl⟩) _ (h4 p hp).1, (h4 p hp).2⟩, fun b hb => h5 b (hb.at (k _ hF) ⟨oF, eF⟩), h6, h7⟩
  rcases kg with kg | ⟨hi, kg⟩
  · rw [kg]; exact h1
  · rcases h6 with h6 | h6
    · omega
    · exact kg _ _ h1 h6
theorem funs_slots {base h h' : Heap} : ∀ {l : List Env}, h.FunFrames base l → (∀ b ∈ frs l, ∀ o, h.get? b = some o → ∃ sl, h'.get? b = some { o with slots := sl }) → h'.FunFrames base l
  | [], _, _ => trivial
  | env :: r, ⟨hk, ⟨L, o, hf, hn, ho, hd⟩, hr⟩, q => by
    have hL : L ∈ frs (env :: r) := by unfold frs; rw [List.filterMap_cons, hf]; exact List.mem_cons_self
    obtain ⟨sl, e⟩ := q L hL o ho
    refine ⟨hk, ⟨L, _, hf, hn, e, hd⟩, funs_slots hr fun b hb => q b ?_⟩
    unfold frs
    rw [List.filterMap_cons, hf]
    exact List.mem_cons_of_mem _ hb
/-- the consumer's context is of this generator's -/
structure GOk (G : Gs) (X : Cx) : Prop where
  eP : X.prog = G.P
  ew : X.w = G.w
  eK : X.K = G.K
  eb : X.base = G.base
  eA : X.A = G.A
  es : X.stack = G.stk
  hd : G.A.handled = none
  room : G.A.depth < recursionLimit
  gen : ∀ h : Heap, h.get? G.a = some G.go → h.IsGen G.a G.g
section
variable {G : Gs} {X : Cx} {pins : List (Addr × Obj)} {σ : L2.St} {H : Hp} {s s1 : Shared} {fp : List Addr} {i : Nat}
theorem wk_of (O : GOk G X) (I : Inv X pins σ H s) (t : TK G.H1 H) {own : List (Addr × Obj)} {gs : GenState} (ho : ∀ p ∈ own, s.heap.get? p.1 = some p.2) (hb : AllBare (s.setGen G.g gs).gens) : Wk G own (s.setGen G.g gs) := by
  refine ⟨hb, fun b o e => I.bk b o (by rw [O.eb]; exact e), ?_, ho, fun b xs r => ?_⟩
  · have := I.stack
    rw [O.eb, O.es] at this
    exact this
  · have := (t b xs r).ok I.hok
    rw [O.eP, O.ew] at this
    exact this
/-- behind a piece of its run -/
theorem inv_stp (O : GOk G X) (I : Inv X pins σ H s) (hf : ∀ b ∈ fp, FpOk X pins H b) (ho : ∀ b, OwnF G.x s.heap G.F b → b ∈ fp) (q : Stp G s s1) {h' : Heap} (k : ∀ b o, s1.heap.get? b = some o → h'.get? b = some o) {gs : GenState} (hg : gs.bare = true) :
    Inv X pins σ H { s1.setGen G.g gs with heap := h' } := by
  refine I.call' (ch := fp) q.os ⟨fun b o e n hb hx => k _ _ (q.keep b o e (fun z => hx (ho b z)) (by rw [← O.es]; exact hb)), fun b o e n hb hx => ?_, fun _ _ _ n _ => n, fun b o e hx => ?_, fun _ _ e => e, fun _ _ _ e => e, fun b ps e => ⟨#[], by rw [e]; simp⟩⟩ (fun b u e => ?_) (allBare_setGen q.bare hg) fun b hb => ?_
  · obtain ⟨sl, e1⟩ := q.slot b o e (by rw [← O.es]; exact hb)
    exact ⟨sl, k _ _ e1⟩
  · obtain ⟨o', e1⟩ := q.there b o e
    exact ⟨o', k _ _ e1⟩
  · refine (I.hok b u e).stay (fun c v hc z => k _ _ ?_) (fun _ z => z) fun _ _ z => z
    have tr : ∃ u, H c = some u := by
      rcases hc with rfl | hc
      · exact ⟨u, e⟩
      · exact ⟨_, hc⟩
    obtain ⟨u', tr⟩ := tr
    refine q.keep c v z (fun y => ?_) fun y => ?_
    · have := (hf c (ho c y)).1
      rw [this] at tr; cases tr
    · have := I.stkFree c (by rw [O.es]; exact y)
      rw [this] at tr; cases tr
  · obtain ⟨_, f1, _, f3, f4, f5⟩ := hf b hb
    exact ⟨f3, f1, f4, f5⟩
theorem next_item {E : Value → Shared → Prop} (O : GOk G X) (I : Inv X pins σ H s) (hf : ∀ b ∈ fp, FpOk X pins H b) (st : Slp G i fp s) (hi : i < G.n) (t : TK G.H1 H) :
    wpAny (model X.prog X.w) X.A (pyNext (.ref G.a)) (fun r s1 => ∃ u x fp', r = some u ∧ Inv X pins σ H s1 ∧ RelV x u ∧ G.it i x ∧ Slp G (i + 1) fp' s1 ∧ ∀ b ∈ fp', FpOk X pins H b) E s := by
  obtain ⟨gs, own, h1, h2, h3, h4, h5, h6, h7⟩ := st
  obtain ⟨m, hm⟩ : ∃ m, G.n - i = m + 1 := ⟨G.n - i - 1, by omega⟩
  rw [hm] at h7
  have hgl : G.g < s.gens.size := (Array.getElem?_eq_some_iff.mp h1).1
  have hA : X.A.handled = none := by rw [O.eA]; exact O.hd
  have hgo := h7 _ (wk_of (gs := .running) O I t (fun p hp => (h4 p hp).1) (allBare_setGen I.bare rfl))
  rw [← O.eA] at hgo
  have hgo' : gs.Goes (model X.prog X.w) X.A.in1 (fun n s₀ r s₁ => ((r = .ok (.ret .none) ∨ r = .ok .next) ∧ (n = 0 ∧ Stp G s₀ s₁)) ∨ ∃ e, r = .error e ∧ False) (GYp G) (m + 1) (.send .none) (s.setGen G.g .running) := by
    rw [O.eP, O.ew]; exact hgo
  refine wpAny_gsz (n := G.g + 1) hgl (next_genG hA I.nolimit (by rw [O.eA]; exact O.room) (O.gen _ (h4 _ h3).1) h1 hgo' (fun v s₁ gs' hbare hY => ?_) (fun s₁ hp h' hk => ?_) fun e s₁ he => he.elim)
  · intro hsz
    obtain ⟨x, own', hn, hx, rv, sp, oo, kap⟩ := hY
    have sp' : Stp G s s₁ := ⟨sp.os, sp.bare, sp.keep, sp.slot, sp.there⟩
    have I1 : Inv X pins σ H (s₁.setGen G.g gs') := inv_stp (h' := s₁.heap) O I hf h5 sp' (fun _ _ e => e) hbare
    have hg1 : G.g < s₁.gens.size := by
      have q : (s₁.setGen G.g gs').gens.size = s₁.gens.size := setGen_size _ _ _
      have hsz' : G.g + 1 ≤ (s₁.setGen G.g gs').gens.size := hsz
      omega
    have hwk := wk_of (own := own') (gs := gs') O I1 t (fun p hp => (oo.at_ p hp).1) (allBare_setGen I1.bare hbare)
    have sus : IsSusp gs' := by
      have q := (kap _ hwk).2
      cases gs' with
      | suspended => trivial
      | fresh c =>
        obtain ⟨q, _⟩ := q
        cases q
      | running => exact q.elim
      | finished => exact q.elim
    have hx' : G.it i x := by
      have e : G.n - (m + 1 - 1 + 1) = i := by omega
      rw [e] at hx; exact hx
    refine ⟨v, x, own'.map (·.1), rfl, I1, rv, hx', ⟨gs', own', setGen_at hg1, rfl, oo.a, oo.at_, fun b hb => oo.all b hb, .inr sus, fun sn hw => ?_⟩, fun b hb => ?_⟩
    · have e : G.n - (i + 1) = m := by omega
      have q := (kap sn hw).1
      rw [e, ← O.eA]
      rw [O.eP, O.ew] at q
      exact q
    · obtain ⟨p, hp, rfl⟩ := List.mem_map.mp hb
      rcases oo.new p hp with q | q | q
      · exact hf _ (h5 _ q)
      · exact I.fpOk q (I.hok.fresh q)
      · rw [q]
        exact hf _ (by rw [h2]; exact List.mem_map.mpr ⟨_, h3, rfl⟩)
  · intro _
    exact absurd hp.1 (Nat.succ_ne_zero m)
theorem next_done {E : Value → Shared → Prop} (O : GOk G X) (I : Inv X pins σ H s) (hf : ∀ b ∈ fp, FpOk X pins H b) (st : Slp G i fp s) (hi : i = G.n) (t : TK G.H1 H) :
    wpAny (model X.prog X.w) X.A (pyNext (.ref G.a)) (fun r s1 => r = none ∧ Inv X pins σ H s1) E s := by
  obtain ⟨gs, own, h1, h2, h3, h4, h5, h6, h7⟩ := st
  have hm : G.n - i = 0 := by omega
  rw [hm] at h7
  have hA : X.A.handled = none := by rw [O.eA]; exact O.hd
  have hgo := h7 _ (wk_of (gs := .running) O I t (fun p hp => (h4 p hp).1) (allBare_setGen I.bare rfl))
  rw [← O.eA] at hgo
  have hgo' : gs.Goes (model X.prog X.w) X.A.in1 (fun n s₀ r s₁ => ((r = .ok (.ret .none) ∨ r = .ok .next) ∧ (n = 0 ∧ Stp G s₀ s₁)) ∨ ∃ e, r = .error e ∧ False) (GYp G) 0 (.send .none) (s.setGen G.g .running) := by
    rw [O.eP, O.ew]; exact hgo
  refine next_genG hA I.nolimit (by rw [O.eA]; exact O.room) (O.gen _ (h4 _ h3).1) h1 hgo' (fun v s₁ gs' hbare hY => ?_) (fun s₁ hp h' hk => ?_) fun e s₁ he => he.elim
  · obtain ⟨x, own', hn, hx, rv, sp, oo, kap⟩ := hY
    have sp' : Stp G s s₁ := ⟨sp.os, sp.bare, sp.keep, sp.slot, sp.there⟩
    have I1 : Inv X pins σ H (s₁.setGen G.g gs') := inv_stp (h' := s₁.heap) O I hf h5 sp' (fun _ _ e => e) hbare
    have hwk := wk_of (own := own') (gs := gs') O I1 t (fun p hp => (oo.at_ p hp).1) (allBare_setGen I1.bare hbare)
    exact (kap _ hwk).1.elim
  · obtain ⟨_, sp⟩ := hp
    have sp' : Stp G s s₁ := ⟨sp.os, sp.bare, sp.keep, sp.slot, sp.there⟩
    exact ⟨rfl, inv_stp (gs := .finished) O I hf h5 sp' hk rfl⟩
end
end GenF
/-! for, and a list comprehension, over a generator of the program's own -/
namespace GenF
open PySem PySem.Spec PyProof.Rows GenW L2
def Itg (G : Gs) : It := ⟨fun i H => i < G.n ∧ TK G.H1 H, fun i H x H' => H' = H ∧ G.it i x, fun i H => i = G.n ∧ TK G.H1 H⟩
def PIEG (X : Cx) (pins : List (Addr × Obj)) (σ : L2.St) (R : It → Hp → Prop) (v : Value) (s2 : Shared) : Prop :=
  ∃ (G : Gs) (fp : List Addr) (H2 : Hp), v = .ref G.a ∧ GOk G X ∧ Inv X pins σ H2 s2 ∧ Slp G 0 fp s2 ∧ (∀ b ∈ fp, FpOk X pins H2 b) ∧ R (Itg G) H2
structure PIG (X : Cx) (iter : Expr) (wi : TI) : Prop where
  run : ∀ (pins : List (Addr × Obj)) (s : Shared) (σ : L2.St) (H : Hp) (R : It → Hp → Prop), Inv X pins σ H s → wi σ H R →
    wpAny (model X.prog X.w) X.A (eval iter X.env) (fun v s1 => wpAny (model X.prog X.w) X.A (pyIter v) (PIEG X pins σ R) X.xe s1) X.xe s
section
variable {X : Cx} {pins : List (Addr × Obj)} {σ : L2.St} {H : Hp} {s s1 : Shared}
theorem inv_gens {gs : Array GenState} (I : Inv X pins σ H s) (hb : AllBare gs) : Inv X pins σ H { s with gens := gs } :=
  ⟨I.ok, I.os, hb, I.base, I.loc, I.cell, I.free, I.freeC, I.pin, I.hok, I.len⟩
theorem inv_barred (I : Inv X pins σ H s) : Inv X pins σ H (barred s) := inv_gens I (bare_barred I.bare)
theorem inv_mix (hb : AllBare s.gens) (I : Inv X pins σ H s1) : Inv X pins σ H (mix (zs s) s1) := inv_gens I (bare_mix hb I.bare)
theorem sp_mix {D : Ends} {f : Flow} (hb : AllBare s.gens) (h : SP X pins D f s1) : SP X pins D f (mix (zs s) s1) := by
  cases f with
  | next => obtain ⟨σ', H', I, q⟩ := h; exact ⟨σ', H', inv_mix hb I, q⟩
  | brk => obtain ⟨σ', H', I, q⟩ := h; exact ⟨σ', H', inv_mix hb I, q⟩
  | cont => obtain ⟨σ', H', I, q⟩ := h; exact ⟨σ', H', inv_mix hb I, q⟩
  | ret u => obtain ⟨v, σ', H', I, r, q⟩ := h; exact ⟨v, σ', H', inv_mix hb I, r, q⟩
/-- what sleeps in the table sleeps on -/
def GKp (s s' : Shared) : Prop := ∀ (g : Nat) (x : GenState), s.gens[g]? = some x → IsSusp x → s'.gens[g]? = some x
theorem GKp.trans {s s' s'' : Shared} (a : GKp s s') (b : GKp s' s'') : GKp s s'' := fun g x e k => b g x (a g x e k) k
/-- a piece that raises nothing, run while generators sleep -/
theorem kept_run {α : Type} {A : Around} {t : Sem α} {Q Q' : α → Shared → Prop} {E E' : Value → Shared → Prop} {M : Model} (hE : ∀ e s, ¬ E e s) (h : wpAny M A t Q E (barred s)) (hQ : ∀ a s1, Q a s1 → GKp s (mix (zs s) s1) → Q' a (mix (zs s) s1)) : wpAny M A t Q' E' s := by
  refine wpAny_mono (wpAny_kept h) (fun a s' ⟨s1, e, g, q⟩ => ?_) fun e s' ⟨s1, _, _, q⟩ => (hE _ _ q).elim
  subst e
  exact hQ a s1 q fun n x hx k => mix_gen hx k g
theorem gen_go {G : Gs} {tg : Expr} {u : Value} {M : Model} {A : Around} {E : Value → Shared → Prop} {Q : Unit → Shared → Prop} (hg : s.heap.IsGen G.a G.g) (h : Q () s) : wpAny M A (letOwnedTupleGo tg (.ref G.a) u) Q E s := by
  obtain ⟨o, nm, qn, ho, hc, hd, _⟩ := hg
  exact go_of ho hc hd (by decide) h
theorem Slp.gen {G : Gs} {i : Nat} {fp : List Addr} (O : GOk G X) (st : Slp G i fp s) : s.heap.IsGen G.a G.g := by
  obtain ⟨gs, own, h1, h2, h3, h4, _⟩ := st
  exact O.gen _ (h4 _ h3).1
/-- behind a turn: its objects were pinned -/
theorem slp_on {G : Gs} {i : Nat} {fp : List Addr} {s' : Shared} {pins2 : List (Addr × Obj)} {σ' : L2.St} {H' : Hp} (hi : 0 < i) (st : Slp G i fp s) (fr : ∀ b ∈ fp, FpOk X pins H b) (I : Inv X (pins2 ++ pinsAt fp s.heap) σ' H' s') (k : GKp s s') :
    Slp G i fp s' ∧ ∀ b ∈ fp, FpOk X pins H' b := by
  have pin : ∀ b ∈ fp, ∀ o, s.heap.get? b = some o → s'.heap.get? b = some o ∧ H' b = none := fun b hb o e =>
    let z := I.pin (b, o) (List.mem_append_right _ (List.mem_append_right _ (mem_pinsAt hb e)))
    ⟨z.1, z.2.1⟩
  refine ⟨st.keep (fun b hb o e => (pin b hb o e).1) (.inr ⟨hi, k⟩), fun b hb => ?_⟩
  obtain ⟨o, e, _⟩ := st.obj b hb
  exact ⟨(pin b hb o e).2, (fr b hb).2⟩
end
section
variable {X : Cx}
theorem ps_forG {tg iter : Expr} {body : List Stmt} {wi : TI} {g : TG} {tb : TS} {pos : Pos} (hx : X.xe = fun _ _ => False) (hi : PIG X iter wi) (hg : PG X tg g) (hb : PSs X body tb)
    (hs : ∀ x, foldedSetIterable iter X.env x = pure x := by intro _; rfl) : PS X (.For tg iter body [] pos) (tFor wi g tb) := by
  refine ⟨fun pins s σ H D I h => ?_⟩
  have nx : ∀ e s, ¬ X.xe e s := fun e s z => by rw [hx] at z; exact z
  have nv : ∀ {α : Type} {t : Sem α} {Q : α → Shared → Prop} {E : Value → Shared → Prop} {s : Shared}, wpAny (model X.prog X.w) X.A t Q X.xe s → wpAny (model X.prog X.w) X.A t Q E s := fun q => wpAny_mono q (fun _ _ z => z) fun e s z => (nx e s z).elim
  refine wpAny_For (thn (hi.run pins s σ H _ I h) fun v s1 h1 => thn h1 fun itv s2 h2 => ?_) hs
  obtain ⟨G, fp, H2, e, O, I2, st2, f2, W, ⟨m0, w0⟩, turn⟩ := h2
  subst e
  refine codeAny_forLoop_any (fun n s' => ∃ i fp σ' H', Inv X pins σ' H' s' ∧ Slp G i fp s' ∧ (∀ b ∈ fp, FpOk X pins H' b) ∧ W i n σ' H') ?_ m0 ⟨0, fp, σ, H2, I2, st2, f2, w0⟩
  rintro n s3 ⟨i, fp3, σ3, H3, I3, st3, fr3, w3⟩
  rcases turn i n σ3 H3 w3 with ⟨⟨he, tk⟩, qn⟩ | ⟨⟨hl, tk⟩, N, hN, step⟩
  · refine nv (thn (next_done O I3 fr3 st3 he tk) fun r s4 ⟨hr, I4⟩ => ?_)
    subst hr
    exact wpAny_execs_nil ⟨σ3, H3, I4, qn⟩
  · refine nv (thn (next_item O I3 fr3 st3 hl tk) fun r s4 ⟨u, x, fp4, hr, I4, rx, hx4, st4, fr4⟩ => ?_)
    subst hr
    refine gen_go (st4.gen O) ?_
    have I5 := I4.pinned fr4 st4.obj
    refine kept_run nx (hg.run _ _ σ3 H3 x u _ (inv_barred I5) rx (step x H3 ⟨rfl, hx4⟩)) fun _ s5 ⟨σ6, H6, I6, q6⟩ k6 => ?_
    have I6' := inv_mix I5.bare I6
    refine kept_run nx (hb.run _ _ σ6 H6 _ (inv_barred I6') q6) fun f s7 q7 k7 => ?_
    have q7' := sp_mix (s := mix (zs s4) s5) I6'.bare q7
    have kk := k6.trans k7
    have again : ∀ {σ7 : L2.St} {H7 : Hp}, Inv X (pins ++ pinsAt fp4 s4.heap) σ7 H7 (mix (zs (mix (zs s4) s5)) s7) → N σ7 H7 → ∃ m, m < n ∧ ∃ i fp σ' H', Inv X pins σ' H' (mix (zs (mix (zs s4) s5)) s7) ∧ Slp G i fp (mix (zs (mix (zs s4) s5)) s7) ∧ (∀ b ∈ fp, FpOk X pins H' b) ∧ W i m σ' H' := fun {σ7 H7} I7 n7 => by
      obtain ⟨m', hm, w7⟩ := hN σ7 H7 n7
      obtain ⟨st7, fr7⟩ := slp_on (Nat.succ_pos i) st4 fr4 I7 kk
      exact ⟨m', hm, i + 1, fp4, σ7, H7, I7.unpinned, st7, fr7, w7⟩
    cases f with
    | next => obtain ⟨σ7, H7, I7, n7⟩ := q7'; exact again I7 n7
    | cont => obtain ⟨σ7, H7, I7, n7⟩ := q7'; exact again I7 n7
    | brk => obtain ⟨σ7, H7, I7, q7⟩ := q7'; exact ⟨σ7, H7, I7.unpinned, q7⟩
    | ret v => obtain ⟨x7, σ7, H7, I7, r7, q7⟩ := q7'; exact ⟨x7, σ7, H7, I7.unpinned, r7, q7⟩
theorem lc_coreG {pins : List (Addr × Obj)} {s : Shared} {σ : L2.St} {H : Hp} {Q : VK} {elt tg iter : Expr} {ifs : List Expr} {scope : Scope} {own : List (Str × Nat)} {pos pos' : Pos} {wi : TI} {g : TG} {tt : TT} {te : TE} {use : Option (Value → Sem Unit)} {Qf : Value → Shared → Prop}
    (hN : X.N.Nodup) (I : Inv X pins σ H s) (hi : PIG X iter wi) (ok : BlkOk X.N X.env.scope scope own)
    (hg : ∀ (s : Shared) (H : Hp) (C : Addr) (cl : List (Str × Addr)) (fp : List Addr), PG (X.blk s H scope (compEnvC scope cl C X.env) fp) tg g)
    (ht : ∀ (s : Shared) (H : Hp) (C : Addr) (cl : List (Str × Addr)) (fp : List Addr), PTs (X.blk s H scope (compEnvC scope cl C X.env) fp) ifs tt)
    (he : ∀ (s : Shared) (H : Hp) (C : Addr) (cl : List (Str × Addr)) (fp : List Addr), PE (X.blk s H scope (compEnvC scope cl C X.env) fp) elt te)
    (hs : ∀ x, foldedSetIterable iter X.env x = pure x) (h : tLc wi g tt te (own.map (·.2)) σ H Q)
    (hRR : ∀ D C s' m H', Inv X pins σ H' s' → Q (.ref D) H' → s'.heap.Ns C m → FpOk X pins H' C → compPost (model X.prog X.w) X.A X.xe use Qf (.ref D) C (.ok .next) s') :
    wpAny (model X.prog X.w) X.A (comprehension (.ListComp elt [⟨tg, iter, ifs, 0⟩] scope pos) scope X.env pos' (newList []) false (eval iter X.env) use) Qf X.xe s := by
  have hfree : ∀ y ∈ scope.names, y.2 = .free → ∃ c, X.env.cells.lookup y.1 = some c := fun y hy e => (ok.free y hy e).elim (fun k => I.ok.has _ (.inl k)) fun k => I.ok.has _ (.inr k)
  refine wpAny_comprehension_free (use := use) rfl hs (closure_ok hfree) ok.kind (fun y hy e => by rw [ok.uniq y hy, e]) (thn (hi.run pins s σ H _ I h) fun xv s1 h1 => thn h1 fun itv s2 h2 => ?_)
  obtain ⟨G, fp, H2, e, O, I2, st2, f2, q⟩ := h2
  subst e
  refine wpAny_newObj_type (newEnv_comp ?_) (by show 0 ≤ sizeLine; decide)
  generalize hD : s2.heap.objs.size = D
  obtain ⟨W, ⟨m0, w0⟩, turn⟩ := q D (I2.hok.fresh (Nat.le_of_eq hD))
  generalize hs3 : ({ s2 with heap := s2.heap.push { cls := .type "list", data := .seq ([] : List Value).toArray } } : Shared) = s3
  have h3 : s3.heap = s2.heap.push { cls := .type "list", data := .seq ([] : List Value).toArray } := by rw [← hs3]
  have I3 : Inv X pins σ (upd H2 D (.lst [])) s3 := by
    rw [← hs3]
    refine I2.laid (t' := s2.toks) (fun b o e => Heap.get?_push_of_some _ e) (Nat.le_of_eq hD) ⟨Nat.zero_le _, [], 0, .nil, ?_⟩
    rw [← hD]
    exact Heap.get?_push_size _ rfl
  have f3 : ∀ b ∈ fp, FpOk X pins (upd H2 D (.lst [])) b ∧ b < s3.heap.objs.size := fun b hb => by
    obtain ⟨o, e, _⟩ := st2.obj b hb
    have hlt := Heap.lt_size e
    refine ⟨⟨?_, (f2 b hb).2⟩, by rw [h3, Heap.size_push]; exact Nat.lt_succ_of_lt hlt⟩
    rw [upd_ne (by rw [← hD]; exact Nat.ne_of_lt hlt)]
    exact (f2 b hb).1
  have st3 : Slp G 0 fp s3 := st2.keep (fun b _ o e => by rw [h3]; exact Heap.get?_push_of_some _ e) (.inl (by rw [← hs3]))
  have I4 := block_start I3 ok hN f3
  have pg := hg s3 (upd H2 D (.lst [])) s3.heap.objs.size (cellsFrom (s3.heap.objs.size + 1) scope.names (cloFrom X.env.cells scope.names [])) fp
  have pt := ht s3 (upd H2 D (.lst [])) s3.heap.objs.size (cellsFrom (s3.heap.objs.size + 1) scope.names (cloFrom X.env.cells scope.names [])) fp
  have pe := he s3 (upd H2 D (.lst [])) s3.heap.objs.size (cellsFrom (s3.heap.objs.size + 1) scope.names (cloFrom X.env.cells scope.names [])) fp
  show codeAny _ _ (.compStart (.ListComp elt [⟨tg, iter, ifs, 0⟩] scope pos) 0 (.ref G.a) (.ref D) (compEnvC scope (cellsFrom (s3.heap.objs.size + 1) scope.names (cloFrom X.env.cells scope.names [])) s3.heap.objs.size X.env)) (compPost (model X.prog X.w) X.A X.xe use Qf (.ref D) s3.heap.objs.size) { s3 with heap := pushCells (s3.heap.push { cls := .type "dict", data := .dict #[] }) scope.names }
  generalize hce : compEnvC scope (cellsFrom (s3.heap.objs.size + 1) scope.names (cloFrom X.env.cells scope.names [])) s3.heap.objs.size X.env = ce at I4 pg pt pe ⊢
  have cL : ce.locals = s3.heap.objs.size := by subst hce; rfl
  generalize hH3 : upd H2 D (.lst []) = H3 at I3 I4 pg pt pe w0 f3
  generalize hs4 : ({ s3 with heap := pushCells (s3.heap.push { cls := .type "dict", data := .dict #[] }) scope.names } : Shared) = s4 at I4 ⊢
  have st4 : Slp G 0 fp s4 := st3.keep (fun b _ o e => by rw [← hs4]; exact pushCells_keeps _ _ _ _ (Heap.get?_push_of_some _ e)) (.inl (by rw [← hs4]))
  have OB : GOk G (X.blk s3 H3 scope ce fp) := ⟨O.eP, O.ew, O.eK, O.eb, O.eA, O.es, O.hd, O.room, O.gen⟩
  have f4 : ∀ b ∈ fp, FpOk (X.blk s3 H3 scope ce fp) [] H3 b := fun b hb => ⟨(f3 b hb).1.1, (I4.ok.exf b hb).1, I4.ok.exfs b hb, .inl hb, fun x c e => (I4.ok.exf b hb).2 x c e, fun p hp => absurd (show p ∈ ([] : List (Addr × Obj)) ++ [] from hp) (by simp)⟩
  have nx : ∀ (e : Value) (s : Shared), ¬ (X.blk s3 H3 scope ce fp).xe e s := fun _ _ z => z
  have loop : codeAny (model X.prog X.w) X.A (.compLoop (.ListComp elt [⟨tg, iter, ifs, 0⟩] scope pos) 0 (.ref G.a) (.ref D) ce) (compPost (model X.prog X.w) X.A X.xe use Qf (.ref D) s3.heap.objs.size) s4 := by
    refine compLoop_any (fun n s' => ∃ i fq H', Inv (X.blk s3 H3 scope ce fp) [] (wipe σ (own.map (·.2))) H' s' ∧ Slp G i fq s' ∧ (∀ b ∈ fq, FpOk (X.blk s3 H3 scope ce fp) [] H' b) ∧ W i n H') ?_ m0 ⟨0, fp, H3, I4, st4, f4, w0⟩
    rintro n s5 ⟨i, fq, H5, I5, st5, f5, w5⟩
    rcases turn i n H5 w5 with ⟨⟨hend, tk⟩, qq⟩ | ⟨⟨hl, tk⟩, Nx, hNx, step⟩
    · refine thnF (next_done (X := X.blk s3 H3 scope ce fp) (E := fun _ _ => False) OB I5 f5 st5 hend tk) fun r s6 ⟨hr, I6⟩ => ?_
      subst hr
      have I7 : Inv X pins σ H5 s6 := I3.call' (ch := fp) I6.os I6.base I6.hok I6.bare fun b hb => ⟨(f3 b hb).1.2.2.2.1, (f3 b hb).1.2.1, (f3 b hb).1.2.2.2.2.1, (f3 b hb).1.2.2.2.2.2⟩
      have nC : H5 s3.heap.objs.size = none := by
        have z : H5 ce.locals = none := I6.free
        rw [cL] at z
        exact z
      obtain ⟨m, hn, _⟩ := I6.loc
      have hn : s6.heap.Ns ce.locals m := hn
      rw [cL] at hn
      exact hRR D s3.heap.objs.size s6 m H5 I7 qq hn (I3.fpOk (Nat.le_refl _) nC)
    · refine thnF (next_item (X := X.blk s3 H3 scope ce fp) (E := fun _ _ => False) OB I5 f5 st5 hl tk) fun r s6 ⟨u, x, fp6, hr, I6, rx, hx6, st6, f6⟩ => ?_
      subst hr
      refine gen_go (st6.gen OB) ?_
      have I7 := I6.pinned f6 st6.obj
      refine kept_run nx (pg.run _ _ _ H5 x u _ (inv_barred I7) rx (step x H5 ⟨rfl, hx6⟩)) fun _ s7 ⟨σ8, H8, I8, hw8, q8⟩ k8 => ?_
      have I8' := inv_mix I7.bare I8
      refine kept_run nx (pt.run _ _ σ8 H8 _ (inv_barred I8') q8) fun b s8 ⟨H9, I9, q9⟩ k9 => ?_
      have I9' := inv_mix I8'.bare I9
      have k9' := k8.trans k9
      have fin : ∀ {s' : Shared} {H' : Hp}, Inv (X.blk s3 H3 scope ce fp) ([] ++ pinsAt fp6 s6.heap) σ8 H' s' → GKp s6 s' → Nx H' → ∃ m, m < n ∧ ∃ i fq H', Inv (X.blk s3 H3 scope ce fp) [] (wipe σ (own.map (·.2))) H' s' ∧ Slp G i fq s' ∧ (∀ b ∈ fq, FpOk (X.blk s3 H3 scope ce fp) [] H' b) ∧ W i m H' := fun {s' H'} I' k' nxt => by
        obtain ⟨m', hm, w'⟩ := hNx H' nxt
        obtain ⟨st', f'⟩ := slp_on (Nat.succ_pos i) st6 f6 I' k'
        have hl : (wipe σ (own.map (·.2))).length = σ8.length := by rw [← hw8, wipe_length]
        refine ⟨m', hm, i + 1, fp6, H', (I'.unpinned (pins := [])).weak hl (fun j v e => ?_), st', f', w'⟩
        rw [← hw8] at e
        exact (wipe_some e).1
      cases b with
      | false =>
        simp only [Bool.false_eq_true, if_false] at q9 ⊢
        exact fin I9' k9' q9
      | true =>
        simp only [if_true] at q9 ⊢
        refine kept_run nx (pe.run _ _ σ8 H9 _ (inv_barred I9') q9) fun z s9 ⟨yv, H10, I10, r10, acc, hD10, hz10, nxt⟩ k10 => ?_
        have I10' := inv_mix I9'.bare I10
        refine kept_run (E := fun _ _ => False) (fun _ _ z => z) (app_ok (X := X.blk s3 H3 scope ce fp) (Q := fun _ s' => ∃ H', Inv (X.blk s3 H3 scope ce fp) ([] ++ pinsAt fp6 s6.heap) σ8 H' s' ∧ Nx H') (inv_barred I10') hD10 hz10 r10 fun s11 I11 => ⟨_, I11, nxt⟩) fun _ s10 ⟨H11, I11, n11⟩ k11 => ?_
        exact fin (inv_mix I10'.bare I11) ((k9'.trans k10).trans k11) n11
  exact codeAny_compStart_list loop (wpAny_pyIter_gen (st4.gen OB) loop)
theorem pe_lcG {elt tg iter : Expr} {ifs : List Expr} {scope : Scope} {own : List (Str × Nat)} {pos : Pos} {wi : TI} {g : TG} {tt : TT} {te : TE} (hN : X.N.Nodup) (hi : PIG X iter wi) (ok : BlkOk X.N X.env.scope scope own)
    (hg : ∀ (s : Shared) (H : Hp) (C : Addr) (cl : List (Str × Addr)) (fp : List Addr), PG (X.blk s H scope (compEnvC scope cl C X.env) fp) tg g)
    (ht : ∀ (s : Shared) (H : Hp) (C : Addr) (cl : List (Str × Addr)) (fp : List Addr), PTs (X.blk s H scope (compEnvC scope cl C X.env) fp) ifs tt)
    (he : ∀ (s : Shared) (H : Hp) (C : Addr) (cl : List (Str × Addr)) (fp : List Addr), PE (X.blk s H scope (compEnvC scope cl C X.env) fp) elt te) (hs : ∀ x, foldedSetIterable iter X.env x = pure x := by intro _; rfl) :
    PE X (.ListComp elt [⟨tg, iter, ifs, 0⟩] scope pos) (tLc wi g tt te (own.map (·.2))) := by
  refine ⟨fun pins s σ H Q I h => ?_⟩
  rw [eval_ListComp]
  refine lc_coreG hN I hi ok hg ht he hs h fun D C s' m H' I' q hn f => ⟨m, hn, fun h'' sb => ?_⟩
  obtain ⟨f0, f1, f2, f3, f4, f5⟩ := f
  exact ⟨.ref D, H', I'.turned (t' := s'.toks) (fun b o hb e => (sb.2 b hb).trans e) f0 f1 f3 f4 f5, rfl, q⟩
end
end GenF
/-! how an own generator is made, and woken -/
namespace GenF
open PySem PySem.Spec PyProof.Rows GenW L2
/-- what stands fixed, as the generator's side sees it -/
structure GStat (G : Gs) (mg : Str → Option Value) : Prop where
  mod : Mod G.K mg G.base
  bsz : G.base.objs.size ≤ G.F
  bnt : ∀ b o, G.base.get? b = some o → G.H1 b = none
  stk : ∀ b ∈ frs G.stk, b < G.F ∧ G.H1 b = none
  frames : G.A.frames = some G.stk
  hd : G.A.handled = none
  tup : ∀ b xs, Rd G.H1 b (.tup xs) → b < G.F
  Fa : G.F < G.a
  goc : ∀ v, G.go.data ≠ .cell v
/-- the generator's view: the tuples it may read, and all that is younger than its frame, as they stand -/
def Hw0 (G : Gs) (sn : Shared) : Hp := fun b =>
  if b < G.F then (match tupsOf G.H1 b, sn.heap.get? b with
    | some (.tup xs), some o => some (.frz o (.tup xs))
    | _, _ => none)
  else if b = G.F then none else (sn.heap.get? b).map fun o => .frz o (.own b)
theorem Hw0_none {G : Gs} {sn : Shared} {b : Addr} (lt : b < G.F) (e : G.H1 b = none) : Hw0 G sn b = none := by
  unfold Hw0
  rw [if_pos lt, tupsOf_none e]
theorem Hw0_F {G : Gs} {sn : Shared} : Hw0 G sn G.F = none := by
  unfold Hw0
  rw [if_neg (Nat.lt_irrefl _), if_pos rfl]
theorem Hw0_up {G : Gs} {sn : Shared} {b : Addr} {o : Obj} (lt : G.F < b) (e : sn.heap.get? b = some o) : Hw0 G sn b = some (.frz o (.own b)) := by
  unfold Hw0
  rw [if_neg (Nat.lt_asymm lt), if_neg (Nat.ne_of_gt lt), e]; rfl
theorem Hw0_upn {G : Gs} {sn : Shared} {b : Addr} (lt : G.F < b) (e : sn.heap.get? b = none) : Hw0 G sn b = none := by
  unfold Hw0
  rw [if_neg (Nat.lt_asymm lt), if_neg (Nat.ne_of_gt lt), e]; rfl
theorem Hw0_lt {G : Gs} {sn : Shared} {b : Addr} {u : HO} (lt : b < G.F) (e : Hw0 G sn b = some u) : ∃ xs o, u = .frz o (.tup xs) ∧ Rd G.H1 b (.tup xs) ∧ sn.heap.get? b = some o := by
  unfold Hw0 at e
  rw [if_pos lt] at e
  cases q : tupsOf G.H1 b with
  | none => rw [q] at e; cases e
  | some v =>
    obtain ⟨xs, rfl, r⟩ := tupsOf_inv q
    rw [q] at e
    cases q2 : sn.heap.get? b with
    | none => rw [q2] at e; cases e
    | some o => rw [q2] at e; cases e; exact ⟨xs, o, rfl, r, rfl⟩
theorem Hw0_ok {G : Gs} {own : List (Addr × Obj)} {sn : Shared} (W : Wk G own sn) : HOk G.P G.w (Hw0 G sn) sn.heap := fun b u e => by
  by_cases lt : b < G.F
  · obtain ⟨xs, o, rfl, r, e2⟩ := Hw0_lt lt e
    exact ⟨e2, W.data b xs r⟩
  · by_cases eq : b = G.F
    · rw [eq, Hw0_F] at e; cases e
    · have gt : G.F < b := Nat.lt_of_le_of_ne (Nat.le_of_not_lt lt) (Ne.symm eq)
      cases q : sn.heap.get? b with
      | none => rw [Hw0_upn gt q] at e; cases e
      | some o => rw [Hw0_up gt q] at e; cases e; exact ⟨q, _, q⟩
/-- the tuples are read in it -/
theorem Hw0_sq {G : Gs} {mg : Str → Option Value} {own : List (Addr × Obj)} {sn : Shared} (S : GStat G mg) (W : Wk G own sn) : ∀ a xs, SqT G.K (tupsOf G.H1) a xs → SqT G.K (Hw0 G sn) a xs := fun a xs s => by
  rcases s with (s | ⟨o, s⟩) | s
  · obtain ⟨ys, e, r⟩ := tupsOf_inv s
    cases e
    obtain ⟨_, its, _, o, ho, _⟩ := W.data a xs r
    refine .inl (.inr ⟨o, ?_⟩)
    unfold Hw0
    rw [if_pos (S.tup a xs r), tupsOf_rd r, ho]
  · obtain ⟨ys, e, _⟩ := tupsOf_inv s
    cases e
  · exact .inr s
/-- .. and back -/
theorem Hw0_qs {G : Gs} {mg : Str → Option Value} {sn : Shared} : ∀ a xs, (Hw0 G sn a = some (.tup xs) ∨ ∃ o, Hw0 G sn a = some (.frz o (.tup xs))) → tupsOf G.H1 a = some (.tup xs) := fun a xs s => by
  have low : ∀ u, Hw0 G sn a = some u → (∀ o b, u ≠ .frz o (.own b)) → a < G.F := fun u e n => by
    by_cases lt : a < G.F
    · exact lt
    · by_cases eq : a = G.F
      · rw [eq, Hw0_F] at e; cases e
      · have gt : G.F < a := Nat.lt_of_le_of_ne (Nat.le_of_not_lt lt) (Ne.symm eq)
        cases q : sn.heap.get? a with
        | none => rw [Hw0_upn gt q] at e; cases e
        | some o => rw [Hw0_up gt q] at e; cases e; exact absurd rfl (n _ _)
  rcases s with s | ⟨o, s⟩
  · obtain ⟨ys, o', e, _⟩ := Hw0_lt (low _ s (fun _ _ => HO.noConfusion)) s
    cases e
  · obtain ⟨ys, o', e, r, _⟩ := Hw0_lt (low _ s (fun _ _ z => by cases z)) s
    cases e
    exact tupsOf_rd r
/-- the context of a piece of its run -/
def cxG (G : Gs) (mg : Str → Option Value) (N : List Str) (qual : Str) (scope : Scope) (f : Addr) (cd : Value) (Hw : Hp) (sn : Shared) : Cx where
  prog := G.P
  w := G.w
  K := G.K
  mg := mg
  base := G.base
  A := G.A.in1.deeper (envOfC qual scope G.F f cd)
  N := N
  s_0 := { sn with heap := cutH sn.heap G.F }
  H_0 := Hw
  env := envOfC qual scope G.F f cd
  outer := G.stk
  stack := envOfC qual scope G.F f cd :: G.stk
  ex := []
  calm := true
  fn := fun _ => true
  pn := []
  xe := fun _ _ => False
structure NoCells (sc : Scope) : Prop where
  kind : sc.kind = .function
  co : sc.isCoroutine = false
  gen : sc.isGenerator = true
  cells : ∀ n, cellsFrom n sc.names [] = []
  none : ∀ x, sc.names.lookup x ≠ some .cell ∧ sc.names.lookup x ≠ some .free
section
variable {G : Gs} {mg : Str → Option Value} {N : List Str} {qual : Str} {scope : Scope} {f : Addr} {cd : Value} {own : List (Addr × Obj)} {sn s1 : Shared} {Hw : Hp} {σ : L2.St}
theorem inv_wake (S : GStat G mg) (C : NoCells scope) (W : Wk G own sn) (lo : ∀ b, b < G.F → Hw b = Hw0 G sn b) (hF : Hw G.F = none) (ok : HOk G.P G.w Hw sn.heap) {m : Str → Option Value} (hN : sn.heap.Ns G.F m) (hl : σ.length = N.length)
    (hσ : ∀ (i : Nat) (x : Str) (v : V), N[i]? = some x → σ[i]? = some (some v) → ∃ u, RelV v u ∧ m x = some u ∧ scope.names.lookup x = some .local) : Inv (cxG G mg N qual scope f cd Hw sn) [] σ Hw sn := by
  have lt := hN.lt
  have csz : (cutH sn.heap G.F).objs.size = G.F := cutH_size (Nat.le_of_lt lt)
  have cu : ∀ b o, b < G.F → sn.heap.get? b = some o → (cutH sn.heap G.F).get? b = some o := fun b o l e => by rw [cutH_get l]; exact e
  have nc : ∀ x, (envOfC qual scope G.F f cd).cells.lookup x = none := fun x => by
    show (cellsFrom (G.F + 1) scope.names []).lookup x = none
    rw [C.cells]; rfl
  have nc' : ∀ {x c} {p : Prop}, (envOfC qual scope G.F f cd).cells.lookup x = some c → p := fun {x c p} e => by rw [nc x] at e; cases e
  have noA : ∀ {b : Addr} {p : Prop}, b ∈ (cxG G mg N qual scope f cd Hw sn).ex → p := fun {b p} z => absurd (show b ∈ ([] : List Addr) from z) (by simp)
  have hlow : ∀ b, b < G.F → G.H1 b = none → Hw b = none := fun b l e => by rw [lo b l]; exact Hw0_none l e
  refine ⟨⟨S.mod, C.kind, rfl, rfl, Nat.le_of_eq csz, fun _ _ _ e _ => nc' e, fun x hx => ?_, fun _ _ _ e => nc' e, fun _ => S.hd, Around.frames_deeper (A := G.A.in1) S.frames, .inr ⟨rfl, rfl⟩, fun b hb => noA hb, fun b o e => ?_, Nat.le_trans S.bsz (Nat.le_of_eq csz.symm), fun b o _ hb => noA hb, fun b hb => noA hb, ?_, fun b hb => ?_⟩,
    rfl, W.bare, Un.kept fun b o e => (cutH_of e).2, ⟨m, hN, fun i x v h1 h2 _ => ?_⟩, fun _ _ e => nc' e, hF, fun _ _ e => nc' e, fun p hp => absurd (show p ∈ ([] : List (Addr × Obj)) ++ [] from hp) (by simp), ok, hl⟩
  · rcases hx with hx | hx
    · exact absurd hx (C.none x).1
    · exact absurd hx (C.none x).2
  · have l := Nat.lt_of_lt_of_le (Heap.lt_size e) S.bsz
    exact ⟨cu b o l (W.bs b o e), hlow b l (S.bnt b o e)⟩
  · exact funs_slots W.funs fun b hb o e => ⟨o.slots, cu b o (S.stk b hb).1 e⟩
  · exact hlow b (S.stk b hb).1 (S.stk b hb).2
  · obtain ⟨u, r, e, k⟩ := hσ i x v h1 h2
    exact ⟨u, r, .inl ⟨k, e⟩⟩
theorem stp_of {pins : List (Addr × Obj)} {H : Hp} (S : GStat G mg) (W : Wk G own sn) (I : Inv (cxG G mg N qual scope f cd Hw sn) pins σ H s1) (hw : ∀ b, ¬ OwnF G.x sn.heap G.F b → Hw b = Hw0 G sn b) (lo : ∀ b, b < G.F → Hw b = Hw0 G sn b)
    (there : ∀ b, OwnF G.x sn.heap G.F b → b ≠ G.F → ∃ o, s1.heap.get? b = some o) : Stp G sn s1 := by
  have frz : ∀ b o u, Hw b = some (.frz o u) → s1.heap.get? b = some o := fun b o u e => (I.hok b _ (I.base.frzs b o u e)).1
  have noA : ∀ b : Addr, b ∉ (cxG G mg N qual scope f cd Hw sn).ex := fun b z => absurd (show b ∈ ([] : List Addr) from z) (by simp)
  have keep : ∀ b o, sn.heap.get? b = some o → ¬ OwnF G.x sn.heap G.F b → b ∉ frs G.stk → s1.heap.get? b = some o := fun b o e no nf => by
    by_cases lt : b < G.F
    · cases q : Hw b with
      | none => exact I.base.keep b o (by show (cutH sn.heap G.F).get? b = _; rw [cutH_get lt]; exact e) q nf (noA b)
      | some u =>
        have q' := q
        rw [hw b no] at q'
        obtain ⟨xs, o', rfl, _, e2⟩ := Hw0_lt lt q'
        rw [e] at e2
        cases e2
        exact frz b o _ q
    · have ne : b ≠ G.F := fun z => no (.inl z)
      have gt : G.F < b := Nat.lt_of_le_of_ne (Nat.le_of_not_lt lt) (Ne.symm ne)
      have q := hw b no
      rw [Hw0_up gt e] at q
      exact frz b o _ q
  have slot : ∀ b o, sn.heap.get? b = some o → b ∈ frs G.stk → ∃ sl, s1.heap.get? b = some { o with slots := sl } := fun b o e hb => by
    obtain ⟨lt, hn⟩ := S.stk b hb
    exact I.base.slot b o (by show (cutH sn.heap G.F).get? b = _; rw [cutH_get lt]; exact e) (by show Hw b = none; rw [lo b lt]; exact Hw0_none lt hn) hb (noA b)
  refine ⟨I.os, I.bare, keep, slot, fun b o e => ?_⟩
  by_cases q : OwnF G.x sn.heap G.F b
  · by_cases ne : b = G.F
    · obtain ⟨m, ⟨o', _, _, e', _⟩, _⟩ := I.loc
      exact ⟨o', by rw [ne]; exact e'⟩
    · exact there b q ne
  · by_cases hb : b ∈ frs G.stk
    · obtain ⟨sl, e1⟩ := slot b o e hb
      exact ⟨_, e1⟩
    · exact ⟨o, keep b o e q hb⟩
end
/-- what a generator def promises: n items, the i-th one as «it» says, read in the tuples of the heap of its making -/
abbrev SpI := List V → Hp → Nat → (Nat → V → Prop) → Prop
def GMk (P : Program) (w : World) (K : PySem.W.Frag) (base : Heap) (A : Around) (outer : List Env) (s : Shared) (H : Hp) (n : Nat) (it : Nat → V → Prop) (u : Value) (s' : Shared) : Prop :=
  ∃ (G : Gs) (fp : List Addr), u = .ref G.a ∧ (G.P = P ∧ G.w = w ∧ G.K = K ∧ G.base = base ∧ G.A = A ∧ G.stk = outer ∧ G.H1 = H ∧ G.n = n ∧ G.it = it) ∧ Slp G 0 fp s' ∧ s'.os = s.os ∧ AllBare s'.gens ∧ (∀ b o, s.heap.get? b = some o → s'.heap.get? b = some o) ∧ (∀ b ∈ fp, s.heap.objs.size ≤ b) ∧
    (∀ h : Heap, h.get? G.a = some G.go → h.IsGen G.a G.g) ∧ A.handled = none ∧ A.depth < recursionLimit
structure GFnG (P : Program) (w : World) (K : PySem.W.Frag) (mg : Str → Option Value) (base : Heap) (k : Nat) (f : Addr) (fd : FuncData) (ps : List Str) (sp : SpI) : Prop where
  len : ∀ vs H n it, sp vs H n it → vs.length = ps.length
  run : ∀ (A : Around) (outer : List Env) (s : Shared) (H : Hp) (args : Args) (us : List Value) (vs : List V) (n : Nat) (it : Nat → V → Prop), Room k A → Env0 P w K mg base A outer s H → BindsTo s fd args (ps.zip us) → Vals vs us → sp vs H n it →
    codeAny (model P w) A (.call (.ref f) args) (fun r s' => match r with | .ok (.ret u) => GMk P w K base A outer s H n it u s' | _ => False) s
/-- a generator def, by its body. x: the one name under which it keeps a list of its own -/
theorem gfnG_of {P : Program} {w : World} {K : PySem.W.Frag} {mg : Str → Option Value} {base : Heap} {k : Nat} {f : Addr} {name qual : Str} {params : Arguments} {body : List Stmt} {scope : Scope} {dV kV doc pm cdv ct oc : Value} {an od : Option Addr}
    {osl : Array (Option Value)} {N ps : List Str} {sp : SpI} (x : Str) (lk : K.lookup f = some ⟨oc, od, .func (PySem.W.fnOf name qual params body scope dV kV doc pm an cdv ct), osl⟩) (hcd : PySem.W.codeIn K cdv qual = true) (C : NoCells scope) (hpre : N.take ps.length = ps) (hnd : N.Nodup)
    (hpar : ∀ y ∈ ps, scope.names.lookup y = some .local) (hx : x ∉ ps) (len : ∀ vs H n it, sp vs H n it → vs.length = ps.length)
    (hbody : ∀ (G : Gs) (vs : List V) (own : List (Addr × Obj)) (sn : Shared), G.P = P → G.w = w → G.K = K → G.base = base → G.x = x → GStat G mg → Room k (G.A.in1.deeper (envOfC qual scope G.F f cdv)) → sp vs G.H1 G.n G.it → Wk G own sn → (G.a, G.go) ∈ own →
      (∀ b, ¬ (OwnF x sn.heap G.F b ∧ b ≠ G.F)) → Inv (cxG G mg N qual scope f cdv (Hw0 G sn) sn) [] (L2.start N vs) (Hw0 G sn) sn →
      Seg (model G.P G.w) G.A.in1 (GRe G) (GYp G) G.n sn (.func body (envOfC qual scope G.F f cdv)) ((model G.P G.w).den (.func body (envOfC qual scope G.F f cdv))) [] sn) :
    GFnG P w K mg base (k + 2) f (PySem.W.fnOf name qual params body scope dV kV doc pm an cdv ct) ps sp := by
  refine ⟨len, fun A outer s H args us vs n it hr e0 hb r hsp => ?_⟩
  have hl := len _ _ _ _ hsp
  have KX : K.In s.heap := e0.mod.kin.keeps fun b o e => (e0.bs b o e).1
  have lim : s.heap.NoLimit := e0.mod.nolimit.keeps fun b o e => (e0.bs b o e).1
  have hkind : ∀ y ∈ ps.zip us, scope.names.lookup y.1 = some .local ∨ (scope.names.lookup y.1 = some .cell ∧ ((cellsFrom (s.heap.objs.size + 1) scope.names []).lookup y.1).isSome = true) := fun ⟨n, v⟩ hy => .inl (hpar n (List.of_mem_zip hy).1)
  refine codeAny_call_generator hr.depth (KX _ _ lk) rfl C.co C.gen rfl (PySem.W.codeRec_of KX hcd) (hb _ _ _ _ ?_)
  refine wpAny_newFunctionEnv_cells C.kind hkind fun env he s1 xx => ?_
  subst he
  have lim1 : s1.heap.NoLimit := lim.keeps xx.toInCall.keep
  refine ⟨lim1, ?_⟩
  obtain ⟨h1, tk, es1, hk1⟩ := xx.done
  have os1 : s1.os = s.os := by rw [es1]
  have gen1 : s1.gens = s.gens := by rw [es1]
  have lt1 : s.heap.objs.size < s1.heap.objs.size := xx.toInCall.ns.lt
  have kp1 : ∀ b o, s.heap.get? b = some o → s1.heap.get? b = some o := xx.toInCall.keep
  have main : ∀ (go : Obj) (nm qn : Value) (tk2 : Nat), go.cls = .type "generator" → go.data = .fields #[.int s1.gens.size 0, nm, qn] → go.slots = #[] → (∀ h : Heap, (h.push go).get? h.objs.size = some go) →
      GMk P w K base A outer s H n it (.ref s1.heap.objs.size) { s1 with gens := s1.gens.push (.fresh (.func body (envOfC qual scope s.heap.objs.size f cdv))), toks := tk2, heap := s1.heap.push go } := by
    intro go nm qn tk2 hgc hgd0 hgs hgp
    have hns := xx.toInCall.ns
    obtain ⟨fo, fes, fep, hfo, hfd, hfr⟩ := id hns
    have hfo2 : (s1.heap.push go).get? s.heap.objs.size = some fo := Heap.get?_push_of_some _ hfo
    have ng : ∀ v, go.data ≠ .cell v := fun v q => by rw [hgd0] at q; cases q
    have nF : ∀ v, fo.data ≠ .cell v := fun v q => by rw [hfd] at q; cases q
    have ownE : ∀ (h : Heap) (b : Addr), h.get? s.heap.objs.size = some fo → OwnF x h s.heap.objs.size b → b = s.heap.objs.size := fun h b e q => by
      rcases q with q | ⟨m, hm, hmx⟩
      · exact q
      · have hn2 : h.Ns s.heap.objs.size _ := ⟨fo, fes, fep, e, hfd, hfr⟩
        have := hn2.agree hm x
        rw [hmx, bindL_out fun v hv => hx (List.of_mem_zip hv).1] at this
        cases this
    refine ⟨⟨P, w, K, base, A, outer, s.heap.objs.size, s1.heap.objs.size, s1.gens.size, go, x, H, n, it⟩, [s1.heap.objs.size, s.heap.objs.size], rfl, ⟨rfl, rfl, rfl, rfl, rfl, rfl, rfl, rfl, rfl⟩,
      ⟨_, [(s1.heap.objs.size, go), (s.heap.objs.size, fo)], Array.getElem?_push_size .., rfl, List.mem_cons_self, fun p hp => ?_, fun b hb => ?_, .inl rfl, fun sn W => ⟨rfl, ?_⟩⟩, os1, ?_, fun b o e => Heap.get?_push_of_some _ (kp1 b o e), fun b hb => ?_, fun h e => ⟨go, nm, qn, e, hgc, hgd0, hgs⟩, hr.hd, hr.depth⟩
    · rcases List.mem_cons.mp hp with z | z
      · rw [z]; exact ⟨hgp _, ng⟩
      · rw [List.mem_singleton.mp z]
        exact ⟨hfo2, nF⟩
    · rw [ownE _ b hfo2 hb]
      exact List.mem_cons_of_mem _ List.mem_cons_self
    · have S : GStat ⟨P, w, K, base, A, outer, s.heap.objs.size, s1.heap.objs.size, s1.gens.size, go, x, H, n, it⟩ mg := by
        refine ⟨e0.mod, e0.bsz, fun b o e => (e0.bs b o e).2, fun b hb => ⟨?_, e0.frf b hb⟩, e0.frames, hr.hd, fun b xs r => ?_, lt1, ng⟩
        · obtain ⟨_, o, ho, _⟩ := e0.funs.mem hb
          exact Heap.lt_size ho
        · exact (r.ok e0.hok).lt
      have eF : sn.heap.get? s.heap.objs.size = some fo := W.own (s.heap.objs.size, fo) (List.mem_cons_of_mem _ List.mem_cons_self)
      refine hbody ⟨P, w, K, base, A, outer, s.heap.objs.size, s1.heap.objs.size, s1.gens.size, go, x, H, n, it⟩ vs [(s1.heap.objs.size, go), (s.heap.objs.size, fo)] sn rfl rfl rfl rfl rfl S ((hr.in1).deeper _) hsp W List.mem_cons_self (fun b z => z.2 (ownE _ b eF z.1)) ?_
      refine inv_wake S C W (fun _ _ => rfl) Hw0_F (Hw0_ok W) (m := bindL (envOfC qual scope s.heap.objs.size f cdv).kindOf (ps.zip us) fun _ => none) ⟨fo, fes, fep, eF, hfd, hfr⟩ ?_ fun i y v h1 h2 => ?_
      · unfold L2.start
        have := congrArg List.length hpre
        rw [List.length_take] at this
        rw [List.length_append, List.length_map, List.length_replicate]
        omega
      · have hi : i < vs.length := by
          unfold L2.start at h2
          by_cases hi : i < vs.length
          · exact hi
          · rw [List.getElem?_append_right (by simpa using hi), List.getElem?_replicate] at h2
            split at h2 <;> cases h2
        have ha : vs[i]? = some v := by
          unfold L2.start at h2
          rw [List.getElem?_append_left (by simpa using hi), List.getElem?_map] at h2
          cases e : vs[i]? with
          | none => rw [e] at h2; cases h2
          | some a => rw [e] at h2; cases h2; rfl
        obtain ⟨u, hu, rv⟩ := r.get ha
        have hp : ps[i]? = some y := by
          rw [← hpre, List.getElem?_take_of_lt (by omega)]; exact h1
        have ndP : ps.Nodup := by rw [← hpre]; exact hnd.sublist (List.take_sublist _ _)
        have k := hpar y (List.mem_of_getElem? hp)
        exact ⟨u, rv, bindL_get ndP hp hu k, k⟩
    · exact AllBare.push (by rw [gen1]; exact e0.bare) rfl
    · rcases List.mem_cons.mp hb with z | z
      · rw [z]; exact Nat.le_of_lt lt1
      · rw [List.mem_singleton.mp z]; exact Nat.le_refl _
  exact main _ _ _ _ rfl rfl rfl fun h => Heap.get?_push_size _ rfl
section
variable {X : Cx} {k : Nat} {f : Addr} {fd : FuncData} {ps : List Str} {sp : SpI} {x : Str} {p pos' : Pos} {e : Expr} {es : List Expr} {t : TA}
def iGen (sp : SpI) (t : TA) : TI := fun σ H R => t σ H fun vs H1 => ∃ n it, sp vs H1 n it ∧ ∀ G : Gs, G.H1 = H1 → G.n = n → G.it = it → R (Itg G) H1
/-- f(e, ..) of a generator def, walked -/
theorem pig_call (F : GFnG X.prog X.w X.K X.mg X.base k f fd ps sp) (hr : Room k X.A) (hg : Gl X x) (hm : X.mg x = some (.ref f)) (hk : PySem.W.keepIn X.K (.ref f) = true) (hb : Binds X.K fd ps [])
    (ha : PA X (e :: es) t) (hdb : (x == ("__debug__" : Str)) = false := by decide) (he : starEach (e :: es) X.env = (false, eval e X.env) :: starEach es X.env := by rfl) (hpl : (backTo pos' (starEach es X.env)).any (·.1) = false := by rfl) :
    PIG X (.Call (.Name x p) (e :: es) [] pos') (iGen sp t) := by
  refine ⟨fun pins s σ H R I h => ?_⟩
  refine wpAny_Call_Name_kw (ld_glob I hg hm ?_ hdb)
  refine PySem.W.callWith_K (h₀ := X.base) I.ok.mod.kin hk (thn (ha.run pos' pins s σ H _ I h) fun us s1 ⟨vs, H1, I1, r, n, it, hsp, q⟩ => ⟨I1.kIn, ?_⟩) he hpl
  have hl2 : us.length = ps.length := by rw [← r.length]; exact F.len _ _ _ _ hsp
  refine wpAny_call (codeAny_mono (F.run X.A X.stack s1 H1 ⟨us, []⟩ us vs n it hr I1.env0 (by have := hb s1 us I1.kIn (by rw [List.append_nil]; exact hl2); rw [List.append_nil] at this; exact this) r hsp) fun r s' hq => ?_)
  cases r with
  | error e => exact False.elim hq
  | ok fl =>
    cases fl with
    | next => exact False.elim hq
    | brk => exact False.elim hq
    | cont => exact False.elim hq
    | ret u =>
      obtain ⟨G, fp, rfl, ⟨e1, e2, e3, e4, e5, e6, e7, e8, e9⟩, st, hos, hba, kp, hfp, hgen, hh, hd⟩ := hq
      have O : GOk G X := ⟨e1.symm, e2.symm, e3.symm, e4.symm, e5.symm, e6.symm, by rw [e5]; exact hh, by rw [e5]; exact hd, hgen⟩
      have I2 : Inv X pins σ H1 s' := I1.call' (ch := []) hos (Un.kept kp) (I1.hok.kept kp) hba fun b z => by simp at z
      refine wpAny_pyIter_gen (st.gen O) ⟨G, fp, H1, rfl, O, I2, st, fun b hb => ?_, q G e7 e8 e9⟩
      exact I1.fpOk (hfp b hb) (I1.hok.fresh (hfp b hb))
end
end GenF
/-! list(g(..)) of an own generator def, run to its end -/
namespace PKL
open PySem PySem.Spec PyProof.Rows GenW L2
structure CalGE (P : Program) (w : World) (K : PySem.W.Frag) (mg : Str → Option Value) (base : Heap) (k : Nat) (x : Str) (sp : SpG) : Prop where
  ex : ∃ (f : Addr) (fd : FuncData) (ps : List Str), GFn P w K mg base k f fd ps sp ∧ mg x = some (.ref f) ∧ PySem.W.keepIn K (.ref f) = true ∧ Binds K fd ps []
theorem no_passes {X : Cx} : Passes (CX X.prog X.w) X C8.E0 := fun pins σ H s e s' I h => by
  obtain ⟨_, _, _, _, _, _, _, _, _, _, _, _, f⟩ := h
  exact f.elim
theorem pe_listOf {X : Cx} {j k : Nat} {x : Str} {sp : SpG} {p p2 pos pos2 : Pos} {e : Expr} {es : List Expr} {t : TA} (c : CalGE X.prog X.w X.K X.mg X.base k x sp) (hr : Room j X.A) (hk : k + 3 ≤ j) (hg2 : Gl X x) (ha : PA X (e :: es) t) (hg : Gl X "list") (hm : X.mg "list" = none) (hv : bootBuiltins "list" = some (.type "list"))
    (hdb : (x == ("__debug__" : Str)) = false := by decide) (he : starEach (e :: es) X.env = (false, eval e X.env) :: starEach es X.env := by rfl) (hpl : (backTo pos2 (starEach es X.env)).any (·.1) = false := by rfl)
    (he2 : starEach [.Call (.Name x p2) (e :: es) [] pos2] X.env = (false, eval (.Call (.Name x p2) (e :: es) [] pos2) X.env) :: starEach [] X.env := by rfl) :
    PE X (.Call (.Name "list" p) [.Call (.Name x p2) (e :: es) [] pos2] [] pos) (tListG (tCallG sp [] C8.E0 t)) := by
  obtain ⟨f, fd, ps, F, m, kp, b⟩ := c
  exact pe_listG (pgen_call F (hr.mono (by omega)) hg2 m kp b .nil ha hdb he hpl) no_passes (fun _ _ _ h => h.elim) (hr.mono hk) hg hm hv (he := he2)
end PKL
/-! sorted of a list of texts, any number of them -/
namespace PKS
open PySem L2
section
variable {X : Cx}
def rSortedSA (K : PySem.W.Frag) : List V → Hp → VK → Prop := fun vs H Q => ∃ (a : Addr) (xs : List Str), vs = [V.ref a] ∧ SqL K H a (xs.map V.str) ∧ xs.length ≤ sizeLine ∧
  ∀ (ys : List Str) (p : Addr), ys.Perm xs → PyProof.Rows.sortedS ys = true → H p = none → Q (.ref p) (upd H p (.lst (ys.map V.str)))
theorem cr_sortedSA : CallR X (.builtin "sorted") (rSortedSA X.K) := by
  intro pins s σ H vs us Q I r h
  obtain ⟨a, xs, rfl, hs, h64, q⟩ := h
  obtain ⟨its, rv, hl, _⟩ := I.list hs
  rw [Vals.ref1 r]
  have hlen0 := rv.length
  rw [List.length_map] at hlen0
  refine PyProof.Rows.sorted_strsAny hl.isList rv.strs (by rw [← hlen0]; exact h64) fun out ys h1 h2 h3 => ?_
  obtain ⟨ep, he'⟩ := PyProof.Rows.sortedAll_at s.heap its out
  have hlen : (ys.map V.str).length ≤ sizeLine := by rw [List.length_map, h2.length_eq]; exact h64
  exact ⟨.ref _, upd H (s.heap.objs.size + 1) (.lst (ys.map V.str)), I.laid (t' := s.toks) (fun _ _ => PyProof.Rows.sortedAll_old) (Nat.le_succ _) ⟨hlen, out.toList, ep, vals_of_strs h1, he'⟩, rfl, q ys _ h2 h3 (I.hok.fresh (Nat.le_succ _))⟩
end
end PKS
namespace PK
open PySem L2
/-- what len(xs) asks, by its name (within comprehensions) -/
def rLenS (K : PySem.W.Frag) : List V → Hp → VK → Prop := fun xs H Q => ∃ p ys, xs = [V.ref p] ∧ (SqL K H p ys ∨ SqT K H p ys) ∧ Q (.int ys.length) H
theorem call_lenS {X : Cx} : CallR X (.builtin "len") (rLenS X.K) := call_len_seq
end PK
namespace PKE
open PySem L2
/-! == and != of data of any depth that there is room for -/
section
variable {X : Cx}
def rEqN (K : PySem.W.Frag) (n : Nat) : R2 := fun x y H Q => ∃ d e, Dp K H x d ∧ Dp K H y e ∧ d.canLay0 = true ∧ e.canLay0 = true ∧ (d.depth ≤ n ∨ e.depth ≤ n) ∧ Q (.bl (PyData.eqv d e)) H
theorem op_eqN {n : Nat} (hu : X.A.units + n < cLine) : OpR X (compareOp .Eq) (rEqN X.K n) := by
  intro pins s σ H x y v u Q I rx ry h
  obtain ⟨d, e, hd, he, sd, se, hn, q⟩ := h
  obtain ⟨as, r1⟩ := Dp.reads I d x v hd rx
  obtain ⟨bs, r2⟩ := Dp.reads I e y u he ry
  refine SeqAt.compareEq_reads r1 r2 sd se ?_ ⟨.bl _, H, I, rfl, q⟩
  rcases hn with h | h
  · exact Nat.lt_of_le_of_lt (Nat.add_le_add_left (Nat.le_trans (Nat.min_le_left _ _) h) _) hu
  · exact Nat.lt_of_le_of_lt (Nat.add_le_add_left (Nat.le_trans (Nat.min_le_right _ _) h) _) hu
end
end PKE
/-! repr of data (lists and tuples of any depth that there is room for), where no repr is under way -/
namespace PKP
open PySem PySem.Spec PyProof.Rows L2
section
variable {X : Cx}
def rRepr (K : PySem.W.Frag) (n : Nat) : List V → Hp → VK → Prop := fun xs H Q => ∃ (a : Addr) (d : PyData), xs = [.ref a] ∧ Dp K H (.ref a) d ∧ d.showable = true ∧ d.hasDict = false ∧ d.depth ≤ n ∧ d.shown.length ≤ sizeLine ∧ Q (.str d.shown) H
theorem call_reprD {n : Nat} (hg : X.A.guards = some []) (hu : X.A.units + (n + 1) < cLine) : CallR X (.builtin "repr") (rRepr X.K n) := by
  intro pins s σ H xs us Q I r h
  obtain ⟨a, d, rfl, hd, hs, hn, hdep, hz, q⟩ := h
  cases r with
  | cons rx rest =>
    cases rest
    obtain ⟨as, rr⟩ := Dp.reads I d _ _ hd rx
    cases rx
    exact repr_of_reads' rr hs (fun z => by rw [hn] at z; cases z) hg (by omega) (fun b o e => e) (fun h' u tk k => ⟨.str d.shown, H, I.kept (t' := tk) k, ⟨_, rfl⟩, q⟩) hz
end
end PKP
/-! promises of defs that are called where no repr is under way (repr of data wants to know) -/
namespace FnG
open PySem PySem.Spec PyProof.Rows L2
/-- as FnOk, but only where the guards are known to be none -/
structure FnG (P : Program) (w : World) (K : PySem.W.Frag) (mg : Str → Option Value) (base : Heap) (CX : CXT) (k : Nat) (f : Addr) (fd : FuncData) (ps : List Str) (sp : Sp) : Prop where
  len : ∀ vs H Q E, sp vs H Q E → vs.length = ps.length
  run : ∀ (A : Around), A.guards = some [] → ∀ (outer : List Env) (s : Shared) (H : Hp) (args : Args) (us : List Value) (vs : List V) (Q : VK) (E : XK), Room k A → Env0 P w K mg base A outer s H → BindsTo s fd args (ps.zip us) → Vals vs us → sp vs H Q E →
    codeAny (model P w) A (.call (.ref f) args) (CR CX outer P w H s Q E) s
section
variable {P : Program} {w : World} {K : PySem.W.Frag} {mg : Str → Option Value} {base : Heap} {CX : CXT} {k : Nat} {f : Addr} {fd : FuncData} {N ps : List Str} {sp : Sp}
theorem of_ok (F : FnOk P w K mg base CX k f fd ps sp) : FnG P w K mg base CX k f fd ps sp := ⟨F.len, fun A _ => F.run A⟩
/-- a def by its body, the guards known -/
theorem of_body {x qual : Str} {st : Stmt} (F : Fun K x qual st f fd) (S : FnScope N ps (defScope st)) (len : ∀ vs H Q E, sp vs H Q E → vs.length = ps.length)
    (hbody : ∀ (cdv : Value) (A : Around), A.guards = some [] → ∀ (outer : List Env) (s : Shared) (H : Hp) (vs : List V) (Q : VK) (E : XK), Room k (A.deeper (envOfC qual (defScope st) s.heap.objs.size f cdv)) → sp vs H Q E →
      ∃ t, PSs (cxOf CX P w K mg base N qual (defScope st) f cdv A outer s H E) (defBody st) t ∧ t { nx := fun _ H' => Q .non H', rt := Q } (start N vs) H) : FnG P w K mg base CX (k + 1) f fd ps sp := by
  obtain ⟨oc, od, kV, doc, pm, an, cdv, ct, osl, rfl, lk, hcd⟩ := F.ex
  refine ⟨len, fun A gd outer s H args us vs Q E room env bd rel pre => ?_⟩
  have inK : K.In s.heap := env.mod.kin.keeps fun b o z => (env.bs b o z).1
  have noLim : s.heap.NoLimit := env.mod.nolimit.keeps fun b o z => (env.bs b o z).1
  refine codeAny_call_function room.depth (inK _ _ lk) rfl S.co S.gen rfl (PySem.W.codeRec_of inK hcd) (bd _ _ _ _ ?_)
  refine wpAny_newFunctionEnv_cells S.kind (fun y hy => ?_) fun e1 he s1 x1 => ?_
  · have m := S.par y.1 (List.of_mem_zip (show (y.1, y.2) ∈ ps.zip us from hy)).1
    exact m.imp id fun z => ⟨z, PySem.W.cellsFrom_some _ _ _ (.inl z)⟩
  subst he
  refine ⟨noLim.keeps x1.toInCall.keep, codeAny_func ?_⟩
  obtain ⟨t, ht, hq⟩ := hbody cdv A gd outer s H vs Q E (room.deeper _) pre
  have I := inv_start (CX := CX) (P := P) (w := w) (E := E) S room.hd env (len _ _ _ _ pre) rel x1
  refine wpAny_mono (ht.run [] s1 (start N vs) H _ I hq) (fun fl s2 done => ?_) fun _ _ z => z
  cases fl with
  | ret u =>
    obtain ⟨v, σ2, H2, J, rv, q⟩ := done
    exact ⟨v, H2, J.os, J.bare, J.base, J.hok, rv, q⟩
  | next =>
    obtain ⟨σ2, H2, J, q⟩ := done
    exact ⟨V.non, H2, J.os, J.bare, J.base, J.hok, rfl, q⟩
  | brk => exact done.elim fun _ z => z.elim fun _ z => z.2.elim
  | cont => exact done.elim fun _ z => z.elim fun _ z => z.2.elim
end
/-- what stands behind a law that said True: what was stands, nothing was written out -/
def Done (s1 : Shared) (r : Result) (s' : Shared) : Prop := r = .ok (.ret (.bool true)) ∧ OldK s1.heap s'.heap ∧ s'.os = s1.os ∧ AllBare s'.gens
section
variable {P : Program} {w : World} {K : PySem.W.Frag} {mg mb : Str → Option Value} {CX : CXT} {k : Nat} {fa a : Addr} {fd : FuncData} {x : Str} {sp : Sp} {s1 : Shared} {vs : List Value} {ns : List Int}
/-- the call, from a view of the heap that knows the script at most -/
theorem from_view (inK : K.In s1.heap) (gl : s1.heap.Ns mainGlobals mg) (bl : s1.heap.Ns builtinsNs mb) (bb : ∀ y : Str, y ≠ "__name__" → mb y = bootBuiltins y) (nl : s1.heap.NoLimit) (g0 : s1.gens = #[])
    (script : s1.heap.get? a = some { cls := .type "list", data := .seq vs.toArray }) (room : Room k callerA) (F : ∀ base : Heap, K.In base → base.Ns mainGlobals mg → FnG P w K mg base CX k fa fd [x] sp)
    (bd : ∀ (s : Shared) (u : Value), BindsTo s fd ⟨[u], []⟩ [(x, u)]) (noX : ∀ H e s', CX [] H s1 (fun _ _ _ => False) e s' → False)
    (H : Hp) (only : Only H) (ok : HOk P w H s1.heap) (at_ : ∀ b u, H b = some u → b = a) (notK : ∀ u, H a = some u → K.lookup a = none) (pre : sp [.ref a] H (fun v _ => v = .bl true) fun _ _ _ => False) :
    codeAny (model P w) callerA (.call (.ref fa) ⟨[.ref a], []⟩) (Done s1) s1 := by
  -- all but the script is in the base
  have low : ∀ {b : Addr} {o : Obj}, s1.heap.get? b = some o → b ≠ a → (hidT s1.heap H).get? b = some o := fun {b o} e ne => hidT_get e (by
    cases q : H b with
    | none => rfl
    | some u => exact absurd (at_ b u q) ne)
  have names : ∀ {b : Addr} {m : Str → Option Value}, s1.heap.Ns b m → (hidT s1.heap H).Ns b m := fun {b m} ⟨o, es, ep, e, d, r⟩ => ⟨o, es, ep, low e (fun z => by
    subst z
    rw [script] at e
    cases e
    cases d), d, r⟩
  have kIn : K.In (hidT s1.heap H) := fun b o e => by
    cases q : H b with
    | none => exact hidT_get (inK b o e) q
    | some u =>
      have z := at_ b u q
      subst z
      rw [notK u q] at e
      cases e
  have hM : Mod K mg (hidT s1.heap H) := ⟨kIn, names gl, ⟨mb, names bl, bb⟩, by
    obtain ⟨mc, z1, z2⟩ := nl
    exact ⟨mc, names z1, z2⟩⟩
  have none_in : ∀ b : Addr, b ∉ ([] : List Addr) := fun b z => List.not_mem_nil z
  have env : Env0 P w K mg (hidT s1.heap H) callerA [] s1 H := ⟨rfl, hM, fun _ _ => of_hidT, by rw [hidT_size]; exact Nat.le_refl _, trivial, fun b hb => (none_in b hb).elim, ok, .of_eq g0⟩
  have out := (F _ kIn (names gl)).run callerA rfl [] s1 H ⟨[.ref a], []⟩ [.ref a] [.ref a] _ _ room env (bd s1 _) (.cons rfl .nil) pre
  refine codeAny_mono out fun r s' h => ?_
  match r, h with
  | .error e, h => exact (noX H e s' h).elim
  | .ok .next, h => exact h.elim
  | .ok .brk, h => exact h.elim
  | .ok .cont, h => exact h.elim
  | .ok (.ret u), ⟨v, H2, os, bare, un, ok2, rv, q⟩ =>
    obtain rfl : v = .bl true := q
    obtain rfl : u = Value.bool true := rv
    refine ⟨rfl, OldK.of_keep fun b o e => ?_, os, bare⟩
    cases q : H b with
    | none => exact un.keep b o e q (none_in b) (none_in b)
    | some u =>
      rcases only b with z | ⟨ob, xs, z⟩
      · rw [q] at z; cases z
      · have kept := un.frzs b ob _ z
        have was := (ok b _ z).1
        have is := (ok2 b _ kept).1
        rw [e] at was
        cases was
        exact is
/-- the law is called at the top: the script is tracked as a list that is not written to, or it is an object of the module -/
theorem top_call (inK : K.In s1.heap) (gl : s1.heap.Ns mainGlobals mg) (bl : s1.heap.Ns builtinsNs mb) (bb : ∀ y : Str, y ≠ "__name__" → mb y = bootBuiltins y) (nl : s1.heap.NoLimit) (g0 : s1.gens = #[])
    (script : s1.heap.get? a = some { cls := .type "list", data := .seq vs.toArray }) (nums : IntsAre vs ns) (short : ns.length ≤ sizeLine) (room : Room k callerA) (F : ∀ base : Heap, K.In base → base.Ns mainGlobals mg → FnG P w K mg base CX k fa fd [x] sp)
    (bd : ∀ (s : Shared) (u : Value), BindsTo s fd ⟨[u], []⟩ [(x, u)]) (noX : ∀ H e s', CX [] H s1 (fun _ _ _ => False) e s' → False)
    (pre : ∀ H : Hp, SqL K H a (ns.map V.int) → sp [.ref a] H (fun v _ => v = .bl true) fun _ _ _ => False) :
    codeAny (model P w) callerA (.call (.ref fa) ⟨[.ref a], []⟩) (Done s1) s1 := by
  have rel := vals_ints nums
  cases kk : K.lookup a with
  | some o =>
    have same : o = { cls := .type "list", data := .seq vs.toArray } := Option.some.inj ((inK a o kk).symm.trans script)
    subst same
    have sq : SqL K (fun _ => none) a (ns.map V.int) := .inr ⟨_, vs.toArray, _, kk, rfl, rfl, rfl, by rw [List.size_toArray, nums.length]; exact short, by simpa using rel⟩
    exact from_view inK gl bl bb nl g0 script room F bd noX (fun _ => none) (fun _ => .inl rfl) (fun b u z => nomatch z) (fun b u z => nomatch z) (fun u z => nomatch z) (pre _ sq)
  | none =>
    let H0 : Hp := upd (fun _ => none) a (.frz { cls := .type "list", data := .seq vs.toArray } (.lst (ns.map V.int)))
    have here : H0 a = some (.frz { cls := .type "list", data := .seq vs.toArray } (.lst (ns.map V.int))) := upd_same
    have away : ∀ b, b ≠ a → H0 b = none := fun b hb => upd_ne hb
    have only : Only H0 := fun b => by
      by_cases hb : b = a
      · subst hb; exact .inr ⟨_, _, here⟩
      · exact .inl (away b hb)
    have ok : HOk P w H0 s1.heap := fun b u e => by
      by_cases hb : b = a
      · subst hb
        rw [here] at e
        cases e
        exact ⟨script, by rw [List.length_map]; exact short, vs, _, rel, script⟩
      · rw [away b hb] at e; cases e
    exact from_view inK gl bl bb nl g0 script room F bd noX H0 only ok (fun b u e => Decidable.byContradiction fun hb => by rw [away b hb] at e; cases e) (fun _ _ => kk) (pre _ (.inl (.inr ⟨_, here⟩)))
end
/-- the end of a law whose own def wants to know that no repr is under way -/
theorem walk_ofG {l : PySem.W.OpenLaw} {n k : Nat} {q : Program} {loose : List Str} {XP : (Str → Option Value) → Heap → Prop} {YP : World → Heap → Prop} {d : DefRec} {K : Params → PySem.W.Frag} {CX : World → CXT} {sp : World → Sp} {x : Str}
    (hn : l.most = some n) (hn2 : n ≤ sizeLine) (hdf : d.params.defaults = []) (room : Room k callerA) (hY : ∀ (w : World) (h : Heap), YP w h → (K w.params).In h)
    (F : ∀ (w : World) (mg : Str → Option Value) (fa : Addr) (h : Heap), (K w.params).In h → h.Ns mainGlobals mg → mg d.name = some (.ref fa) →
      ∃ fd : FuncData, (∀ (s : Shared) (u : Value), BindsTo s fd ⟨[u], []⟩ [(x, u)]) ∧ ∀ base : Heap, (K w.params).In base → base.Ns mainGlobals mg → FnG l.prog w (K w.params) mg base (CX w) k fa fd [x] (sp w))
    (pre : ∀ (w : World) (H : Hp) (a : Addr) (ns : List Int), ns.length ≤ n → SqL (K w.params) H a (ns.map V.int) → sp w [.ref a] H (fun v _ => v = .bl true) fun _ _ _ => False)
    (noX : ∀ (w : World) (H : Hp) (s : Shared) (e : Value) (s' : Shared), CX w [] H s (fun _ _ _ => False) e s' → False) : PySem.W.WalkO q loose XP YP l.row.toRowW d [] (fun f vs => PySem.call f vs) :=
  Att.attach_call hn hdf fun w s0 s1 mg mb fa o pm cd doc a vs ns G Y _ _ _ named script nums short g0 => by
    obtain ⟨fd, bd, f⟩ := F w mg fa _ (hY w _ Y) G.T.g named
    exact top_call (hY w _ Y) G.T.g G.T.b G.T.builtins G.T.nolimit g0 script nums (Nat.le_trans short hn2) room f bd (fun H e s' => noX w H s1 e s') fun H sq => pre w H a ns short sq
end FnG
namespace PKE
open PySem L2
/-! != of data of any depth that there is room for -/
section
variable {X : Cx}
def rNeN (K : PySem.W.Frag) (n : Nat) : R2 := fun x y H Q => ∃ d e, Dp K H x d ∧ Dp K H y e ∧ d.canLay0 = true ∧ e.canLay0 = true ∧ (d.depth ≤ n ∨ e.depth ≤ n) ∧ Q (.bl (!PyData.eqv d e)) H
theorem op_neN {n : Nat} (hu : X.A.units + n < cLine) : OpR X (compareOp .NotEq) (rNeN X.K n) := by
  intro pins s σ H x y v u Q I rx ry h
  obtain ⟨d, e, hd, he, sd, se, hn, q⟩ := h
  obtain ⟨as, r1⟩ := Dp.reads I d x v hd rx
  obtain ⟨bs, r2⟩ := Dp.reads I e y u he ry
  refine SeqAt.compareNe_reads r1 r2 sd se ?_ ⟨.bl _, H, I, rfl, q⟩
  rcases hn with h | h
  · exact Nat.lt_of_le_of_lt (Nat.add_le_add_left (Nat.le_trans (Nat.min_le_left _ _) h) _) hu
  · exact Nat.lt_of_le_of_lt (Nat.add_le_add_left (Nat.le_trans (Nat.min_le_right _ _) h) _) hu
end
end PKE
/-! del xs[m:], m from 0 to the length -/
namespace L2.PKR
open PySem PySem.Spec PyProof.Rows
theorem from_bounds {m n : Nat} (h : m ≤ n) : sliceBounds (some (m : Int)) none none n = ((m : Int), (n : Int), 1) := by
  simp only [sliceBounds, Option.getD_none]
  have h1 : ¬ (m : Int) < 0 := by omega
  simp only [h1, if_false, show (1 : Int) > 0 by decide, if_true]
  congr 1
  omega
section
variable {prog : Program} {w : World} {A : Around} {E : Value → Shared → Prop} {s : Shared}
theorem del_from {l sl : Addr} {its : List Value} {n m : Nat} {vl : Value} {Q : Unit → Shared → Prop} (e : s.heap.get? l = some { cls := .type "list", data := .seq its.toArray n }) (hs : s.heap.IsSliceOf sl vl .none .none)
    (pl : IsPart vl (some (m : Int))) (hm : m ≤ its.length) (hz : its.length ≤ sizeLine)
    (h : ∀ f : Array Value → Array Value, f its.toArray = (its.take (m)).toArray → Q () { s with heap := s.heap.update l (Obj.mapSeq f) }) : wpAny (model prog w) A (delItem (.ref l) (.ref sl)) Q E s := by
  have hl : s.heap.IsList l its.toArray := PySem.IsL.isList e
  obtain ⟨os, hos, hcs, hds⟩ := id hs
  have ty : s.TypeIs (.ref sl) "slice" := ⟨os, hos, hcs⟩
  refine wpAny_delItem_slot hl.typeIs (by decide) F.slot_list_delitem (wpAny_call_entry F.slot_list_delitem hl.typeIs F.entry_list_delitem ?_ (F.args_list_delitem_2 _ _))
  show wpAny _ _ (Builtin.List.listSubscript? (.ref sl) >>= _) _ _ s
  unfold Builtin.List.listSubscript?
  refine wpAny_bind (wpAny_bind (wpAny_specialOf ty slice_no_index ?_))
  simp only [Option.isNone_none, if_true]
  refine wpAny_pure ?_
  show wpAny _ _ (typeOf (.ref sl) >>= _) _ _ s
  refine wpAny_bind (wpAny_typeOf ty ?_)
  first | (rw [if_neg (by decide)]) | (refine PySem.W.KFB.if_not (by decide) ?_)
  rw [listSliceParts_eq]
  refine wpAny_bind (wpAny_bind (wpAny_field hos hds (x := .none) rfl (wpAny_bind (wpAny_listPart .none ?_)))); rw [if_neg (show ¬ ((rawPart none == rawInt 0) = true) from Bool.false_ne_true)]
  refine wpAny_bind (wpAny_field hos hds (x := vl) rfl (wpAny_bind (wpAny_listPart pl (wpAny_bind (wpAny_field hos hds (x := .none) rfl (wpAny_bind (wpAny_listPart .none (wpAny_pure ?_))))))))
  unfold Builtin.List.listItems
  refine wpAny_bind (wpAny_bind (wpAny_seqItems e rfl (wpAny_pure ?_)))
  refine wpAny_bind (wpAny_of_eq ((sliceIndices_raw (some (m : Int)) none none its.toArray.size (by simp)).trans (congrArg (pure : Int × Int × Int → Sem (Int × Int × Int)) (from_bounds (n := its.toArray.size) (by simpa using hm)))) ?_)
  refine wpAny_bind (wpAny_rule ?_)
  have lt : its.toArray.size = its.length := List.size_toArray
  show wpAny _ _ (updateSeq l _ >>= _) _ _ _
  refine wpAny_bind (wpAny_updateSeq (hz := by rw [lt]; exact hz) (_hz' := ?fit) e rfl (wpAny_bind (wpAny_letGo (wpAny_pure ⟨.none, rfl, h _ (congrArg List.toArray ?same)⟩))))
  case fit =>
    rw [List.size_toArray]
    exact Nat.le_succ_of_le (Nat.le_trans (List.length_filterMap_le _ _) (by rw [List.length_zipIdx]; exact hz))
  case same =>
    refine (keep_first (a := m) its 0 fun k hk => ?_)
    show (if (1 : Int) > 0 then (decide (((m : Nat) : Int) ≤ (k : Int)) && decide ((k : Int) < (its.toArray.size : Int)) && (((k : Int) - ((m : Nat) : Int)) % 1 == 0)) else _) = _
    rw [if_pos (by decide), lt, Int.emod_one]
    have k2 : (k : Int) < (its.length : Int) := by omega
    rw [decide_eq_true k2, Bool.and_true]
    by_cases q : m ≤ k
    · rw [decide_eq_true q, decide_eq_true (show ((m : Nat) : Int) ≤ (k : Int) by omega)]; rfl
    · rw [decide_eq_false q, decide_eq_false (show ¬ ((m : Nat) : Int) ≤ (k : Int) by omega)]; rfl
end
def tDelFrom (to ti : TE) : TS := fun D σ H => to σ H fun x H1 => ti σ H1 fun y H2 => ∃ (l : Addr) (xs : List V) (m : Nat), x = .ref l ∧ y = .int (m : Int) ∧ H2 l = some (.lst xs) ∧ m ≤ xs.length ∧ D.nx σ (upd H2 l (.lst (xs.take m)))
theorem ps_delFrom {X : Cx} {o i : Expr} {to ti : TE} {p2 tpos pos : Pos} (ho : PE X o to) (hi : PE X i ti) : PS X (.Delete [.Subscript o (.Slice (some i) none none p2) tpos] pos) (tDelFrom to ti) := by
  refine ⟨fun pins s σ H D I h => wpAny_Delete (wpAny_deleteEach_cons (wpAny_delete_Subscript (thn (ho.run pins s σ H _ I h) fun u s1 ⟨x, H1, I1, rx, q1⟩ => wpAny_Slice ?_)))⟩
  rw [evalPart_some]
  refine thn (hi.run pins s1 σ H1 _ I1 q1) fun v s2 ⟨y, H2, I2, ry, l, xs, m, ex, ey, hH, hm, q2⟩ => ?_
  subst ex ey
  cases (show u = Value.ref l from rx)
  obtain ⟨t, rfl⟩ := (show ∃ t, v = Value.int (m : Int) t from ry)
  rw [evalPart_none]
  refine wpAny_pure (wpAny_pure ?_)
  have I3 : Inv X pins σ H2 { s2 with heap := s2.heap.push { cls := .type "slice", data := .fields #[.int (m : Int) t, .none, .none] } } := I2.kept (t' := s2.toks) fun b ob z => Heap.get?_push_of_some _ z
  obtain ⟨hz, its, n, r, hl, e⟩ := I3.lstM hH
  refine del_from (m := m) e (Heap.IsSliceOf.new ..) (.int _ _) (by omega) (by omega) fun f hf => wpAny_deleteEach_nil ⟨σ, _, I3.lset (its' := its.take (m)) (t' := s2.toks) hH e hf (by exact r.take _) (by rw [List.length_take]; omega), q2⟩
end L2.PKR
namespace PK
open PySem L2
def topS (i : Nat) : Stmt := PySem.Challenge.pw_passproven_k59_terms_without_sources.main.body.getD i (.Pass ⟨0, 0, 0, 0⟩)
/-- xs[j] of a name -/
theorem vIx {K : PySem.W.Frag} {σ : L2.St} {H : Hp} {Q : VK} {i : Nat} {p : Addr} {xs : List V} {j : Int} {v : V} (h : σ[i]? = some (some (.ref p))) (hl : H p = some (.lst xs)) (ha : atI xs j = some v) (q : Q v H) :
    tOp (rIxL K) (tVar i) (tC (.int j)) σ H Q := ⟨_, h, p, xs, j, v, rfl, rfl, SqL.of hl, ha, q⟩
structure Txt (K : PySem.W.Frag) (mg : Str → Option Value) : Prop where
  z_len : mg "len" = none
  z_int : mg "int" = none
  z_range : mg "range" = none
  z_min : mg "min" = none
  z_str : mg "str" = none
  z_tuple : mg "tuple" = none
  z_sorted : mg "sorted" = none
  z_isinstance : mg "isinstance" = none
  z_any : mg "any" = none
  z_all : mg "all" = none
  z_list : mg "list" = none
  z_bool : mg "bool" = none
/-- all but what stands at l is as it was -/
def Keep (l : Addr) (H H' : Hp) : Prop := ∀ b o, b ≠ l → H b = some o → H' b = some o
def PoolR (H : Hp) (l c : Addr) (pos : Prop) : Prop := ∃ (ns : List Int) (i r s : Int), H l = some (.lst [.ref c, .int i, .int r, .int s]) ∧ H c = some (.lst (ns.map V.int)) ∧ c ≠ l ∧ (∀ n ∈ ns, 0 ≤ n) ∧ 0 ≤ i ∧ 0 ≤ r ∧ 0 ≤ s ∧ s < 2147483647 ∧ (pos → 0 < r)
abbrev Pool (H : Hp) (l c : Addr) : Prop := PoolR H l c False
/-- from H to H' the pool at l was drawn from, all else is kept -/
structure Ext (l c : Addr) (H H' : Hp) : Prop where
  keep : Keep l H H'
  pool : Pool H' l c
theorem Pool.ne {H : Hp} {l c p : Addr} (P : Pool H l c) (h : H p = none) : p ≠ l ∧ p ≠ c := by
  obtain ⟨ns, i, r, s, hl, hc, _⟩ := P
  exact ⟨(ne_of_none hl h).symm, (ne_of_none hc h).symm⟩
theorem Pool.upd {H : Hp} {l c p : Addr} {o : HO} (P : Pool H l c) (h1 : p ≠ l) (h2 : p ≠ c) : Pool (upd H p o) l c := by
  obtain ⟨ns, i, r, s, hl, hc, z⟩ := P
  exact ⟨ns, i, r, s, by rw [upd_ne h1.symm]; exact hl, by rw [upd_ne h2.symm]; exact hc, z⟩
theorem Ext.refl {l c : Addr} {H : Hp} (P : Pool H l c) : Ext l c H H := ⟨fun _ _ _ h => h, P⟩
theorem Ext.trans {l c : Addr} {H H1 H2 : Hp} (x : Ext l c H H1) (y : Ext l c H1 H2) : Ext l c H H2 := ⟨fun b o hb h => y.keep b o hb (x.keep b o hb h), y.pool⟩
/-- what was free ahead of the draws was free -/
theorem Ext.free {l c p : Addr} {H H' : Hp} (x : Ext l c H H') (P : Pool H l c) (h : H' p = none) : H p = none := by
  cases e : H p with
  | none => rfl
  | some o =>
    by_cases hb : p = l
    · subst hb
      obtain ⟨ns, i, r, s, hl, _⟩ := x.pool
      rw [hl] at h; cases h
    · rw [x.keep p o hb e] at h; cases h
theorem Ext.upd {l c p : Addr} {H H' : Hp} {o : HO} (x : Ext l c H H') (P : Pool H l c) (h : H p = none) : Ext l c H (L2.upd H' p o) :=
  ⟨fun b u hb hu => by rw [upd_ne (ne_of_none hu h)]; exact x.keep b u hb hu, x.pool.upd (P.ne h).1 (P.ne h).2⟩
theorem Ext.new {l c p : Addr} {H H' : Hp} {o : HO} (x : Ext l c H H') (P : Pool H l c) (h : H' p = none) : Ext l c H (L2.upd H' p o) := x.upd P (x.free P h)
theorem Ext.seqT {l c a : Addr} {K : PySem.W.Frag} {H H' : Hp} {xs : List V} (x : Ext l c H H') (P : Pool H l c) (h : SqT K H a xs) : SqT K H' a xs := by
  have nl : ∀ {o : HO}, H a = some o → (∀ ys, o ≠ .lst ys) → a ≠ l := fun e d z => by
    subst z
    obtain ⟨ns, i, r, s, hl, _⟩ := P
    rw [hl] at e; cases e
    exact d _ rfl
  rcases h with (h | ⟨o, h⟩) | h
  · exact .inl (.inl (x.keep _ _ (nl h (fun _ => HO.noConfusion)) h))
  · exact .inl (.inr ⟨o, x.keep _ _ (nl h (fun _ => HO.noConfusion)) h⟩)
  · exact .inr h
def spTake (n : Nat) : Sp := fun vs H Q _ => ∃ (l c : Addr) (m : Int) (p : Prop), vs = [.ref l, .int m] ∧ PoolR H l c p ∧ 0 < m ∧ m < 18446744073709551616 ∧ (2 ≤ n ∨ (1 ≤ n ∧ p)) ∧
  ∀ (d : Int) (H' : Hp), 0 ≤ d → d < m → Ext l c H H' → Q (.int d) H'
theorem vTake {σ : L2.St} {H : Hp} {Q : VK} {i : Nat} {m : Int} {l c : Addr} (h : σ[i]? = some (some (.ref l))) (P : Pool H l c) (h0 : 0 < m) (hm : m < 18446744073709551616)
    (q : ∀ (d : Int) (H' : Hp), 0 ≤ d → d < m → Ext l c H H' → Q (.int d) H') : tCall (spTake 2) [] E0 (tCons (tVar i) (tCons (tC (.int m)) tNil)) σ H Q :=
  ⟨_, h, l, c, m, False, rfl, P, h0, hm, .inl (Nat.le_refl 2), q⟩
section
variable {P : Program} {w : World} {K : PySem.W.Frag} {mg : Str → Option Value} {base : Heap}
abbrev s_law_take : Stmt := topS 12
theorem sc_law_take : FnScope ["pool", "many", "digit", "cell", "mixed"] ["pool", "many"] (defScope s_law_take) := ⟨rfl, rfl, rfl, by decide +kernel, rfl, by decide +kernel, by decide +kernel⟩
-- slots: 0:pool 1:many 2:digit 3:cell 4:mixed
theorem ok_take {n : Nat} {f : Addr} {fd : FuncData} (F : Fun K "_law_take" "_law_take" s_law_take f fd) (T : Txt K mg) (C_law_take : C8.Cal P w K mg base n "_law_take" (spTake n) []) :
    FnOk P w K mg base CX0 (n + 1) f fd ["pool", "many"] (spTake (n + 1)) := by
  refine F.ok sc_law_take (fun vs H Q E h => ?_) (fun cdv A outer s H vs Q E hr h => ?_)
  · obtain ⟨l, c, m, p, rfl, _⟩ := h
    rfl
  obtain ⟨l, c, m, p, rfl, ⟨ns, i, r, st, hl, hc, hcl, hns, hi, h0r, hs, hs2, hp⟩, hm, hm2, hn, q⟩ := h
  have hk : n ≤ n := Nat.le_refl n
  refine ⟨_, (pss_cons (ps_if (pt_cmpR op_gt (pe_ix ix_list (pv 0) pe_int (fun _ _ => rfl)) pe_int (nomark _)) (pss_cons (ps_set (i := 2) sc_law_take.nd rfl (Or.inl rfl) (pe_op op_mod (pe_callTy call_int1 (by rfl) T.z_int (by decide +kernel) (pa_cons (pe_ix ix_list (pv 0) pe_int (fun _ _ => rfl)) pa_nil)) (pv 1)))
    (pss_cons (ps_asg (pe_op op_fdivW (pe_ix ix_list (pv 0) pe_int (fun _ _ => rfl)) (pv 1)) (pg_sub (pv 0) pe_int set_list))
    (pss_one (ps_ret (pv 2))))) pss_nil)
    (pss_cons (ps_set (i := 3) sc_law_take.nd rfl (Or.inl rfl) pe_int)
    (C8.pss_cut (ps_if (pt_cmpR op_lt (pe_ix ix_list (pv 0) pe_int (fun _ _ => rfl)) (pe_callB call_len_seq (by rfl) T.z_len (by decide +kernel) (pa_cons (pe_ix ix_list (pv 0) pe_int (fun _ _ => rfl)) pa_nil)) (nomark _)) (pss_one (ps_set (i := 3) sc_law_take.nd rfl (Or.inl rfl) (pe_ix ix_list (pe_ix ix_list (pv 0) pe_int (fun _ _ => rfl)) (pe_ix ix_list (pv 0) pe_int (fun _ _ => rfl)) (fun _ _ => rfl)))) pss_nil)
    (pss_cons (ps_asg (pe_op op_add (pe_ix ix_list (pv 0) pe_int (fun _ _ => rfl)) pe_int) (pg_sub (pv 0) pe_int set_list))
    (pss_cons (ps_if (pt_cmpR op_ge (pv 3) (pe_op op_pow pe_int pe_int) (nomark _)) (pss_cons (ps_asg (pe_op op_fdivW (pv 3) pe_int) (pg_sub (pv 0) pe_int set_list))
    (pss_one (ps_ret (C8.pe_c C_law_take hr hk rfl (pa_cons (pv 0) (pa_cons (pv 1) pa_nil)))))) pss_nil)
    (pss_cons (ps_asg (pe_op op_mod (pe_callTy call_int1 (by rfl) T.z_int (by decide +kernel) (pa_cons (pe_op op_add (pe_op op_add (pe_op op_mul (pe_ix ix_list (pv 0) pe_int (fun _ _ => rfl)) pe_int) (pe_op op_mul (pv 3) pe_int)) (pe_op op_mul (pe_ix ix_list (pv 0) pe_int (fun _ _ => rfl)) pe_int)) pa_nil)) pe_int) (pg_sub (pv 0) pe_int set_list))
    (pss_cons (ps_set (i := 4) sc_law_take.nd rfl (Or.inl rfl) (pe_op op_mod (pe_callTy call_int1 (by rfl) T.z_int (by decide +kernel) (pa_cons (pe_op op_add (pe_op op_add (pe_op op_mul (pe_ix ix_list (pv 0) pe_int (fun _ _ => rfl)) (pe_ix ix_list (pv 0) pe_int (fun _ _ => rfl))) (pe_op op_mul (pe_ix ix_list (pv 0) pe_int (fun _ _ => rfl)) pe_int)) pe_int) pa_nil)) pe_int))
    (pss_one (ps_ret (pe_op op_mod (pe_callTy call_int1 (by rfl) T.z_int (by decide +kernel) (pa_cons (pe_op op_fdivW (pv 4) pe_int) pa_nil)) (pv 1))))))))))), ?_⟩
  have lgm : m.natAbs.log2 < 9000 := (wide_div (i := 0) (b := 64) hm (by rw [show (2 : Nat) ^ 64 = 18446744073709551616 from rfl]; omega) (by decide) (by decide)).2
  have lg2 : (2 : Int).natAbs.log2 < 9000 := by decide
  have ext : ∀ i' r' s' : Int, 0 ≤ i' → 0 ≤ r' → 0 ≤ s' → s' < 2147483647 → ∀ pp : Prop, (pp → 0 < r') → Keep l H (upd H l (.lst [.ref c, .int i', .int r', .int s'])) ∧ PoolR (upd H l (.lst [.ref c, .int i', .int r', .int s'])) l c pp := fun i' r' s' h1 h2 h3 h4 pp hpp =>
    ⟨fun b o hb hbo => by rw [upd_ne hb]; exact hbo, ns, i', r', s', upd_same, by rw [upd_ne hcl]; exact hc, hcl, hns, h1, h2, h3, h4, hpp⟩
  -- pool[2] > 0
  refine vIx rfl hl rfl ⟨_, _, rfl, rfl, _, rfl, ?_⟩
  refine ite2 (fun e => ?_) (fun e => ?_)
  · have e' : 0 < r := of_decide_eq_true e
    refine ⟨_, rfl, l, _, _, _, rfl, rfl, SqL.of hl, rfl, .inl ⟨_, rfl, _, rfl, _, _, rfl, rfl, hm, ?_⟩⟩
    refine vIx rfl hl rfl ⟨_, rfl, _, _, rfl, rfl, ⟨hm, lgm⟩, ?_⟩
    refine ⟨_, rfl, l, _, 2, 2, rfl, rfl, hl, rfl, _, rfl, ?_⟩
    have z := ext i (r / m) st hi (Int.ediv_nonneg h0r (by omega)) hs hs2 False False.elim
    exact q _ _ (Int.emod_nonneg _ (by omega)) (Int.emod_lt_of_pos _ hm) ⟨z.1, z.2⟩
  · have e0 : r = 0 := by have := of_decide_eq_false (Bool.eq_false_iff.mpr e); omega
    subst e0
    have n2 : 1 ≤ n := by
      rcases hn with hn | ⟨_, hn⟩
      · omega
      · exact absurd (hp hn) (by omega)
    refine ⟨fun σ' H' => ∃ z : Int, 0 ≤ z ∧ σ' = [some (.ref l), some (.int m), none, some (.int z), none] ∧ H' = H, ?_, ?_⟩
    · refine vIx rfl hl rfl (vIx rfl hl rfl ⟨c, _, rfl, .inl (SqL.of hc), _, _, rfl, rfl, _, rfl, ?_⟩)
      refine ite2 (fun e1 => ?_) (fun e1 => ⟨0, by omega, rfl, rfl⟩)
      have e1' : i < ((ns.map V.int).length : Nat) := of_decide_eq_true e1
      rw [List.length_map] at e1'
      obtain ⟨j, rfl⟩ : ∃ j : Nat, i = j := ⟨i.toNat, by omega⟩
      have hj : j < ns.length := by omega
      have g : (ns.map V.int)[j]? = some (.int ns[j]) := by rw [List.getElem?_map, List.getElem?_eq_getElem hj]; rfl
      refine vIx rfl hl rfl (vIx rfl hl rfl ⟨c, _, _, _, rfl, rfl, SqL.of hc, atI_nat g, ?_⟩)
      exact ⟨_, hns _ (List.getElem_mem hj), rfl, rfl⟩
    · rintro σ' H' ⟨z, hz, rfl, rfl⟩
      refine vIx rfl hl rfl ⟨_, _, rfl, rfl, _, rfl, l, _, 1, 1, rfl, rfl, hl, rfl, ?_⟩
      refine ⟨_, rfl, _, _, rfl, rfl, ⟨by decide, by decide, by decide⟩, _, _, rfl, rfl, _, rfl, ?_⟩
      refine ite2 (fun e1 => ?_) (fun e1 => ?_)
      · have e1' : (10 : Int) ^ 18 ≤ z := of_decide_eq_true e1
        refine ⟨_, rfl, _, _, rfl, rfl, ⟨by decide, lg2⟩, _, rfl, l, _, 2, 2, rfl, rfl, upd_same, rfl, ?_⟩
        refine ⟨_, rfl, _, rfl, ?_⟩
        have zz := ext (i + 1) (z / 2) st (by omega) (Int.ediv_nonneg hz (by omega)) hs hs2 True (fun _ => by omega)
        refine ⟨l, c, m, True, rfl, ?_, hm, hm2, .inr ⟨n2, trivial⟩, fun d H' h1 h2 x => q d H' h1 h2 ⟨?_, x.pool⟩⟩
        · show PoolR (upd (upd H' l _) l _) l c True
          rw [upd_upd]
          exact zz.2
        · intro b o hb hbo
          refine x.keep b o hb ?_
          show upd (upd _ l _) l _ b = _
          rw [upd_upd, upd_ne hb]
          exact hbo
      · have c1 : CMul st 48271 := .inr ⟨by decide, by decide⟩
        have c2 : CMul z 69621 := .inr ⟨by decide, by decide⟩
        have c3 : CMul (i + 1) 613 := .inr ⟨by decide, by decide⟩
        refine vIx rfl upd_same rfl ⟨_, _, rfl, rfl, c1, _, rfl, _, _, rfl, rfl, c2, _, _, rfl, rfl, vIx rfl upd_same rfl ⟨_, _, rfl, rfl, c3, _, _, rfl, rfl, .inl ⟨_, rfl, _, _, rfl, rfl, (show (0 : Int) < 2147483647 by decide), ?_⟩⟩⟩
        refine ⟨_, rfl, l, _, 3, 3, rfl, rfl, upd_same, rfl, ?_⟩
        have b1 : 0 ≤ (st * 48271 + z * 69621 + (i + 1) * 613) % 2147483647 := Int.emod_nonneg _ (by decide)
        have b2 : (st * 48271 + z * 69621 + (i + 1) * 613) % 2147483647 < 2147483647 := Int.emod_lt_of_pos _ (by decide)
        have c4 : CMul ((st * 48271 + z * 69621 + (i + 1) * 613) % 2147483647) ((st * 48271 + z * 69621 + (i + 1) * 613) % 2147483647) := .inr ⟨by omega, by omega⟩
        have c5 : CMul ((st * 48271 + z * 69621 + (i + 1) * 613) % 2147483647) 7919 := .inr ⟨by decide, by decide⟩
        refine vIx rfl upd_same rfl (vIx rfl upd_same rfl ⟨_, _, rfl, rfl, c4, vIx rfl upd_same rfl ⟨_, _, rfl, rfl, c5, _, _, rfl, rfl, _, _, rfl, rfl, .inl ⟨_, rfl, _, _, rfl, rfl, (show (0 : Int) < 1000000007 by decide), ?_⟩⟩⟩)
        have c6 : CDivW ((((st * 48271 + z * 69621 + (i + 1) * 613) % 2147483647) * ((st * 48271 + z * 69621 + (i + 1) * 613) % 2147483647) + ((st * 48271 + z * 69621 + (i + 1) * 613) % 2147483647) * 7919 + 104729) % 1000000007) 3 := ⟨by decide, by decide⟩
        refine ⟨_, rfl, _, _, rfl, rfl, c6, .inl ⟨_, rfl, _, rfl, _, _, rfl, rfl, hm, ?_⟩⟩
        have zz := ext (i + 1) 0 ((st * 48271 + z * 69621 + (i + 1) * 613) % 2147483647) (by omega) (by omega) b1 b2 False False.elim
        refine q _ _ (Int.emod_nonneg _ (by omega)) (Int.emod_lt_of_pos _ hm) ⟨?_, ?_⟩
        · show Keep l _ (upd (upd _ l _) l _)
          rw [upd_upd]
          exact zz.1
        · show Pool (upd (upd _ l _) l _) l c
          rw [upd_upd]
          exact zz.2
end
end PK
namespace PK
open PySem L2
/-! ### words -/
abbrev LET : Str := "abcdefghijklmnopqrstuvwxyz"
abbrev OTH : Str := "abcdefghijklmnopqrstuvwxyz0123456789_"
abbrev BARRED : List Str := ["get", "set", "plus", "minus", "new", "read", "write", "put"]
theorem let_len : LET.cps.toList.length = 26 := by decide +kernel
theorem oth_len : OTH.cps.toList.length = 37 := by decide +kernel
theorem line_big : (16777216 : Nat) ≤ sizeLine := by rw [sizeLine_eq]; decide
theorem small {n : Nat} (h : n ≤ 16777216) : n ≤ sizeLine := Nat.le_trans h line_big
theorem smallL {n : Nat} (h : n < 16777216) : n < sizeLine := Nat.lt_of_lt_of_le h line_big
theorem len_list (z : Str) : z.length = z.cps.toList.length := by unfold Str.length; simp
theorem yes_ {A B : Hp → Prop} {σ : L2.St} {H : Hp} (h : A H) : tYes σ H fun b H3 => if b = true then A H3 else B H3 := by
  show if true = true then A H else B H
  exact iteT h
/-- a drawn sign of a text -/
theorem strAt (z : Str) {n : Nat} (hz : z.cps.toList.length = n) (hn : n ≤ 1000) {d : Int} {H : Hp} {Q : VK} (h0 : 0 ≤ d) (h1 : d < (n : Int)) (q : ∀ s : Nat, s ∈ z.cps.toList → Q (.str ⟨#[s]⟩) H) : rIxS (.str z) (.int d) H Q := by
  obtain ⟨j, rfl⟩ : ∃ j : Nat, d = j := ⟨d.toNat, by omega⟩
  have hj : j < z.cps.toList.length := by omega
  exact ⟨z, _, _, rfl, rfl, by rw [len_list, hz]; exact small (by omega), atI_nat (List.getElem?_eq_getElem hj), q _ (List.getElem_mem hj)⟩
/-- the j-th word that is tried for the k-th place -/
def cand (j k : Nat) : Str := ("w" : Str) ++ (toString (j : Int) : Str) ++ ("_" : Str) ++ (toString (k : Int) : Str)
def pre (j : Nat) : Str := ("w" : Str) ++ (toString (j : Int) : Str) ++ ("_" : Str)
theorem pre_len : ∀ j, j < 27 → (pre j).length ≤ 4 := by decide +kernel
theorem str_len : ∀ j : Nat, j < 27 → ((toString (j : Int) : String) : Str).length ≤ 2 := by decide +kernel
theorem pre_inj : ∀ i, i < 27 → ∀ j, j < 27 → pre i = pre j → i = j := by decide +kernel
theorem app_cancel {a b t : Str} (h : a ++ t = b ++ t) : a = b := by
  have e : a.cps ++ t.cps = b.cps ++ t.cps := congrArg Str.cps h
  have e2 : a.cps.toList ++ t.cps.toList = b.cps.toList ++ t.cps.toList := by
    have := congrArg Array.toList e
    simpa using this
  exact Str.ext' (Array.toList_inj.mp (List.append_cancel_right e2))
theorem cand_inj {i j k : Nat} (hi : i < 27) (hj : j < 27) (h : cand i k = cand j k) : i = j := pre_inj i hi j hj (app_cancel h)
theorem cand_len {j k : Nat} (hj : j < 27) (hk : k < 27) : (cand j k).length ≤ 6 := by
  have h1 := pre_len j hj
  have h2 := str_len k hk
  show (pre j ++ _).length ≤ 6
  rw [Str.length_append]
  omega
theorem cand_bar (j k : Nat) : cand j k ∉ BARRED := by
  have h1 : 95 ∈ (cand j k).cps.toList := by
    show 95 ∈ ((((("w" : Str).cps ++ ((toString (j : Int) : String) : Str).cps) ++ ("_" : Str).cps) ++ ((toString (k : Int) : String) : Str).cps)).toList
    have e : ("_" : Str).cps.toList = [95] := by decide +kernel
    simp only [Array.toList_append, e, List.mem_append, List.mem_singleton]
    exact .inl (.inr trivial)
  have h2 : ∀ b ∈ BARRED, 95 ∉ b.cps.toList := by decide +kernel
  exact fun m => h2 _ m h1
theorem inj_le : ∀ (l m : List Str), l.Nodup → (∀ x ∈ l, x ∈ m) → l.length ≤ m.length
  | [], _, _, _ => Nat.zero_le _
  | x :: r, m, hn, hm => by
    obtain ⟨h1, h2⟩ := List.nodup_cons.mp hn
    have hx := hm x List.mem_cons_self
    have ih := inj_le r (m.erase x) h2 fun y hy => (List.mem_erase_of_ne (fun e => h1 (by rw [← e]; exact hy))).mpr (hm y (List.mem_cons_of_mem _ hy))
    rw [List.length_erase_of_mem hx] at ih
    have : 0 < m.length := List.length_pos_of_mem hx
    rw [List.length_cons]
    omega
/-- not all of m tried words stand in a list of fewer than m -/
theorem pigeon {m k : Nat} {ws : List Str} (hm : m < 27) (hl : ws.length < m) (h : ∀ t, t < m → cand t k ∈ ws) : False := by
  have n : ((List.range m).map fun t => cand t k).Nodup := by
    rw [List.Nodup, List.pairwise_map]
    refine List.Pairwise.imp_of_mem ?_ List.nodup_range
    intro a b ha hb hab e
    exact hab (cand_inj (Nat.lt_trans (List.mem_range.mp ha) hm) (Nat.lt_trans (List.mem_range.mp hb) hm) e)
  have := inj_le _ ws n fun x hx => by
    obtain ⟨t, ht, rfl⟩ := List.mem_map.mp hx
    exact h t (List.mem_range.mp ht)
  rw [List.length_map, List.length_range] at this
  omega
theorem inV_str (u : Str) : ∀ ws : List Str, inV (.str u) (ws.map V.str) = decide (u ∈ ws)
  | [] => by simp [inV]
  | x :: r => by
    have ih := inV_str u r
    unfold inV at ih ⊢
    rw [List.map_cons, List.any_cons, ih]
    show ((x == u) || decide (u ∈ r)) = _
    by_cases e : x = u
    · subst e; simp
    · have e2 : (x == u) = false := by simpa using e
      rw [e2, Bool.false_or]
      by_cases h : u ∈ r
      · simp [h]
      · simp [h, Ne.symm e]
theorem flat_strs (ws : List Str) : (ws.map V.str).all flatV = true := by
  rw [List.all_eq_true]
  intro x hx
  obtain ⟨s, _, rfl⟩ := List.mem_map.mp hx
  rfl
/-- signs of words -/
def one (s : Nat) : Str := ⟨#[s]⟩
def Ones (ss : List Nat) : Prop := ∀ s ∈ ss, s ∈ OTH.cps.toList
theorem join_one : ∀ ss : List Nat, (Str.join "" (ss.map one)).cps.toList = ss
  | [] => rfl
  | [s] => rfl
  | s :: t :: r => by
    have ih := join_one (t :: r)
    have e : ("" : Str).cps.toList = [] := by decide +kernel
    show ((one s).cps ++ ("" : Str).cps ++ (Str.join "" ((t :: r).map one)).cps).toList = _
    rw [Array.toList_append, Array.toList_append, ih, e]
    rfl
theorem txt_join (ss : List Nat) : (Txt.join "" (ss.map one)).cps.toList = ss := by
  show (Builtin.Str.glued ("" : Str) (ss.map one)).cps.toList = ss
  rw [StrLaws.glued_eq_join]
  exact join_one ss
theorem one_sum (ss : List Nat) : ((ss.map one).map (·.length)).sum = ss.length := by
  induction ss with
  | nil => rfl
  | cons s r ih =>
    rw [List.map_cons, List.map_cons, List.sum_cons, ih, List.length_cons]
    show 1 + r.length = _
    omega
/-- a word: signs that words have, the first one a letter -/
structure Wd (x : Str) : Prop where
  lo : 1 ≤ x.length
  hi : x.length ≤ 12
  hd : ∃ s r, x.cps.toList = s :: r ∧ s ∈ LET.cps.toList
  al : ∀ s ∈ x.cps.toList, s ∈ OTH.cps.toList
theorem Wd.of {x : Str} {s : Nat} {r : List Nat} (e : x.cps.toList = s :: r) (hs : s ∈ LET.cps.toList) (ho : Ones r) (hl : r.length ≤ 11) : Wd x where
  lo := by rw [len_list, e, List.length_cons]; omega
  hi := by rw [len_list, e, List.length_cons]; omega
  hd := ⟨s, r, e, hs⟩
  al := fun z hz => by
    rw [e] at hz
    rcases List.mem_cons.mp hz with h | h
    · rw [h]
      have : ∀ s ∈ LET.cps.toList, s ∈ OTH.cps.toList := by decide +kernel
      exact this s hs
    · exact ho z h
theorem pre_wd : ∀ j, j < 27 → ∀ s ∈ (pre j).cps.toList, s ∈ OTH.cps.toList := by decide +kernel
theorem num_wd : ∀ j : Nat, j < 27 → ∀ s ∈ ((toString (j : Int) : String) : Str).cps.toList, s ∈ OTH.cps.toList := by decide +kernel
theorem pre_hd : ∀ j, j < 27 → (pre j).cps.toList[0]? = some 119 := by decide +kernel
theorem cand_wd {j k : Nat} (hj : j < 27) (hk : k < 27) : Wd (cand j k) := by
  have e : (cand j k).cps.toList = (pre j).cps.toList ++ ((toString (k : Int) : String) : Str).cps.toList := by
    show ((pre j).cps ++ ((toString (k : Int) : String) : Str).cps).toList = _
    rw [Array.toList_append]
  have h0 := pre_hd j hj
  cases e1 : (pre j).cps.toList with
  | nil => rw [e1] at h0; cases h0
  | cons s r =>
    rw [e1] at h0 e
    have hs : s = 119 := Option.some.inj h0
    refine Wd.of (s := s) (r := r ++ ((toString (k : Int) : String) : Str).cps.toList) e (by rw [hs]; decide +kernel) (fun z hz => ?_) ?_
    · rcases List.mem_append.mp hz with h | h
      · exact pre_wd j hj z (by rw [e1]; exact List.mem_cons_of_mem _ h)
      · exact num_wd k hk z h
    · have h1 := pre_len j hj
      have h2 := str_len k hk
      rw [len_list] at h1 h2
      rw [e1, List.length_cons] at h1
      rw [List.length_append]
      omega
theorem let_oth : ∀ s ∈ LET.cps.toList, s ∈ OTH.cps.toList := by decide +kernel
theorem ixN_of {n : Nat} {k : Int} (h0 : 0 ≤ k) (h1 : k < (n : Int)) : ixN n k = some k.toNat := by
  unfold ixN
  rw [if_pos h0, if_pos h1]
theorem Ones.set {row : List Nat} (h : Ones row) {s : Nat} (hs : s ∈ OTH.cps.toList) (j : Nat) : Ones (row.set j s) := fun x hx => by
  rcases List.mem_or_eq_of_mem_set hx with h1 | h1
  · exact h x h1
  · rw [h1]; exact hs
/-- the signs of a word, one of them another letter -/
theorem set_hd {s0 : Nat} {r : List Nat} (h0 : s0 ∈ LET.cps.toList) (hr : Ones r) {s : Nat} (hs : s ∈ LET.cps.toList) (j : Nat) : ∃ s1 r1, (s0 :: r).set j s = s1 :: r1 ∧ s1 ∈ LET.cps.toList ∧ Ones r1 ∧ r1.length = r.length := by
  cases j with
  | zero => exact ⟨s, r, rfl, hs, hr, rfl⟩
  | succ j => exact ⟨s0, r.set j s, rfl, h0, hr.set (let_oth _ hs) j, List.length_set ..⟩
end PK
namespace PK
open PySem L2
/-- many different words -/
def spWords : Sp := fun vs H Q _ => ∃ (l c : Addr) (m : Nat), vs = [.ref l, .int (m : Int)] ∧ Pool H l c ∧ m ≤ 25 ∧
  ∀ (H' : Hp) (p : Addr) (ws : List Str), Ext l c H H' → H p = none → H' p = some (.lst (ws.map V.str)) → ws.length = m → ws.Nodup → (∀ x ∈ ws, Wd x ∧ x ∉ BARRED) → Q (.ref p) H'
section
variable {P : Program} {w : World} {K : PySem.W.Frag} {mg : Str → Option Value} {base : Heap}
abbrev s_law_words : Stmt := topS 13
theorem sc_law_words : FnScope ["pool", "many", "letters", "others", "barred", "size", "at", "alike", "k", "base", "words", "row", "word", "more", "j"] ["pool", "many"] (defScope s_law_words) := ⟨rfl, rfl, rfl, by decide +kernel, rfl, by decide +kernel, by decide +kernel⟩
-- slots: 0:pool(cell) 1:many 2:letters 3:others(cell) 4:barred 5:size 6:at 7:alike 8:k 9:base 10:words 11:row 12:word 13:more 14:j(comp)
theorem ok_words {f : Addr} {fd : FuncData} (F : Fun K "_law_words" "_law_words" s_law_words f fd) (T : Txt K mg) (C_law_take : C8.Cal P w K mg base 2 "_law_take" (spTake 2) []) :
    FnOk P w K mg base CX0 3 f fd ["pool", "many"] spWords := by
  refine F.ok sc_law_words (fun vs H Q E h => ?_) (fun cdv A outer s H vs Q E hr h => ?_)
  · obtain ⟨l, c, m, rfl, _⟩ := h
    rfl
  obtain ⟨l, c, m, rfl, P0, hm, q⟩ := h
  refine ⟨_, (pss_cons (ps_set (i := 2) sc_law_words.nd rfl (Or.inl rfl) pe_str)
    (pss_cons (ps_set (i := 3) sc_law_words.nd rfl (Or.inr rfl) pe_str)
    (pss_cons (ps_set (i := 4) sc_law_words.nd rfl (Or.inl rfl) (pe_tup (pa_cons pe_str (pa_cons pe_str (pa_cons pe_str (pa_cons pe_str (pa_cons pe_str (pa_cons pe_str (pa_cons pe_str (pa_cons pe_str pa_nil))))))))))
    (pss_cons (ps_set (i := 5) sc_law_words.nd rfl (Or.inl rfl) (C8.pe_c C_law_take hr (by decide) rfl (pa_cons (pv 0) (pa_cons pe_int pa_nil))))
    (pss_cons (ps_set (i := 6) sc_law_words.nd rfl (Or.inl rfl) (C8.pe_c C_law_take hr (by decide) rfl (pa_cons (pv 0) (pa_cons (pe_op op_add (pv 5) pe_int) pa_nil))))
    (pss_cons (ps_set (i := 7) sc_law_words.nd rfl (Or.inl rfl) (C8.pe_c C_law_take hr (by decide) rfl (pa_cons (pv 0) (pa_cons pe_int pa_nil))))
    (pss_cons (ps_setLc (i := 9) (own := [("k", 8)]) (g := (gName 8)) (tt := tYes) (by rfl) sc_law_words.nd rfl rfl (sw_true rfl rfl rfl (by decide +kernel)) (pi_range1 (by rfl) T.z_range (pa_cons (pv 5) pa_nil)) (blkOk_by (N := ["pool", "many", "letters", "others", "barred", "size", "at", "alike", "k", "base", "words", "row", "word", "more", "j"]) (sc := defScope s_law_words) (by decide +kernel)) (fun _ _ _ _ _ => (pg_name (i := 8) sc_law_words.nd rfl (Or.inl rfl))) (fun _ _ _ _ _ => pts_nil) (fun _ _ _ _ _ => (pe_ix ix_str (pv 3) (C8.pe_c C_law_take hr (by decide) rfl (pa_cons (pv 0) (pa_cons pe_int pa_nil))) (fun _ _ => rfl))))
    (pss_cons (ps_set (i := 10) sc_law_words.nd rfl (Or.inl rfl) (pe_lst pa_nil))
    (pss_cons (ps_for PassesOwn.never rfl (pi_range1 (by rfl) T.z_range (pa_cons (pv 1) pa_nil)) (pg_name (i := 8) sc_law_words.nd rfl (Or.inl rfl)) (pss_cons (ps_set (i := 11) sc_law_words.nd rfl (Or.inl rfl) (pe_op op_cat (pe_lst (pa_cons (pe_ix ix_str (pv 2) (C8.pe_c C_law_take hr (by decide) rfl (pa_cons (pv 0) (pa_cons pe_int pa_nil))) (fun _ _ => rfl)) pa_nil)) (pv 9)))
    (C8.pss_cut (ps_if (pt_cmpR op_eq (pv 7) pe_int (nomark _)) (pss_one (ps_set (i := 11) sc_law_words.nd rfl (Or.inl rfl) (pe_op op_cat (pe_lst (pa_cons (pe_ix ix_str (pv 2) (C8.pe_c C_law_take hr (by decide) rfl (pa_cons (pv 0) (pa_cons pe_int pa_nil))) (fun _ _ => rfl)) pa_nil)) (pe_lc (own := [("j", 14)]) (g := (gName 14)) (tt := tYes) (by rfl) sc_law_words.nd (pi_range1 (by rfl) T.z_range (pa_cons (C8.pe_c C_law_take hr (by decide) rfl (pa_cons (pv 0) (pa_cons pe_int pa_nil))) pa_nil)) (blkOk_by (N := ["pool", "many", "letters", "others", "barred", "size", "at", "alike", "k", "base", "words", "row", "word", "more", "j"]) (sc := defScope s_law_words) (by decide +kernel)) (fun _ _ _ _ _ => (pg_name (i := 14) sc_law_words.nd rfl (Or.inl rfl))) (fun _ _ _ _ _ => pts_nil) (fun _ _ _ _ _ => (pe_ix ix_str (pv 3) (C8.pe_c C_law_take hr (by decide) rfl (pa_cons (pv 0) (pa_cons pe_int pa_nil))) (fun _ _ => rfl))))))) pss_nil)
    (pss_cons (ps_asg (pe_ix ix_str (pv 2) (C8.pe_c C_law_take hr (by decide) rfl (pa_cons (pv 0) (pa_cons pe_int pa_nil))) (fun _ _ => rfl)) (pg_sub (pv 11) (pe_callB (call_min2 (by rfl)) (by rfl) T.z_min (by decide +kernel) (pa_cons (pv 6) (pa_cons (pe_op op_sub (pe_callB call_len_seq (by rfl) T.z_len (by decide +kernel) (pa_cons (pv 11) pa_nil)) pe_int) pa_nil))) set_list))
    (pss_cons (ps_set (i := 12) sc_law_words.nd rfl (Or.inl rfl) (pe_join pe_str (pv 11)))
    (C8.pss_cut (ps_for PassesOwn.never rfl (pi_range1 (by rfl) T.z_range (pa_cons (pe_op op_add (pv 1) pe_int) pa_nil)) (pg_name (i := 13) sc_law_words.nd rfl (Or.inl rfl)) (pss_cons (ps_if (PW.pt (pw_and (pt_cmpR op_notIn_seq (pv 12) (pv 10) rfl) (pw_and1 (pt_cmpR op_notIn_seq (pv 12) (pv 4) rfl)))) (pss_one ps_break) pss_nil)
    (pss_one (ps_set (i := 12) sc_law_words.nd rfl (Or.inl rfl) (pe_op op_add_str (pe_op op_add_str (pe_op op_add_str pe_str (pe_callTy call_str_int (by rfl) T.z_str (by decide +kernel) (pa_cons (pv 13) pa_nil))) pe_str) (pe_callTy call_str_int (by rfl) T.z_str (by decide +kernel) (pa_cons (pv 8) pa_nil)))))))
    (pss_one (ps_expr (pe_bm PySem.F.plainAttrs_list PySem.F.slot_list_append PySem.F.type_list_append mt_append (pv 10) (pa_cons (pv 12) pa_nil))))))))))
    (pss_one (ps_ret (pv 10)))))))))))), ?_⟩
  -- letters, others, barred
  refine ⟨(by show 8 ≤ sizeLine; exact small (by decide)), fun bt hbt => ?_⟩
  have x1 : Ext l c H (upd H bt (.tup (BARRED.map V.str))) := (Ext.refl P0).new P0 hbt
  -- size, at, alike
  refine vTake rfl x1.pool (by decide) (by decide) fun size H2 hs0 hs1 x2 => ?_
  refine ⟨_, rfl, _, rfl, _, _, rfl, rfl, l, c, size + 1, False, rfl, x2.pool, by omega, by omega, .inl (Nat.le_refl 2), fun at_ H3 ha0 ha1 x3 => ?_⟩
  refine vTake rfl x3.pool (by decide) (by decide) fun al H4 hal0 hal1 x4 => ?_
  have x5 : Ext l c H H4 := ((x1.trans x2).trans x3).trans x4
  have P4 := x5.pool
  have hbt4 : H4 bt = some (.tup (BARRED.map V.str)) := (x2.trans (x3.trans x4)).keep _ _ (P0.ne hbt).1 upd_same
  -- base = [..]
  refine ⟨_, rfl, size, rfl, by omega, by omega, fun D hD => lc_range (lo := 0) (n := size.toNat) (fun i H' => ∃ row : List Nat, Ext l c H4 H' ∧ H' D = some (.lst (row.map (fun s => V.str (one s)))) ∧ row.length = i ∧ Ones row) ?_ ?_ ?_⟩
  · exact ⟨[], (Ext.refl P4).upd P4 hD, upd_same, rfl, fun _ h => nomatch h⟩
  · rintro i H' hi ⟨row, x, hd, hlen, hone⟩
    refine ⟨rfl, yes_ ⟨_, rfl, vTake rfl x.pool (by decide) (by decide) fun d H5 d0 d1 y => strAt OTH oth_len (by decide) d0 d1 fun sg hsg => ?_⟩⟩
    refine ⟨row.map (fun s => V.str (one s)), y.keep D _ (P4.ne hD).1 hd, by rw [List.length_map]; exact smallL (by omega), row ++ [sg], (x.trans y).upd P4 hD, ?_, ?_, ?_⟩
    · rw [upd_same, List.map_append]; rfl
    · rw [List.length_append, hlen]; rfl
    · intro z hz
      rcases List.mem_append.mp hz with h | h
      · exact hone z h
      · rw [List.mem_singleton.mp h]; exact hsg
  · rintro HB ⟨b0, xb, hb0, hb0l, hb0o⟩
    have PB := xb.pool
    have xB : Ext l c H HB := x5.trans xb
    have hbtB : HB bt = some (.tup (BARRED.map V.str)) := xb.keep _ _ (P0.ne hbt).1 hbt4
    -- words = []
    refine ⟨Nat.zero_le _, fun wd hwd => ?_⟩
    refine ⟨_, rfl, (m : Int), rfl, by omega, by omega, for_range (lo := 0) (n := (m : Int).toNat) (fun i σ H' => ∃ (ws : List Str) (k' r' w' m' : Option V), σ = [some (.ref l), some (.int m), some (.str LET), some (.str OTH), some (.ref bt), some (.int size), some (.int at_), some (.int al), k', some (.ref D), some (.ref wd), r', w', m', none] ∧
      Ext l c HB H' ∧ H' wd = some (.lst (ws.map V.str)) ∧ ws.length = i ∧ ws.Nodup ∧ ∀ x ∈ ws, Wd x ∧ x ∉ BARRED) ?_ ?_ ?_⟩
    · exact ⟨[], _, _, _, _, rfl, (Ext.refl PB).upd PB hwd, upd_same, rfl, List.nodup_nil, fun _ h => nomatch h⟩
    · rintro i σ H' hi ⟨ws, k', r', w', m', rfl, x, hw, hwl, hwn, hw12⟩
      have hi' : i < m := hi
      have PX := x.pool
      have neD : D ≠ l := (P4.ne hD).1
      have newd : wd ≠ l := (PB.ne hwd).1
      have hDX : H' D = some (.lst (b0.map (fun s => V.str (one s)))) := x.keep _ _ neD hb0
      have hbtX : H' bt = some (.tup (BARRED.map V.str)) := x.keep _ _ (P0.ne hbt).1 hbtB
      -- row = [..] + base
      refine ⟨_, rfl, vTake rfl PX (by decide) (by decide) fun d H1 d0 d1 y => strAt LET let_len (by decide) d0 d1 fun sg hsg => ?_⟩
      have hD1 := y.keep _ _ neD hDX
      refine ⟨(by show 1 ≤ sizeLine; exact small (by decide)), fun p1 hp1 => ⟨_, rfl, p1, D, _, _, rfl, rfl, upd_same, (by rw [upd_ne (ne_of_none hD1 hp1)]; exact hD1), (by rw [List.length_map]; show 1 + b0.length ≤ _; exact small (by omega)), fun p2 hp2 => ?_⟩⟩
      have z2 : Ext l c H' (upd (upd H1 p1 _) p2 (.lst ([V.str ⟨#[sg]⟩] ++ b0.map (fun s => V.str (one s))))) := (y.new PX hp1).new PX hp2
      have hp2' : H' p2 = none := (y.new PX hp1).free PX hp2
      refine ⟨fun σ' H'' => ∃ (rw_ : Addr) (s0 : Nat) (row : List Nat), σ' = [some (.ref l), some (.int m), some (.str LET), some (.str OTH), some (.ref bt), some (.int size), some (.int at_), some (.int al), some (.int (0 + (i : Int))), some (.ref D), some (.ref wd), some (.ref rw_), w', m', none] ∧
        Ext l c H' H'' ∧ H' rw_ = none ∧ H'' rw_ = some (.lst ((s0 :: row).map (fun s => V.str (one s)))) ∧ s0 ∈ LET.cps.toList ∧ Ones row ∧ row.length ≤ 11, ?_, ?_⟩
      · -- if alike == 0
        refine ⟨_, rfl, rfl, _, rfl, ite2 (fun _ => ?_) (fun _ => ⟨p2, sg, b0, rfl, z2, hp2', upd_same, hsg, hb0o, by omega⟩)⟩
        refine ⟨_, rfl, vTake rfl z2.pool (by decide) (by decide) fun d H6 d0 d1 y6 => strAt LET let_len (by decide) d0 d1 fun sg2 hsg2 => ?_⟩
        refine ⟨(by show 1 ≤ sizeLine; exact small (by decide)), fun p3 hp3 => ?_⟩
        have z3 := (z2.trans y6).new (o := .lst [.str ⟨#[sg2]⟩]) PX hp3
        have P3 := z3.pool
        have hp3' : H' p3 = none := (z2.trans y6).free PX hp3
        refine vTake rfl z3.pool (by decide) (by decide) fun n2 H7 n0 n1 y7 => ⟨n2, rfl, by omega, by omega, fun D2 hD2 => lc_range (lo := 0) (n := n2.toNat) (fun i H'' => ∃ row : List Nat, Ext l c H7 H'' ∧ H'' D2 = some (.lst (row.map (fun s => V.str (one s)))) ∧ row.length = i ∧ Ones row) ?_ ?_ ?_⟩
        · exact ⟨[], (Ext.refl y7.pool).upd y7.pool hD2, upd_same, rfl, fun _ h => nomatch h⟩
        · rintro i H'' hi ⟨row, x, hd, hlen, hone⟩
          refine ⟨rfl, yes_ ⟨_, rfl, vTake rfl x.pool (by decide) (by decide) fun d H5 d0 d1 y => strAt OTH oth_len (by decide) d0 d1 fun sg hsg => ?_⟩⟩
          refine ⟨row.map (fun s => V.str (one s)), y.keep D2 _ (y7.pool.ne hD2).1 hd, by rw [List.length_map]; exact smallL (by omega), row ++ [sg], (x.trans y).upd y7.pool hD2, ?_, ?_, ?_⟩
          · rw [upd_same, List.map_append]; rfl
          · rw [List.length_append, hlen]; rfl
          · intro z hz
            rcases List.mem_append.mp hz with h | h
            · exact hone z h
            · rw [List.mem_singleton.mp h]; exact hsg
        · rintro H8 ⟨row, x8, hd8, hlen8, hone8⟩
          have h38 : H8 p3 = some (.lst [.str ⟨#[sg2]⟩]) := (y7.trans x8).keep _ _ (PX.ne hp3').1 upd_same
          refine ⟨p3, D2, _, _, rfl, rfl, h38, hd8, (by rw [List.length_map]; show 1 + row.length ≤ _; exact small (by omega)), fun p4 hp4 => ?_⟩
          have z8 : Ext l c H' H8 := z3.trans (y7.trans x8)
          exact ⟨p4, sg2, row, rfl, z8.new PX hp4, z8.free PX hp4, upd_same, hsg2, hone8, by omega⟩
      · rintro σ' H9 ⟨rw_, s0, row, rfl, x9, hrn, hr9, hs0L, hone, hl12⟩
        have nrl : rw_ ≠ l := (PX.ne hrn).1
        -- row[min(at, len(row) - 1)] = ..
        refine ⟨_, rfl, vTake rfl x9.pool (by decide) (by decide) fun d3 H10 d30 d31 y10 => strAt LET let_len (by decide) d30 d31 fun sg3 hsg3 => ?_⟩
        have hr10 : H10 rw_ = some (.lst ((s0 :: row).map (fun s => V.str (one s)))) := y10.keep _ _ nrl hr9
        refine ⟨_, rfl, _, rfl, _, rfl, rw_, _, rfl, .inl (SqL.of hr10), _, _, rfl, rfl, _, _, rfl, ?_⟩
        have hrl : (((s0 :: row).map (fun s => V.str (one s))).length : Int) = row.length + 1 := by rw [List.length_map, List.length_cons]; rfl
        refine ⟨rw_, _, _, _, rfl, rfl, hr10, ixN_of (by split <;> omega) (by split <;> omega), ?_⟩
        generalize (if ((((s0 :: row).map (fun s => V.str (one s))).length : Nat) : Int) - 1 < at_ then ((((s0 :: row).map (fun s => V.str (one s))).length : Nat) : Int) - 1 else at_).toNat = jz
        obtain ⟨s1, r1, e1, hs1L, ho1, hl1⟩ := set_hd hs0L hone hsg3 jz
        have es : ((s0 :: row).map (fun s => V.str (one s))).set jz (V.str ⟨#[sg3]⟩) = ((s1 :: r1).map one).map V.str := by
          rw [← e1, List.map_map]
          exact (List.map_set ..).symm
        rw [es]
        have zX : Ext l c H' (upd H10 rw_ (.lst (((s1 :: r1).map one).map V.str))) := (x9.trans y10).upd PX hrn
        generalize hHX : upd H10 rw_ (.lst (((s1 :: r1).map one).map V.str)) = HX at zX
        have hrX : HX rw_ = some (.lst (((s1 :: r1).map one).map V.str)) := by rw [← hHX]; exact upd_same
        -- word = ''.join(row)
        refine ⟨⟨_, rfl⟩, _, rfl, "", rw_, (s1 :: r1).map one, rfl, rfl, .inl (SqL.of hrX), by rw [one_sum, List.length_cons]; show _ + _ * 0 ≤ _; omega, ?_⟩
        have ul : Wd (Txt.join "" ((s1 :: r1).map one)) := Wd.of (txt_join _) hs1L ho1 (by omega)
        have hwX : HX wd = some (.lst (ws.map V.str)) := zX.keep _ _ newd hw
        have hbX : HX bt = some (.tup (BARRED.map V.str)) := zX.keep _ _ (P0.ne hbt).1 hbtX
        generalize Txt.join "" ((s1 :: r1).map one) = u0 at ul ⊢
        -- the loop that seeks a new word
        refine ⟨fun σ' H'' => ∃ (u : Str) (mo : Option V), σ' = [some (.ref l), some (.int m), some (.str LET), some (.str OTH), some (.ref bt), some (.int size), some (.int at_), some (.int al), some (.int (0 + (i : Int))), some (.ref D), some (.ref wd), some (.ref rw_), some (.str u), mo, none] ∧
          H'' = HX ∧ u ∉ ws ∧ Wd u ∧ u ∉ BARRED, ?_, ?_⟩
        · refine ⟨_, rfl, _, _, rfl, rfl, _, rfl, by omega, by omega, for_range (lo := 0) (n := ((m : Int) + 1).toNat) (fun j σ H'' => ∃ (u : Str) (mo : Option V), σ = [some (.ref l), some (.int m), some (.str LET), some (.str OTH), some (.ref bt), some (.int size), some (.int at_), some (.int al), some (.int (0 + (i : Int))), some (.ref D), some (.ref wd), some (.ref rw_), some (.str u), mo, none] ∧
            H'' = HX ∧ Wd u ∧ (1 ≤ j → u = cand (j - 1) i) ∧ ∀ t, t + 1 < j → cand t i ∈ ws) ?_ ?_ ?_⟩
          · exact ⟨u0, _, rfl, rfl, ul, by omega, by omega⟩
          · rintro j σ H'' hj ⟨u, mo, rfl, rfl, hu, hc, ht⟩
            have hj' : j < m + 1 := by omega
            have nxt : (u ∈ ws ∨ u ∈ BARRED) → ∀ t, t + 1 < j + 1 → cand t i ∈ ws := fun h t h1 => by
              by_cases e : t + 1 < j
              · exact ht t e
              · have e2 : j - 1 = t := by omega
                have e3 := hc (by omega)
                rw [e2] at e3
                rcases h with h | h
                · rw [← e3]; exact h
                · rw [e3] at h; exact absurd h (cand_bar t i)
            -- the next word that is tried
            have go : (u ∈ ws ∨ u ∈ BARRED) → ∃ (u' : Str) (mo' : Option V), [some (V.ref l), some (V.int m), some (V.str LET), some (V.str OTH), some (V.ref bt), some (V.int size), some (V.int at_), some (V.int al), some (V.int (0 + (i : Int))), some (V.ref D), some (V.ref wd), some (V.ref rw_), some (V.str (("w" : Str) ++ (toString (0 + (j : Int)) : Str) ++ ("_" : Str) ++ (toString (0 + (i : Int)) : Str))), some (V.int (0 + (j : Int))), none] = [some (.ref l), some (.int m), some (.str LET), some (.str OTH), some (.ref bt), some (.int size), some (.int at_), some (.int al), some (.int (0 + (i : Int))), some (.ref D), some (.ref wd), some (.ref rw_), some (.str u'), mo', none] ∧
                H'' = H'' ∧ Wd u' ∧ (1 ≤ j + 1 → u' = cand (j + 1 - 1) i) ∧ ∀ t, t + 1 < j + 1 → cand t i ∈ ws := fun h => by
              have e : (("w" : Str) ++ (toString (0 + (j : Int)) : Str) ++ ("_" : Str) ++ (toString (0 + (i : Int)) : Str)) = cand j i := by rw [Int.zero_add, Int.zero_add]; rfl
              have hl := cand_len (j := j) (k := i) (by omega) (by omega)
              exact ⟨_, _, rfl, rfl, by rw [e]; exact cand_wd (by omega) (by omega), fun _ => e, nxt h⟩
            have lj := str_len j (by omega)
            have li := str_len i (by omega)
            have lgj : (0 + (j : Int)).natAbs.log2 < 1920 := Nat.lt_of_lt_of_le (PySem.Flt.log2_lt_of (k := 5) (by decide) (by show (0 + (j : Int)).natAbs < 32; omega)) (by decide)
            have lgi : (0 + (i : Int)).natAbs.log2 < 1920 := Nat.lt_of_lt_of_le (PySem.Flt.log2_lt_of (k := 5) (by decide) (by show (0 + (i : Int)).natAbs < 32; omega)) (by decide)
            refine ⟨_, rfl, _, rfl, wd, _, rfl, .inl (SqL.of hwX), rfl, flat_strs _, _, rfl, ?_⟩
            rw [inV_str]
            by_cases h1 : u ∈ ws
            · rw [decide_eq_true h1]
              exact iteF ⟨_, rfl, _, rfl, lgj, _, _, rfl, rfl, small (by rw [Int.zero_add]; show 1 + _ ≤ _; omega), _, _, rfl, rfl, small (by rw [Int.zero_add, Str.length_append]; show 1 + _ + 1 ≤ _; omega), _, rfl, _, rfl, lgi, _, _, rfl, rfl, small (by rw [Int.zero_add, Int.zero_add, Str.length_append, Str.length_append]; show 1 + _ + 1 + _ ≤ _; omega), go (.inl h1)⟩
            · rw [decide_eq_false h1]
              refine iteT ⟨_, rfl, _, rfl, bt, _, rfl, .inr (SqT.of hbX), rfl, flat_strs _, _, rfl, ?_⟩
              rw [inV_str]
              by_cases h2 : u ∈ BARRED
              · rw [decide_eq_true h2]
                exact iteF ⟨_, rfl, _, rfl, lgj, _, _, rfl, rfl, small (by rw [Int.zero_add]; show 1 + _ ≤ _; omega), _, _, rfl, rfl, small (by rw [Int.zero_add, Str.length_append]; show 1 + _ + 1 ≤ _; omega), _, rfl, _, rfl, lgi, _, _, rfl, rfl, small (by rw [Int.zero_add, Int.zero_add, Str.length_append, Str.length_append]; show 1 + _ + 1 + _ ≤ _; omega), go (.inr h2)⟩
              · rw [decide_eq_false h2]
                exact iteT ⟨u, _, rfl, rfl, h1, hu, h2⟩
          · rintro σ H'' ⟨u, mo, rfl, rfl, hu, hc, ht⟩
            exact (pigeon (m := m) (k := i) (by omega) (by omega) fun t h => ht t (by omega)).elim
        · rintro σ' H'' ⟨u, mo, rfl, rfl, hu, hul, hub⟩
          refine ⟨_, rfl, .inl ⟨rfl, _, SqL.of hwX⟩, _, rfl, wd, _, _, rfl, rfl, hwX, by rw [List.length_map]; exact smallL (by omega), ?_⟩
          refine ⟨ws ++ [u], _, _, _, _, rfl, (x.trans zX).upd PB hwd, ?_, by rw [List.length_append, hwl]; rfl, nd_snoc hwn hu, fun z hz => ?_⟩
          · rw [upd_same, List.map_append]; rfl
          · rcases List.mem_append.mp hz with h | h
            · exact hw12 z h
            · rw [List.mem_singleton.mp h]; exact ⟨hul, hub⟩
    · rintro σ H' ⟨ws, k', r', w', m', rfl, x, hw, hwl, hwn, hw12⟩
      refine ⟨_, rfl, q H' wd ws (xB.trans x) (xB.free P0 hwd) hw hwl hwn hw12⟩
end
end PK
namespace PK
open PySem L2
/-! ### data of tuples -/
mutual
inductive Dt (K : PySem.W.Frag) (H : Hp) : V → PyData → Prop
  | non : Dt K H .non .none
  | bl (b : Bool) : Dt K H (.bl b) (.bool b)
  | int (i : Int) : Dt K H (.int i) (.int i)
  | str (x : Str) : Dt K H (.str x) (.str x)
  | tup {a : Addr} {xs : List V} {ds : List PyData} : SqT K H a xs → DtAll K H xs ds → Dt K H (.ref a) (.tuple ds)
inductive DtAll (K : PySem.W.Frag) (H : Hp) : List V → List PyData → Prop
  | nil : DtAll K H [] []
  | cons {v : V} {vs : List V} {d : PyData} {ds : List PyData} : Dt K H v d → DtAll K H vs ds → DtAll K H (v :: vs) (d :: ds)
end
section
variable {K : PySem.W.Frag} {H H' : Hp}
mutual
theorem Dt.dp : ∀ (d : PyData) (v : V), Dt K H v d → Dp K H v d
  | .none, _, h => by cases h; exact .non
  | .bool _, _, h => by cases h; exact .bl _
  | .int _, _, h => by cases h; exact .int _
  | .str _, _, h => by cases h; exact .str _
  | .list _, _, h => by cases h
  | .dict _, _, h => by cases h
  | .tuple ds, _, h => by
    cases h with
    | tup s a => exact .tup s (DtAll.dp ds _ a)
theorem DtAll.dp : ∀ (ds : List PyData) (vs : List V), DtAll K H vs ds → DpAll K H vs ds
  | [], _, h => by cases h; exact .nil
  | d :: ds, _, h => by
    cases h with
    | cons h1 h2 => exact .cons (Dt.dp d _ h1) (DtAll.dp ds _ h2)
end
mutual
theorem Dt.mono (hT : ∀ a xs, SqT K H a xs → SqT K H' a xs) : ∀ (d : PyData) (v : V), Dt K H v d → Dt K H' v d
  | .none, _, h => by cases h; exact .non
  | .bool _, _, h => by cases h; exact .bl _
  | .int _, _, h => by cases h; exact .int _
  | .str _, _, h => by cases h; exact .str _
  | .list _, _, h => by cases h
  | .dict _, _, h => by cases h
  | .tuple ds, _, h => by
    cases h with
    | tup s a => exact .tup (hT _ _ s) (DtAll.mono hT ds _ a)
theorem DtAll.mono (hT : ∀ a xs, SqT K H a xs → SqT K H' a xs) : ∀ (ds : List PyData) (vs : List V), DtAll K H vs ds → DtAll K H' vs ds
  | [], _, h => by cases h; exact .nil
  | d :: ds, _, h => by
    cases h with
    | cons h1 h2 => exact .cons (Dt.mono hT d _ h1) (DtAll.mono hT ds _ h2)
end
theorem Same.seqT {a : Addr} {xs : List V} (e : Same H H') (h : SqT K H a xs) : SqT K H' a xs := by
  rcases h with (h | ⟨o, h⟩) | h
  · exact .inl (.inl (e _ _ h))
  · exact .inl (.inr ⟨o, e _ _ h⟩)
  · exact .inr h
theorem Dt.same {d : PyData} {v : V} (h : Dt K H v d) (e : Same H H') : Dt K H' v d := Dt.mono (fun _ _ q => Same.seqT e q) d v h
theorem Dt.ext {l c : Addr} {d : PyData} {v : V} (h : Dt K H v d) (P : Pool H l c) (x : Ext l c H H') : Dt K H' v d := Dt.mono (fun _ _ q => x.seqT P q) d v h
theorem same_new {p : Addr} {o : HO} (h : H p = none) : Same H (upd H p o) := fun b u e => by
  rw [upd_ne (ne_of_none e h)]
  exact e
theorem Dt.new {d : PyData} {v : V} {p : Addr} {o : HO} (h : Dt K H v d) (hp : H p = none) : Dt K (upd H p o) v d := h.same (same_new hp)
theorem Dt.s {v : V} {x : Str} (h : Dt K H v (.str x)) : v = .str x := by cases h; rfl
theorem Dt.i {v : V} {x : Int} (h : Dt K H v (.int x)) : v = .int x := by cases h; rfl
theorem Dt.t1 {v : V} {d : PyData} (h : Dt K H v (.tuple [d])) : ∃ a x, v = .ref a ∧ SqT K H a [x] ∧ Dt K H x d := by
  cases h with
  | tup s a => cases a with
    | cons h1 r => cases r; exact ⟨_, _, rfl, s, h1⟩
theorem Dt.t2 {v : V} {d e : PyData} (h : Dt K H v (.tuple [d, e])) : ∃ a x y, v = .ref a ∧ SqT K H a [x, y] ∧ Dt K H x d ∧ Dt K H y e := by
  cases h with
  | tup s a => cases a with
    | cons h1 r => cases r with
      | cons h2 r => cases r; exact ⟨_, _, _, rfl, s, h1, h2⟩
theorem Dt.t3 {v : V} {d e f : PyData} (h : Dt K H v (.tuple [d, e, f])) : ∃ a x y z, v = .ref a ∧ SqT K H a [x, y, z] ∧ Dt K H x d ∧ Dt K H y e ∧ Dt K H z f := by
  cases h with
  | tup s a => cases a with
    | cons h1 r => cases r with
      | cons h2 r => cases r with
        | cons h3 r => cases r; exact ⟨_, _, _, _, rfl, s, h1, h2, h3⟩
theorem Dt.tn {v : V} {ds : List PyData} (h : Dt K H v (.tuple ds)) : ∃ a xs, v = .ref a ∧ SqT K H a xs ∧ DtAll K H xs ds := by
  cases h with
  | tup s a => exact ⟨_, _, rfl, s, a⟩
theorem Dt.mk2 {p : Addr} {x y : V} {d e : PyData} (hp : H p = none) (h1 : Dt K H x d) (h2 : Dt K H y e) : Dt K (upd H p (.tup [x, y])) (.ref p) (.tuple [d, e]) :=
  .tup (SqT.of upd_same) (.cons (h1.new hp) (.cons (h2.new hp) .nil))
theorem Dt.mk3 {p : Addr} {x y z : V} {d e f : PyData} (hp : H p = none) (h1 : Dt K H x d) (h2 : Dt K H y e) (h3 : Dt K H z f) : Dt K (upd H p (.tup [x, y, z])) (.ref p) (.tuple [d, e, f]) :=
  .tup (SqT.of upd_same) (.cons (h1.new hp) (.cons (h2.new hp) (.cons (h3.new hp) .nil)))
theorem Dt.mk1 {p : Addr} {x : V} {d : PyData} (hp : H p = none) (h1 : Dt K H x d) : Dt K (upd H p (.tup [x])) (.ref p) (.tuple [d]) :=
  .tup (SqT.of upd_same) (.cons (h1.new hp) .nil)
end
/-- xs[j] of a name, a tuple -/
theorem vTx {K : PySem.W.Frag} {σ : L2.St} {H : Hp} {Q : VK} {i : Nat} {p : Addr} {xs : List V} {j : Int} {v : V} (h : σ[i]? = some (some (.ref p))) (hl : SqT K H p xs) (ha : atI xs j = some v) (q : Q v H) :
    tOp (rIxT K) (tVar i) (tC (.int j)) σ H Q := ⟨_, h, p, xs, j, v, rfl, rfl, hl, ha, q⟩
section
variable {s t : Str} {A B : Prop}
theorem sT (e : s = t) (h : A) : if decide (V.str s = V.str t) = true then A else B := by rw [decide_eq_true (by rw [e])]; exact iteT h
theorem sF (e : s ≠ t) (h : B) : if decide (V.str s = V.str t) = true then A else B := by rw [decide_eq_false (fun z => e (V.str.inj z))]; exact iteF h
theorem nT (e : s ≠ t) (h : A) : if (!decide (V.str s = V.str t)) = true then A else B := by rw [decide_eq_false (fun z => e (V.str.inj z))]; exact iteT h
theorem nF (e : s = t) (h : B) : if (!decide (V.str s = V.str t)) = true then A else B := by rw [decide_eq_true (by rw [e])]; exact iteF h
end
theorem Same.upd {H H' : Hp} {p : Addr} {o : HO} (e : Same H H') (h : H p = none) : Same H (L2.upd H' p o) := fun b u q => by
  rw [upd_ne (ne_of_none q h)]
  exact e _ _ q
/-- isinstance(x, T) of a name and a built-in class -/
theorem vIsi {σ : L2.St} {H : Hp} {Q : VK} {i : Nat} {v : V} {U Tn : String} {b : Bool} (h : σ[i]? = some (some v)) (ty : TyX K H v (.type U)) (kb : kitB U Tn = some b) (q : Q (.bl b) H) :
    tCB (rIsi K) (tCons (tVar i) (tCons (tC (.ty Tn)) tNil)) σ H Q := ⟨_, h, v, .ty Tn, _, _, b, rfl, .ty Tn, ty, kit_ty kb, q⟩
theorem ty_tup {H : Hp} {a : Addr} {xs : List V} (h : SqT K H a xs) : TyX K H (.ref a) (.type "tuple") := by
  rcases h with (h | ⟨o, h⟩) | ⟨o, its, n, h, hc, _⟩
  · exact .base (.tup h)
  · exact .fTuple h
  · exact .kTuple h hc
theorem ty_lst {H : Hp} {a : Addr} {xs : List V} (h : SqL K H a xs) : TyX K H (.ref a) (.type "list") := by
  rcases h with (h | ⟨o, h⟩) | ⟨o, its, n, h, hc, _⟩
  · exact .base (.lst h)
  · exact .base (.frz h)
  · exact .kList h hc
theorem DtAll.append {K : PySem.W.Frag} {H : Hp} : ∀ {xs ys : List V} {ds es : List PyData}, DtAll K H xs ds → DtAll K H ys es → DtAll K H (xs ++ ys) (ds ++ es)
  | _, _, _, _, .nil, h => h
  | _, _, _, _, .cons a b, h => .cons a (DtAll.append b h)
/-- a list that grows is no tuple -/
theorem seqT_upd {K : PySem.W.Frag} {H : Hp} {D a : Addr} {vs ws zs : List V} (h : SqT K H a zs) (hD : H D = some (.lst vs)) : SqT K (upd H D (.lst ws)) a zs := by
  rcases h with (h | ⟨o, h⟩) | h
  · exact .inl (.inl (by rw [upd_ne (ne_of h hD (fun z => by cases z))]; exact h))
  · exact .inl (.inr ⟨o, by rw [upd_ne (ne_of h hD (fun z => by cases z))]; exact h⟩)
  · exact .inr h
theorem seqT_updK {K : PySem.W.Frag} {H : Hp} {D a : Addr} {kvs kvs' : List (Key × V)} {zs : List V} (h : SqT K H a zs) (hD : H D = some (.dK kvs)) : SqT K (upd H D (.dK kvs')) a zs := by
  rcases h with (h | ⟨o, h⟩) | h
  · exact .inl (.inl (by rw [upd_ne (ne_of h hD (fun z => by cases z))]; exact h))
  · exact .inl (.inr ⟨o, by rw [upd_ne (ne_of h hD (fun z => by cases z))]; exact h⟩)
  · exact .inr h
theorem valV_hd {k : Key} {v : V} {r : List (Key × V)} : valV ((k, v) :: r) k = some v := by simp [valV]
theorem valV_tl {k k' : Key} {v : V} {r : List (Key × V)} (h : k' ≠ k) : valV ((k', v) :: r) k = valV r k := by simp [valV, h]
theorem Pool.same {H H' : Hp} {l c : Addr} (P : Pool H l c) (e : Same H H') : Pool H' l c := by
  obtain ⟨ns, i, r, s, hl, hc, z⟩ := P
  exact ⟨ns, i, r, s, e _ _ hl, e _ _ hc, z⟩
theorem Ext.same {H H1 H2 : Hp} {l c : Addr} (x : Ext l c H H1) (e : Same H1 H2) : Ext l c H H2 := ⟨fun b o hb h => e _ _ (x.keep b o hb h), x.pool.same e⟩
/-- a new tuple at the end of a list of data -/
theorem snoc_data {K : PySem.W.Frag} {H : Hp} {D t : Addr} {o : HO} {vs : List V} {ds : List PyData} {d : PyData} (da : DtAll K H vs ds) (hD : H D = some (.lst vs)) (ht : H t = none) (dt : Dt K (upd H t o) (.ref t) d) :
    (upd H t o) D = some (.lst vs) ∧ DtAll K (upd (upd H t o) D (.lst (vs ++ [.ref t]))) (vs ++ [.ref t]) (ds ++ [d]) := by
  have h1 : (upd H t o) D = some (.lst vs) := by rw [upd_ne (ne_of_none hD ht)]; exact hD
  refine ⟨h1, DtAll.mono (fun _ _ z => seqT_upd z h1) _ _ (DtAll.append (DtAll.mono (fun _ _ z => Same.seqT (same_new ht) z) _ _ da) (.cons dt .nil))⟩
theorem DtAll.ext {K : PySem.W.Frag} {H H' : Hp} {l c : Addr} {vs : List V} {ds : List PyData} (h : DtAll K H vs ds) (P : Pool H l c) (x : Ext l c H H') : DtAll K H' vs ds := DtAll.mono (fun _ _ z => x.seqT P z) _ _ h
theorem DtAll.same {K : PySem.W.Frag} {H H' : Hp} {vs : List V} {ds : List PyData} (h : DtAll K H vs ds) (x : Same H H') : DtAll K H' vs ds := DtAll.mono (fun _ _ z => Same.seqT x z) _ _ h
end PK
namespace PK
open PySem L2
/-! _law_same -/
section
variable {K : PySem.W.Frag} {H H' : Hp}
mutual
theorem Dp.mono (hT : ∀ a xs, SqT K H a xs → SqT K H' a xs) (hL : ∀ a xs, SqL K H a xs → SqL K H' a xs) : ∀ (d : PyData) (v : V), Dp K H v d → Dp K H' v d
  | .none, _, h => by cases h; exact .non
  | .bool _, _, h => by cases h; exact .bl _
  | .int _, _, h => by cases h; exact .int _
  | .str _, _, h => by cases h; exact .str _
  | .dict _, _, h => by cases h
  | .list ds, _, h => by
    cases h with
    | lst s a => exact .lst (hL _ _ s) (DpAll.mono hT hL ds _ a)
  | .tuple ds, _, h => by
    cases h with
    | tup s a => exact .tup (hT _ _ s) (DpAll.mono hT hL ds _ a)
theorem DpAll.mono (hT : ∀ a xs, SqT K H a xs → SqT K H' a xs) (hL : ∀ a xs, SqL K H a xs → SqL K H' a xs) : ∀ (ds : List PyData) (vs : List V), DpAll K H vs ds → DpAll K H' vs ds
  | [], _, h => by cases h; exact .nil
  | d :: ds, _, h => by
    cases h with
    | cons h1 h2 => exact .cons (Dp.mono hT hL d _ h1) (DpAll.mono hT hL ds _ h2)
end
theorem Dp.same {d : PyData} {v : V} (h : Dp K H v d) (e : Same H H') : Dp K H' v d := Dp.mono (fun _ _ q => Same.seqT e q) (fun _ _ q => e.seq q) d v h
theorem DpAll.length : ∀ {xs : List V} {ds : List PyData}, DpAll K H xs ds → xs.length = ds.length
  | _, _, .nil => rfl
  | _, _, .cons _ t => by rw [List.length_cons, List.length_cons, DpAll.length t]
theorem DpAll.get : ∀ {xs : List V} {ds : List PyData} {i : Nat} {d : PyData}, DpAll K H xs ds → ds[i]? = some d → ∃ x, xs[i]? = some x ∧ Dp K H x d
  | _, _, _, _, .nil, e => by simp at e
  | _, _, 0, _, .cons h _, e => by simp at e; subst e; exact ⟨_, rfl, h⟩
  | _, _, i + 1, _, .cons _ t, e => by
    obtain ⟨d, h1, h2⟩ := DpAll.get (i := i) t (by simpa using e)
    exact ⟨d, by simpa using h1, h2⟩
end
theorem depth_get : ∀ {ds : List PyData} {i : Nat} {d : PyData}, ds[i]? = some d → d.depth ≤ PyData.depthAll ds
  | [], _, _, e => by simp at e
  | x :: r, 0, d, e => by
    simp at e; subst e
    show _ ≤ max _ _
    exact Nat.le_max_left _ _
  | x :: r, i + 1, d, e => by
    have ih := depth_get (ds := r) (i := i) (d := d) (by simpa using e)
    show _ ≤ max _ _
    exact Nat.le_trans ih (Nat.le_max_right _ _)
mutual
/-- no list in it is long -/
def slim : PyData → Bool
  | .none | .bool _ | .int _ | .str _ => true
  | .list xs | .tuple xs => decide (xs.length ≤ 1000) && slimAll xs
  | .dict _ => false
def slimAll : List PyData → Bool
  | [] => true
  | x :: xs => slim x && slimAll xs
end
theorem slim_get : ∀ {ds : List PyData} {i : Nat} {d : PyData}, slimAll ds = true → ds[i]? = some d → slim d = true
  | [], _, _, _, e => by simp at e
  | x :: r, 0, d, h, e => by
    simp at e; subst e
    unfold slimAll at h
    exact (Bool.and_eq_true_iff.mp h).1
  | x :: r, i + 1, d, h, e => by
    unfold slimAll at h
    exact slim_get (ds := r) (i := i) (Bool.and_eq_true_iff.mp h).2 (by simpa using e)
theorem slim_seq {ds : List PyData} (h : slim (.tuple ds) = true) : ds.length ≤ 1000 ∧ slimAll ds = true := by
  unfold slim at h
  exact ⟨of_decide_eq_true (Bool.and_eq_true_iff.mp h).1, (Bool.and_eq_true_iff.mp h).2⟩
theorem slim_lst {ds : List PyData} (h : slim (.list ds) = true) : ds.length ≤ 1000 ∧ slimAll ds = true := by
  unfold slim at h
  exact ⟨of_decide_eq_true (Bool.and_eq_true_iff.mp h).1, (Bool.and_eq_true_iff.mp h).2⟩
def spSame (K : PySem.W.Frag) (n : Nat) : Sp := fun vs H Q _ => ∃ (x y : V) (d : PyData), vs = [x, y] ∧ Dp K H x d ∧ Dp K H y d ∧ d.depth < n ∧ slim d = true ∧ ∀ H', Same H H' → Q (.bl true) H'
theorem bF {b : Bool} {A B : Prop} (h : B) : if (!decide (V.bl b = V.bl b)) = true then A else B := by
  rw [decide_eq_true rfl]; exact iteF h
section
variable {P : Program} {w : World} {K : PySem.W.Frag} {mg : Str → Option Value} {base : Heap}
abbrev s_law_same : Stmt := topS 20
theorem sc_law_same : FnScope ["actual", "due", "k"] ["actual", "due"] (defScope s_law_same) := ⟨rfl, rfl, rfl, by decide +kernel, rfl, by decide +kernel, by decide +kernel⟩
-- slots: 0:actual(cell) 1:due(cell) 2:k(comp)
theorem ok_same {n : Nat} {f : Addr} {fd : FuncData} (F : Fun K "_law_same" "_law_same" s_law_same f fd) (T : Txt K mg) (C_law_same : C8.Cal P w K mg base n "_law_same" (spSame K n) []) :
    FnOk P w K mg base CX0 (n + 1) f fd ["actual", "due"] (spSame K (n + 1)) := by
  refine F.ok sc_law_same (fun vs H Q E h => ?_) (fun cdv A outer s H vs Q E hr h => ?_)
  · obtain ⟨x, y, d, rfl, _⟩ := h
    rfl
  obtain ⟨x, y, d, rfl, hx, hy, hd, hsl, q⟩ := h
  refine ⟨_, (pss_cons (ps_if (pt_cmpR op_isN (pv 1) pe_non (nomark _)) (pss_one (ps_ret (pe_cmpR op_isN (pv 0) pe_non (nomark _)))) pss_nil)
    (pss_cons (ps_if (PW.pt (pw_or (pt_cmpR op_ne (pe_callB call_isi (by rfl) T.z_isinstance (by decide +kernel) (pa_cons (pv 1) (pa_cons (pe_bltn (v := .ty "tuple") (by rfl) T.z_tuple (by decide +kernel) rfl) pa_nil))) (pe_callB call_isi (by rfl) T.z_isinstance (by decide +kernel) (pa_cons (pv 0) (pa_cons (pe_bltn (v := .ty "tuple") (by rfl) T.z_tuple (by decide +kernel) rfl) pa_nil))) (nomark _)) (pw_or1 (pt_cmpR op_ne (pe_callB call_isi (by rfl) T.z_isinstance (by decide +kernel) (pa_cons (pv 1) (pa_cons (pe_bltn (v := .ty "list") (by rfl) T.z_list (by decide +kernel) rfl) pa_nil))) (pe_callB call_isi (by rfl) T.z_isinstance (by decide +kernel) (pa_cons (pv 0) (pa_cons (pe_bltn (v := .ty "list") (by rfl) T.z_list (by decide +kernel) rfl) pa_nil))) (nomark _))))) (pss_one (ps_ret pe_bl)) pss_nil)
    (pss_cons (ps_if (PW.pt (pw_or (pt_val (pe_callB call_isi (by rfl) T.z_isinstance (by decide +kernel) (pa_cons (pv 1) (pa_cons (pe_bltn (v := .ty "tuple") (by rfl) T.z_tuple (by decide +kernel) rfl) pa_nil)))) (pw_or1 (pt_val (pe_callB call_isi (by rfl) T.z_isinstance (by decide +kernel) (pa_cons (pv 1) (pa_cons (pe_bltn (v := .ty "list") (by rfl) T.z_list (by decide +kernel) rfl) pa_nil))))))) (pss_one (ps_ret (pe_and (pe_cmpR op_eq (pe_callB call_len_seq (by rfl) T.z_len (by decide +kernel) (pa_cons (pv 0) pa_nil)) (pe_callB call_len_seq (by rfl) T.z_len (by decide +kernel) (pa_cons (pv 1) pa_nil)) (nomark _)) (pe_one (pe_callB (cr_all (by rfl)) (by rfl) T.z_all (by decide +kernel) (pa_cons (pe_lc (own := [("k", 2)]) (g := (gName 2)) (tt := tYes) (by rfl) sc_law_same.nd (pi_range1 (by rfl) T.z_range (pa_cons (pe_callB call_len_seq (by rfl) T.z_len (by decide +kernel) (pa_cons (pv 1) pa_nil)) pa_nil)) (blkOk_by (N := ["actual", "due", "k"]) (sc := defScope s_law_same) (by decide +kernel)) (fun _ _ _ _ _ => (pg_name (i := 2) sc_law_same.nd rfl (Or.inl rfl))) (fun _ _ _ _ _ => pts_nil) (fun _ _ _ _ _ => (C8.pe_c C_law_same hr (by omega) rfl (pa_cons (pe_ix (r := rIx K) ix_seq (pv 0) (pv 2) (fun _ _ => rfl)) (pa_cons (pe_ix (r := rIx K) ix_seq (pv 1) (pv 2) (fun _ _ => rfl)) pa_nil))))) pa_nil)))))) pss_nil)
    (pss_cons (ps_if (PW.pt (pw_or (pt_cmpR op_ne (pe_callB call_isi (by rfl) T.z_isinstance (by decide +kernel) (pa_cons (pv 1) (pa_cons (pe_bltn (v := .ty "bool") (by rfl) T.z_bool (by decide +kernel) rfl) pa_nil))) (pe_callB call_isi (by rfl) T.z_isinstance (by decide +kernel) (pa_cons (pv 0) (pa_cons (pe_bltn (v := .ty "bool") (by rfl) T.z_bool (by decide +kernel) rfl) pa_nil))) (nomark _)) (pw_or1 (pt_cmpR op_ne (pe_callB call_isi (by rfl) T.z_isinstance (by decide +kernel) (pa_cons (pv 1) (pa_cons (pe_bltn (v := .ty "str") (by rfl) T.z_str (by decide +kernel) rfl) pa_nil))) (pe_callB call_isi (by rfl) T.z_isinstance (by decide +kernel) (pa_cons (pv 0) (pa_cons (pe_bltn (v := .ty "str") (by rfl) T.z_str (by decide +kernel) rfl) pa_nil))) (nomark _))))) (pss_one (ps_ret pe_bl)) pss_nil)
    (pss_one (ps_ret (pe_and (pe_cmpR op_eq (pe_callB call_isi (by rfl) T.z_isinstance (by decide +kernel) (pa_cons (pv 1) (pa_cons (pe_bltn (v := .ty "int") (by rfl) T.z_int (by decide +kernel) rfl) pa_nil))) (pe_callB call_isi (by rfl) T.z_isinstance (by decide +kernel) (pa_cons (pv 0) (pa_cons (pe_bltn (v := .ty "int") (by rfl) T.z_int (by decide +kernel) rfl) pa_nil))) (nomark _)) (pe_one (pe_cmpR op_eq (pv 0) (pv 1) (nomark _)))))))))), ?_⟩
  have q0 := q H (Same.refl H)
  -- what is left for a scalar
  cases d with
  | none =>
    cases hx; cases hy
    exact ⟨_, rfl, rfl, _, rfl, iteT ⟨_, rfl, rfl, q0⟩⟩
  | bool b =>
    cases hx; cases hy
    have ty : TyX K H (.bl b) (.type "bool") := .base (.bl b)
    refine ⟨_, rfl, rfl, _, rfl, iteF (vIsi rfl ty (b := false) (by decide +kernel) (vIsi rfl ty (b := false) (by decide +kernel) ⟨rfl, _, rfl, bF (vIsi rfl ty (b := false) (by decide +kernel) (vIsi rfl ty (b := false) (by decide +kernel) ⟨rfl, _, rfl, bF ?_⟩))⟩))⟩
    refine vIsi rfl ty (b := false) (by decide +kernel) ⟨_, rfl, iteF (vIsi rfl ty (b := false) (by decide +kernel) ⟨_, rfl, iteF ?_⟩)⟩
    refine vIsi rfl ty (b := true) (by decide +kernel) (vIsi rfl ty (b := true) (by decide +kernel) ⟨rfl, _, rfl, bF (vIsi rfl ty (b := false) (by decide +kernel) (vIsi rfl ty (b := false) (by decide +kernel) ⟨rfl, _, rfl, bF ?_⟩))⟩)
    refine vIsi rfl ty (b := true) (by decide +kernel) (vIsi rfl ty (b := true) (by decide +kernel) ⟨rfl, _, rfl, ?_⟩)
    refine iteT ⟨_, rfl, _, rfl, rfl, ?_⟩
    rw [decide_eq_true rfl]
    exact q0
  | int b =>
    cases hx; cases hy
    have ty : TyX K H (.int b) (.type "int") := .base (.int b)
    refine ⟨_, rfl, rfl, _, rfl, iteF (vIsi rfl ty (b := false) (by decide +kernel) (vIsi rfl ty (b := false) (by decide +kernel) ⟨rfl, _, rfl, bF (vIsi rfl ty (b := false) (by decide +kernel) (vIsi rfl ty (b := false) (by decide +kernel) ⟨rfl, _, rfl, bF ?_⟩))⟩))⟩
    refine vIsi rfl ty (b := false) (by decide +kernel) ⟨_, rfl, iteF (vIsi rfl ty (b := false) (by decide +kernel) ⟨_, rfl, iteF ?_⟩)⟩
    refine vIsi rfl ty (b := false) (by decide +kernel) (vIsi rfl ty (b := false) (by decide +kernel) ⟨rfl, _, rfl, bF (vIsi rfl ty (b := false) (by decide +kernel) (vIsi rfl ty (b := false) (by decide +kernel) ⟨rfl, _, rfl, bF ?_⟩))⟩)
    refine vIsi rfl ty (b := true) (by decide +kernel) (vIsi rfl ty (b := true) (by decide +kernel) ⟨rfl, _, rfl, ?_⟩)
    refine iteT ⟨_, rfl, _, rfl, rfl, ?_⟩
    rw [decide_eq_true rfl]
    exact q0
  | str b =>
    cases hx; cases hy
    have ty : TyX K H (.str b) (.type "str") := .base (.str b)
    refine ⟨_, rfl, rfl, _, rfl, iteF (vIsi rfl ty (b := false) (by decide +kernel) (vIsi rfl ty (b := false) (by decide +kernel) ⟨rfl, _, rfl, bF (vIsi rfl ty (b := false) (by decide +kernel) (vIsi rfl ty (b := false) (by decide +kernel) ⟨rfl, _, rfl, bF ?_⟩))⟩))⟩
    refine vIsi rfl ty (b := false) (by decide +kernel) ⟨_, rfl, iteF (vIsi rfl ty (b := false) (by decide +kernel) ⟨_, rfl, iteF ?_⟩)⟩
    refine vIsi rfl ty (b := false) (by decide +kernel) (vIsi rfl ty (b := false) (by decide +kernel) ⟨rfl, _, rfl, bF (vIsi rfl ty (b := true) (by decide +kernel) (vIsi rfl ty (b := true) (by decide +kernel) ⟨rfl, _, rfl, bF ?_⟩))⟩)
    refine vIsi rfl ty (b := false) (by decide +kernel) (vIsi rfl ty (b := false) (by decide +kernel) ⟨rfl, _, rfl, ?_⟩)
    refine iteT ⟨_, rfl, _, rfl, rfl, ?_⟩
    rw [decide_eq_true rfl]
    exact q0
  | dict kvs => cases hx
  | tuple ds =>
    cases hx with
    | tup sx ax =>
    cases hy with
    | tup sy ay =>
    rename_i px xs py ys
    have tx := ty_tup sx
    have ty := ty_tup sy
    have lx := DpAll.length ax
    have ly := DpAll.length ay
    have hd' : PyData.depthAll ds + 1 < n + 1 := hd
    obtain ⟨hz, hsa⟩ := slim_seq hsl
    refine ⟨_, rfl, rfl, _, rfl, iteF (vIsi rfl ty (b := true) (by decide +kernel) (vIsi rfl tx (b := true) (by decide +kernel) ⟨rfl, _, rfl, bF (vIsi rfl ty (b := false) (by decide +kernel) (vIsi rfl tx (b := false) (by decide +kernel) ⟨rfl, _, rfl, bF ?_⟩))⟩))⟩
    refine vIsi rfl ty (b := true) (by decide +kernel) ⟨_, rfl, iteT (iteT ?_)⟩
    refine ⟨_, rfl, px, _, rfl, .inr sx, _, rfl, py, _, rfl, .inr sy, rfl, _, rfl, ?_⟩
    rw [show xs.length = ys.length by omega, decide_eq_true rfl]
    refine iteT ⟨_, rfl, py, _, rfl, .inr sy, _, rfl, by omega, by omega, fun D hD => lc_range (lo := 0) (n := ((ys.length : Nat) : Int).toNat) (fun i H' => i ≤ ys.length ∧ Same H H' ∧ H' D = some (.lst ((List.replicate i true).map V.bl))) ?_ ?_ ?_⟩
    · exact ⟨Nat.zero_le _, same_new hD, upd_same⟩
    · rintro i H' hi ⟨_, sm, hl⟩
      have hi' : i < ys.length := by omega
      have hi2 : i < ds.length := by omega
      have gd : ds[i]? = some ds[i] := List.getElem?_eq_getElem hi2
      obtain ⟨x1, gx, dx⟩ := DpAll.get ax gd
      obtain ⟨y1, gy, dy⟩ := DpAll.get ay gd
      have dd := depth_get gd
      have e0 : (0 : Int) + (i : Int) = (i : Int) := Int.zero_add _
      refine ⟨rfl, yes_ ⟨_, rfl, _, rfl, .inr (.inl ⟨px, xs, _, x1, rfl, rfl, Same.seqT sm sx, by rw [e0]; exact atI_nat gx, ?_⟩)⟩⟩
      refine ⟨_, rfl, _, rfl, .inr (.inl ⟨py, ys, _, y1, rfl, rfl, Same.seqT sm sy, by rw [e0]; exact atI_nat gy, ?_⟩)⟩
      refine ⟨x1, y1, ds[i], rfl, Dp.same dx sm, Dp.same dy sm, by omega, slim_get hsa gd, fun H2 s2 => ⟨_, s2 _ _ hl, ?_, hi', Same.upd (sm.trans s2) hD, ?_⟩⟩
      · rw [List.length_map, List.length_replicate]; exact smallL (by omega)
      · rw [upd_same, List.replicate_succ', List.map_append]; rfl
    · rintro H' ⟨_, sm, hl⟩
      refine ⟨D, _, rfl, SqL.of hl, ?_⟩
      have e2 : (List.replicate ((ys.length : Nat) : Int).toNat true).all id = true := by simp
      rw [e2]
      exact q H' sm
  | list ds =>
    cases hx with
    | lst sx ax =>
    cases hy with
    | lst sy ay =>
    rename_i px xs py ys
    have tx := ty_lst sx
    have ty := ty_lst sy
    have lx := DpAll.length ax
    have ly := DpAll.length ay
    have hd' : PyData.depthAll ds + 1 < n + 1 := hd
    obtain ⟨hz, hsa⟩ := slim_lst hsl
    refine ⟨_, rfl, rfl, _, rfl, iteF (vIsi rfl ty (b := false) (by decide +kernel) (vIsi rfl tx (b := false) (by decide +kernel) ⟨rfl, _, rfl, bF (vIsi rfl ty (b := true) (by decide +kernel) (vIsi rfl tx (b := true) (by decide +kernel) ⟨rfl, _, rfl, bF ?_⟩))⟩))⟩
    refine vIsi rfl ty (b := false) (by decide +kernel) ⟨_, rfl, iteF (vIsi rfl ty (b := true) (by decide +kernel) ⟨_, rfl, iteT ?_⟩)⟩
    refine ⟨_, rfl, px, _, rfl, .inl sx, _, rfl, py, _, rfl, .inl sy, rfl, _, rfl, ?_⟩
    rw [show xs.length = ys.length by omega, decide_eq_true rfl]
    refine iteT ⟨_, rfl, py, _, rfl, .inl sy, _, rfl, by omega, by omega, fun D hD => lc_range (lo := 0) (n := ((ys.length : Nat) : Int).toNat) (fun i H' => i ≤ ys.length ∧ Same H H' ∧ H' D = some (.lst ((List.replicate i true).map V.bl))) ?_ ?_ ?_⟩
    · exact ⟨Nat.zero_le _, same_new hD, upd_same⟩
    · rintro i H' hi ⟨_, sm, hl⟩
      have hi' : i < ys.length := by omega
      have hi2 : i < ds.length := by omega
      have gd : ds[i]? = some ds[i] := List.getElem?_eq_getElem hi2
      obtain ⟨x1, gx, dx⟩ := DpAll.get ax gd
      obtain ⟨y1, gy, dy⟩ := DpAll.get ay gd
      have dd := depth_get gd
      have e0 : (0 : Int) + (i : Int) = (i : Int) := Int.zero_add _
      refine ⟨rfl, yes_ ⟨_, rfl, _, rfl, .inl (id ⟨px, xs, _, x1, rfl, rfl, sm.seq sx, by rw [e0]; exact atI_nat gx, ?_⟩)⟩⟩
      refine ⟨_, rfl, _, rfl, .inl (id ⟨py, ys, _, y1, rfl, rfl, sm.seq sy, by rw [e0]; exact atI_nat gy, ?_⟩)⟩
      refine ⟨x1, y1, ds[i], rfl, Dp.same dx sm, Dp.same dy sm, by omega, slim_get hsa gd, fun H2 s2 => ⟨_, s2 _ _ hl, ?_, hi', Same.upd (sm.trans s2) hD, ?_⟩⟩
      · rw [List.length_map, List.length_replicate]; exact smallL (by omega)
      · rw [upd_same, List.replicate_succ', List.map_append]; rfl
    · rintro H' ⟨_, sm, hl⟩
      refine ⟨D, _, rfl, SqL.of hl, ?_⟩
      have e2 : (List.replicate ((ys.length : Nat) : Int).toNat true).all id = true := by simp
      rw [e2]
      exact q H' sm
end
end PK
namespace PK
open PySem L2
/-! the pool -/
def enc (z : Int) : Int := if 0 ≤ z then 2 * z else -2 * z - 1
def spPool (K : PySem.W.Frag) : Sp := fun vs H Q _ => ∃ (a : Addr) (ns : List Int), vs = [.ref a] ∧ SqL K H a (ns.map V.int) ∧ ns.length ≤ 63 ∧
  ∀ (H' : Hp) (l c : Addr), Same H H' → H l = none → Pool H' l c → Q (.ref l) H'
section
variable {P : Program} {w : World} {K : PySem.W.Frag} {mg : Str → Option Value} {base : Heap}
abbrev s_law_pool : Stmt := topS 11
theorem sc_law_pool : FnScope ["script", "cell"] ["script"] (defScope s_law_pool) := ⟨rfl, rfl, rfl, by decide +kernel, rfl, by decide +kernel, by decide +kernel⟩
-- slots: 0:script 1:cell(comp)
theorem ok_pool {f : Addr} {fd : FuncData} (F : Fun K "_law_pool" "_law_pool" s_law_pool f fd) :
    FnOk P w K mg base CX0 1 f fd ["script"] (spPool K) := by
  refine F.ok sc_law_pool (fun vs H Q E h => ?_) (fun cdv A outer s H vs Q E hr h => ?_)
  · obtain ⟨a, ns, rfl, _⟩ := h
    rfl
  obtain ⟨a, ns, rfl, hS, hlen, q⟩ := h
  refine ⟨_, (pss_one (ps_ret (pe_lst (pa_cons (pe_lc (own := [("cell", 1)]) (g := (gName 1)) (tt := tYes) (by rfl) sc_law_pool.nd (pi_list (pv 0)) (blkOk_by (N := ["script", "cell"]) (sc := defScope s_law_pool) (by decide +kernel)) (fun _ _ _ _ _ => (pg_name (i := 1) sc_law_pool.nd rfl (Or.inl rfl))) (fun _ _ _ _ _ => pts_nil) (fun _ _ _ _ _ => (pe_ifExp (pt_cmpR op_ge (pv 1) pe_int (nomark _)) (pe_op op_mul pe_int (pv 1)) (pe_op op_sub (pe_op op_mul (pe_un un_neg pe_int) (pv 1)) pe_int)))) (pa_cons pe_int (pa_cons pe_int (pa_cons pe_int pa_nil))))))), ?_⟩
  refine ⟨_, rfl, a, rfl, ⟨_, hS⟩, fun D hD => lc_list (K := K) (a := a) (xs := ns.map V.int) (fun i H' => i ≤ ns.length ∧ Same H H' ∧ H' D = some (.lst (((ns.take i).map enc).map V.int))) ⟨Nat.zero_le _, same_new hD, upd_same⟩ (fun i H' _ h => h.2.1.seq hS) ?_ ?_⟩
  · rintro i x H' hi ⟨_, sm, hd⟩
    have hi2 : i < ns.length := by
      have := (List.getElem?_eq_some_iff.mp hi).1
      rw [List.length_map] at this
      exact this
    rw [List.getElem?_map, List.getElem?_eq_getElem hi2] at hi
    cases hi
    have fin : ∀ z : Int, z = enc ns[i] → upd H' D (.lst (((ns.take i).map enc).map V.int ++ [V.int z])) D = some (.lst (((ns.take (i + 1)).map enc).map V.int)) := fun z e => by
      rw [upd_same, List.take_add_one, List.getElem?_eq_getElem hi2, List.map_append, List.map_append, e]
      rfl
    have ll : (((ns.take i).map enc).map V.int).length < sizeLine := by
      rw [List.length_map, List.length_map, List.length_take]
      exact smallL (by omega)
    refine ⟨rfl, yes_ ⟨_, rfl, _, _, rfl, rfl, _, rfl, ite2 (fun e => ?_) (fun e => ?_)⟩⟩
    · have e' : ns[i] ≥ 0 := of_decide_eq_true e
      exact ⟨_, rfl, _, _, rfl, rfl, .inl ⟨by decide, by decide⟩, _, hd, ll, hi2, Same.upd sm hD, fin _ (by unfold enc; rw [if_pos e'])⟩
    · have e' : ¬ ns[i] ≥ 0 := fun z => e (decide_eq_true z)
      exact ⟨_, rfl, _, rfl, _, _, rfl, rfl, .inl ⟨by decide, by decide⟩, _, _, rfl, rfl, _, hd, ll, hi2, Same.upd sm hD, fin _ (by unfold enc; rw [if_neg (by omega)])⟩
  · rintro H' ⟨_, sm, hd⟩
    rw [List.length_map, List.take_of_length_le (Nat.le_refl _)] at hd
    refine ⟨small (by show 4 ≤ _; decide), fun p hp => ?_⟩
    refine q _ p D (Same.upd sm (sm.free hp)) (sm.free hp) ⟨ns.map enc, 0, 0, 17, upd_same, by rw [upd_ne (ne_of_none hd hp)]; exact hd, ne_of_none hd hp, fun n hn => ?_, by decide, by decide, by decide, by decide, False.elim⟩
    obtain ⟨z, _, rfl⟩ := List.mem_map.mp hn
    unfold enc
    split <;> omega
end
end PK
namespace PK
open PySem L2
theorem DtAll.lenD {K : PySem.W.Frag} {H : Hp} : ∀ {xs : List V} {ds : List PyData}, DtAll K H xs ds → xs.length = ds.length
  | _, _, .nil => rfl
  | _, _, .cons _ t => by rw [List.length_cons, List.length_cons, DtAll.lenD t]
theorem DtAll.getX {K : PySem.W.Frag} {H : Hp} : ∀ {xs : List V} {ds : List PyData} {i : Nat} {x : V}, DtAll K H xs ds → xs[i]? = some x → ∃ d, ds[i]? = some d ∧ Dt K H x d
  | _, _, _, _, .nil, e => by simp at e
  | _, _, 0, _, .cons h _, e => by simp at e; subst e; exact ⟨_, rfl, h⟩
  | _, _, i + 1, _, .cons _ t, e => by
    obtain ⟨d, h1, h2⟩ := DtAll.getX (i := i) t (by simpa using e)
    exact ⟨d, by simpa using h1, h2⟩
theorem DtAll.getD {K : PySem.W.Frag} {H : Hp} : ∀ {xs : List V} {ds : List PyData} {i : Nat} {d : PyData}, DtAll K H xs ds → ds[i]? = some d → ∃ x, xs[i]? = some x ∧ Dt K H x d
  | _, _, _, _, .nil, e => by simp at e
  | _, _, 0, _, .cons h _, e => by simp at e; subst e; exact ⟨_, rfl, h⟩
  | _, _, i + 1, _, .cons _ t, e => by
    obtain ⟨d, h1, h2⟩ := DtAll.getD (i := i) t (by simpa using e)
    exact ⟨d, by simpa using h1, h2⟩
theorem DtAll.splitR {K : PySem.W.Frag} {H : Hp} : ∀ {xs : List V} {ds es : List PyData}, DtAll K H xs (ds ++ es) → ∃ ys zs, xs = ys ++ zs ∧ DtAll K H ys ds ∧ DtAll K H zs es
  | xs, [], es, h => ⟨[], xs, rfl, .nil, h⟩
  | _, d :: ds, es, h => by
    cases h with
    | cons h t =>
      obtain ⟨ys, zs, rfl, h1, h2⟩ := DtAll.splitR (ds := ds) t
      exact ⟨_ :: ys, zs, rfl, .cons h h1, h2⟩
theorem DtAll.ints {K : PySem.W.Frag} {H : Hp} : ∀ ns : List Int, DtAll K H (ns.map V.int) (ns.map PyData.int)
  | [] => .nil
  | n :: r => .cons (.int n) (DtAll.ints r)
theorem DtAll.intsE {K : PySem.W.Frag} {H : Hp} : ∀ {xs : List V} {ns : List Int}, DtAll K H xs (ns.map PyData.int) → xs = ns.map V.int
  | _, [], h => by cases h; rfl
  | _, n :: r, h => by
    cases h with
    | cons h t => rw [h.i, DtAll.intsE t]; rfl
theorem DtAll.upd {K : PySem.W.Frag} {H : Hp} {D : Addr} {vs us xs : List V} {ds : List PyData} (h : DtAll K H xs ds) (hD : H D = some (.lst vs)) : DtAll K (L2.upd H D (.lst us)) xs ds := DtAll.mono (fun _ _ z => seqT_upd z hD) _ _ h
theorem Dt.updL {K : PySem.W.Frag} {H : Hp} {D : Addr} {vs us : List V} {x : V} {d : PyData} (h : Dt K H x d) (hD : H D = some (.lst vs)) : Dt K (L2.upd H D (.lst us)) x d := Dt.mono (fun _ _ z => seqT_upd z hD) _ _ h
section
variable {K : PySem.W.Frag} {It : It} {n : Nat} {G : Hp → Prop} {Y : Nat → Hp → V → Hp → Prop}
/-- a comprehension of data, all else kept -/
theorem lcS (wk : Walk It n G Y) {g : TG} {te : TE} {vs : List Nat} {σ : L2.St} {H1 : Hp} {D : Addr} {Qd : Hp → Prop} (hD : H1 D = none) (hn : n ≤ 10000000) (Jv : List PyData → Prop) (j0 : Jv []) (hG : ∀ H', Same H1 H' → G H')
    (hs : ∀ i x H H' ds (R : V → Hp → Prop), i < n → Same H1 H → Y i H x H' → Jv ds → ds.length = i → (∀ d y H4, Same H H4 → Dt K H4 y d → Jv (ds ++ [d]) → R y H4) → g x (wipe σ vs) H' fun σ2 H2 => wipe σ2 vs = wipe σ vs ∧ te σ2 H2 R)
    (hd : ∀ H' ws ds, Same H1 H' → H' D = some (.lst ws) → DtAll K H' ws ds → ds.length = n → Jv ds → Qd H') :
    ∃ W : Nat → Nat → Hp → Prop, (∃ m, W 0 m (upd H1 D (.lst []))) ∧ ∀ i m H, W i m H →
      (It.stop i H ∧ Qd H) ∨ (It.go i H ∧ ∃ Nx : Hp → Prop, (∀ H', Nx H' → ∃ m', m' < m ∧ W (i + 1) m' H') ∧ ∀ x H', It.yld i H x H' → g x (wipe σ vs) H' fun σ2 H2 => wipe σ2 vs = wipe σ vs ∧ tYes σ2 H2 fun b H3 =>
        if b = true then te σ2 H3 fun y H4 => ∃ acc, H4 D = some (.lst acc) ∧ acc.length < sizeLine ∧ Nx (upd H4 D (.lst (acc ++ [y]))) else Nx H3) := by
  refine lc_it wk (fun i H' => ∃ (ws : List V) (ds : List PyData), Same H1 H' ∧ H' D = some (.lst ws) ∧ DtAll K H' ws ds ∧ ds.length = i ∧ Jv ds) ⟨[], [], same_new hD, upd_same, .nil, rfl, j0⟩ (fun i H' _ h => ?_) (fun i x H H' hi h y => ?_) (fun H' h => ?_)
  · obtain ⟨_, _, s, _⟩ := h
    exact hG _ s
  · obtain ⟨ws, ds, s, hw, da, len, j⟩ := h
    refine hs i x H H' ds (fun y H4 => ∃ acc, H4 D = some (.lst acc) ∧ acc.length < sizeLine ∧ ∃ (ws : List V) (ds : List PyData), Same H1 (upd H4 D (.lst (acc ++ [y]))) ∧ (upd H4 D (.lst (acc ++ [y]))) D = some (.lst ws) ∧ DtAll K (upd H4 D (.lst (acc ++ [y]))) ws ds ∧ ds.length = i + 1 ∧ Jv ds) hi s y j len fun d y H4 s4 dy j4 => ?_
    have hw4 := s4 _ _ hw
    refine ⟨ws, hw4, smallL (by rw [da.lenD, len]; omega), ws ++ [y], ds ++ [d], Same.upd (s.trans s4) hD, upd_same, ?_, by rw [List.length_append, len]; rfl, j4⟩
    exact ((da.same s4).append (.cons dy .nil)).upd hw4
  · obtain ⟨ws, ds, s, hw, da, len, j⟩ := h
    exact hd _ ws ds s hw da len j
/-- a comprehension of data that draws from the pool -/
theorem lcX (wk : Walk It n G Y) {g : TG} {te : TE} {vs : List Nat} {σ : L2.St} {H1 : Hp} {D l c : Addr} {Qd : Hp → Prop} (P : Pool H1 l c) (hD : H1 D = none) (hn : n ≤ 10000000) (Jv : List PyData → Prop) (j0 : Jv []) (hG : ∀ H', Ext l c H1 H' → G H')
    (hs : ∀ i x H H' ds (R : V → Hp → Prop), i < n → Ext l c H1 H → Y i H x H' → Jv ds → ds.length = i → (∀ d y H4, Ext l c H H4 → Dt K H4 y d → Jv (ds ++ [d]) → R y H4) → g x (wipe σ vs) H' fun σ2 H2 => wipe σ2 vs = wipe σ vs ∧ te σ2 H2 R)
    (hd : ∀ H' ws ds, Ext l c H1 H' → H' D = some (.lst ws) → DtAll K H' ws ds → ds.length = n → Jv ds → Qd H') :
    ∃ W : Nat → Nat → Hp → Prop, (∃ m, W 0 m (upd H1 D (.lst []))) ∧ ∀ i m H, W i m H →
      (It.stop i H ∧ Qd H) ∨ (It.go i H ∧ ∃ Nx : Hp → Prop, (∀ H', Nx H' → ∃ m', m' < m ∧ W (i + 1) m' H') ∧ ∀ x H', It.yld i H x H' → g x (wipe σ vs) H' fun σ2 H2 => wipe σ2 vs = wipe σ vs ∧ tYes σ2 H2 fun b H3 =>
        if b = true then te σ2 H3 fun y H4 => ∃ acc, H4 D = some (.lst acc) ∧ acc.length < sizeLine ∧ Nx (upd H4 D (.lst (acc ++ [y]))) else Nx H3) := by
  have nD := (P.ne hD).1
  refine lc_it wk (fun i H' => ∃ (ws : List V) (ds : List PyData), Ext l c H1 H' ∧ H' D = some (.lst ws) ∧ DtAll K H' ws ds ∧ ds.length = i ∧ Jv ds) ⟨[], [], (Ext.refl P).new P hD, upd_same, .nil, rfl, j0⟩ (fun i H' _ h => ?_) (fun i x H H' hi h y => ?_) (fun H' h => ?_)
  · obtain ⟨_, _, s, _⟩ := h
    exact hG _ s
  · obtain ⟨ws, ds, s, hw, da, len, j⟩ := h
    refine hs i x H H' ds (fun y H4 => ∃ acc, H4 D = some (.lst acc) ∧ acc.length < sizeLine ∧ ∃ (ws : List V) (ds : List PyData), Ext l c H1 (upd H4 D (.lst (acc ++ [y]))) ∧ (upd H4 D (.lst (acc ++ [y]))) D = some (.lst ws) ∧ DtAll K (upd H4 D (.lst (acc ++ [y]))) ws ds ∧ ds.length = i + 1 ∧ Jv ds) hi s y j len fun d y H4 s4 dy j4 => ?_
    have hw4 := s4.keep _ _ nD hw
    refine ⟨ws, hw4, smallL (by rw [da.lenD, len]; omega), ws ++ [y], ds ++ [d], (s.trans s4).upd P hD, upd_same, ?_, by rw [List.length_append, len]; rfl, j4⟩
    exact ((da.ext s.pool s4).append (.cons dy .nil)).upd hw4
  · obtain ⟨ws, ds, s, hw, da, len, j⟩ := h
    exact hd _ ws ds s hw da len j
end
end PK
namespace PK
open PySem L2
/-! terms, with the forms of results -/
inductive Fm where | get | set | plus | minus
deriving DecidableEq
def Fm.s : Fm → Str
  | .get => "get" | .set => "set" | .plus => "plus" | .minus => "minus"
inductive Tm where
  | int (n : Int)
  | name (s : Str)
  | addr (n : Int)
  | var (s : Str)
  | node (c : Str) (ts : List Tm)
  | map (es : List (Str × Tm))
  | form (f : Fm) (ts : List Tm)
mutual
def Tm.d : Tm → PyData
  | .int n => .tuple [.str "int", .int n]
  | .name s => .tuple [.str "name", .str s]
  | .addr n => .tuple [.str "addr", .int n]
  | .var s => .tuple [.str "meta", .str s]
  | .node c ts => .tuple [.str "node", .str c, .tuple (Tm.ds ts)]
  | .map es => .tuple [.str "map", .tuple (Tm.es es)]
  | .form f ts => .tuple (.str f.s :: Tm.ds ts)
def Tm.ds : List Tm → List PyData
  | [] => []
  | t :: r => t.d :: Tm.ds r
def Tm.es : List (Str × Tm) → List PyData
  | [] => []
  | (w, t) :: r => .tuple [.str w, t.d] :: Tm.es r
end
theorem Tm.ds_map : ∀ ts : List Tm, Tm.ds ts = ts.map Tm.d
  | [] => by unfold Tm.ds; rfl
  | t :: r => by unfold Tm.ds; rw [Tm.ds_map r]; rfl
def Tm.ent (e : Str × Tm) : PyData := .tuple [.str e.1, e.2.d]
theorem Tm.es_map : ∀ es : List (Str × Tm), Tm.es es = es.map Tm.ent
  | [] => by unfold Tm.es; rfl
  | (w, t) :: r => by unfold Tm.es; rw [Tm.es_map r]; rfl
def Tm.kids : Tm → List Tm
  | .node _ ts => ts
  | .form _ ts => ts
  | .map es => es.map Prod.snd
  | _ => []
def Tm.hd : Tm → Str
  | .int _ => "int" | .name _ => "name" | .addr _ => "addr" | .var _ => "meta" | .node _ _ => "node" | .map _ => "map" | .form f _ => f.s
theorem Tm.kid_lt {t k : Tm} (h : k ∈ t.kids) : sizeOf k < sizeOf t := by
  cases t with
  | node c ts => have := List.sizeOf_lt_of_mem (as := ts) h; simp only [Tm.node.sizeOf_spec]; omega
  | form c ts => have := List.sizeOf_lt_of_mem (as := ts) h; simp only [Tm.form.sizeOf_spec]; omega
  | map es =>
    obtain ⟨e, he, rfl⟩ := List.mem_map.mp h
    have := List.sizeOf_lt_of_mem he
    have e2 : sizeOf e = 1 + sizeOf e.1 + sizeOf e.2 := by cases e; rfl
    simp only [Tm.map.sizeOf_spec]
    omega
  | int _ => cases h
  | name _ => cases h
  | addr _ => cases h
  | var _ => cases h
/-- induction over the direct parts -/
theorem Tm.ind {p : Tm → Prop} (h : ∀ t : Tm, (∀ k ∈ t.kids, p k) → p t) (t : Tm) : p t := by
  have : ∀ n (t : Tm), sizeOf t ≤ n → p t := by
    intro n
    induction n with
    | zero => intro t ht; cases t <;> simp at ht
    | succ n ih => exact fun t ht => h t fun k hk => ih k (by have := Tm.kid_lt hk; omega)
  exact this _ t (Nat.le_refl _)
def Tm.size (t : Tm) : Nat := 1 + (t.kids.attach.map fun k => k.1.size).sum
termination_by sizeOf t
decreasing_by exact Tm.kid_lt k.2
theorem Tm.size_eq (t : Tm) : t.size = 1 + (t.kids.map Tm.size).sum := by
  rw [Tm.size, List.attach_map_val (f := Tm.size)]
/-- the first data of the tuple of a term -/
theorem Tm.d_hd (t : Tm) : ∃ r, t.d = .tuple (.str t.hd :: r) := by
  cases t <;> exact ⟨_, by unfold Tm.d; rfl⟩
def longI (n : Int) : Bool := decide (10 ^ 15 ≤ (if n < 0 then -n else n))
def Tm.long : Tm → Bool
  | .int n => longI n
  | _ => false
/-- too deep, or a long integer, in a term at a depth -/
def Tm.bad (t : Tm) (d : Nat) : Bool := decide (100 < d) || t.long || t.kids.attach.any fun k => k.1.bad (d + 1)
termination_by sizeOf t
decreasing_by exact Tm.kid_lt k.2
theorem any_attach {α : Type} (l : List α) (p : α → Bool) : (l.attach.any fun k => p k.1) = l.any p := by
  exact (List.any_map (l := l.attach) (f := Subtype.val) (p := p)).symm.trans (by rw [List.attach_map_subtype_val])
theorem Tm.bad_eq (t : Tm) (d : Nat) : t.bad d = (decide (100 < d) || t.long || t.kids.any fun k => k.bad (d + 1)) := by
  rw [Tm.bad, any_attach t.kids (fun k => k.bad (d + 1))]
/-- the kids as data -/
theorem Tm.dt_parts {K : PySem.W.Frag} {H : Hp} {v : V} {t : Tm} (h : Dt K H v t.d) : ∃ (a : Addr) (r : List V), v = .ref a ∧ SqT K H a (.str t.hd :: r) := by
  obtain ⟨r, e⟩ := t.d_hd
  rw [e] at h
  obtain ⟨a, xs, rfl, s, da⟩ := Dt.tn h
  cases da with
  | cons h1 r1 => rw [h1.s] at s; exact ⟨a, _, rfl, s⟩
structure TxtT (K : PySem.W.Frag) (mg : Str → Option Value) (aF : Addr) : Prop extends Txt K mg where
  g_FO : mg "_FORMS" = some (.ref aF)
  forms : ∀ H, SqT K H aF [.str "get", .str "set", .str "plus", .str "minus"]
def spKids (K : PySem.W.Frag) : Sp := fun vs H Q _ => ∃ (v : V) (t : Tm), vs = [v] ∧ Dt K H v t.d ∧ t.kids.length ≤ 10000000 ∧
  ∀ (H' : Hp) (p : Addr) (ws : List V), Same H H' → SqT K H' p ws → DtAll K H' ws (t.kids.map Tm.d) → Q (.ref p) H'
theorem Fm.ne_node (f : Fm) : f.s ≠ "node" := by cases f <;> decide +kernel
theorem Fm.ne_map (f : Fm) : f.s ≠ "map" := by cases f <;> decide +kernel
theorem Fm.inF (f : Fm) : inV (.str f.s) [V.str "get", V.str "set", V.str "plus", V.str "minus"] = true := by cases f <;> decide +kernel
section
variable {P : Program} {w : World} {K : PySem.W.Frag} {mg : Str → Option Value} {base : Heap} {aF : Addr}
abbrev s_children : Stmt := topS 2
theorem sc_children : FnScope ["term", "_", "entry"] ["term"] (defScope s_children) := ⟨rfl, rfl, rfl, by decide +kernel, rfl, by decide +kernel, by decide +kernel⟩
-- slots: 0:term 1:_(comp) 2:entry(comp)
theorem ok_kids {f : Addr} {fd : FuncData} (F : Fun K "children" "children" s_children f fd) (T : TxtT K mg aF) : FnOk P w K mg base CX0 1 f fd ["term"] (spKids K) := by
  refine F.ok sc_children (fun vs H Q E h => ?_) (fun cdv A outer s H vs Q E hr h => ?_)
  · obtain ⟨v, t, rfl, _⟩ := h
    rfl
  obtain ⟨v, t, rfl, hv, hn, q⟩ := h
  refine ⟨_, (pss_cons (ps_if (pt_cmpR op_eq (pe_ix ix_tup (pv 0) pe_int (fun _ _ => rfl)) pe_str (nomark _)) (pss_one (ps_ret (pe_ix ix_tup (pv 0) pe_int (fun _ _ => rfl)))) pss_nil)
    (pss_cons (ps_if (pt_cmpR op_eq (pe_ix ix_tup (pv 0) pe_int (fun _ _ => rfl)) pe_str (nomark _)) (pss_one (ps_ret (pe_callTy call_tuple_of (by rfl) T.z_tuple (by decide +kernel) (pa_cons (pe_lc (own := [("_", 1), ("entry", 2)]) (g := (gTup K 2 (gCons (gName 1) (gCons (gName 2) gNil)))) (tt := tYes) (by rfl) sc_children.nd (pi_tup (pe_ix ix_tup (pv 0) pe_int (fun _ _ => rfl))) (blkOk_by (N := ["term", "_", "entry"]) (sc := defScope s_children) (by decide +kernel)) (fun _ _ _ _ _ => (pg_tup (by rfl) (pgs_cons (pg_name (i := 1) sc_children.nd rfl (Or.inl rfl)) (pgs_cons (pg_name (i := 2) sc_children.nd rfl (Or.inl rfl)) pgs_nil)))) (fun _ _ _ _ _ => pts_nil) (fun _ _ _ _ _ => (pv 2))) pa_nil)))) pss_nil)
    (pss_cons (ps_if (pt_cmpR op_in_seq (pe_ix ix_tup (pv 0) pe_int (fun _ _ => rfl)) (pe_glob (v := .ref aF) rfl T.g_FO rfl) rfl) (pss_one (ps_ret (pe_slice sl_tup (pv 0) (po_some pe_int) po_none))) pss_nil)
    (pss_one (ps_ret (pe_tup pa_nil)))))), ?_⟩
  cases t with
  | node c ts =>
    unfold Tm.d at hv
    obtain ⟨a, x, y, z, rfl, hs, h1, h2, h3⟩ := Dt.t3 hv
    obtain rfl := h1.s
    obtain ⟨b, ys, rfl, hb, hys⟩ := Dt.tn h3
    refine vTx rfl hs rfl ⟨rfl, _, rfl, sT rfl (vTx rfl hs rfl ?_)⟩
    exact q H b ys (Same.refl H) hb (by rw [Tm.ds_map] at hys; exact hys)
  | map es =>
    unfold Tm.d at hv
    obtain ⟨a, x, y, rfl, hs, h1, h2⟩ := Dt.t2 hv
    obtain rfl := h1.s
    obtain ⟨b, ys, rfl, hb, hys⟩ := Dt.tn h2
    rw [Tm.es_map] at hys
    have ly : ys.length = es.length := by rw [hys.lenD, List.length_map]
    have hn' : es.length ≤ 10000000 := by rw [show (Tm.map es).kids = es.map Prod.snd from rfl, List.length_map] at hn; exact hn
    refine vTx rfl hs rfl ⟨rfl, _, rfl, sF (by decide +kernel) (vTx rfl hs rfl ⟨rfl, _, rfl, sT rfl ?_⟩)⟩
    refine vTx rfl hs rfl ⟨b, rfl, ⟨_, hb⟩, fun D hD => lcS (K := K) (walk_tup (xs := ys)) hD (by omega) (fun ds => ds = (es.take ds.length).map fun e => e.2.d) rfl (fun H' s => Same.seqT s hb) ?_ ?_⟩
    · rintro i x H1 H2 ds R hi s ⟨rfl, gx⟩ jd len r
      obtain ⟨e, ge, dx⟩ := DtAll.getX hys gx
      rw [List.getElem?_map] at ge
      cases e0 : es[i]? with
      | none => rw [e0] at ge; cases ge
      | some en =>
        rw [e0] at ge
        cases ge
        obtain ⟨a1, x1, y1, rfl, hs1, k1, k2⟩ := Dt.t2 (dx.same s)
        refine ⟨a1, _, rfl, hs1, rfl, _, _, rfl, _, _, rfl, rfl, rfl, _, rfl, r en.2.d y1 _ (Same.refl _) k2 ?_⟩
        rw [List.length_append, len, show i + [en.2.d].length = i + 1 from rfl, List.take_add_one, e0, List.map_append]
        rw [len] at jd
        rw [← jd]; rfl
    · rintro H' ws ds s hw da len jd
      rw [len, ly, List.take_length] at jd
      refine ⟨D, _, rfl, .inl ⟨SqL.of hw, fun p hp => ?_⟩⟩
      refine q _ p ws (Same.upd s ((Same.refl H).trans s |>.free hp)) (SqT.of upd_same) ?_
      rw [jd] at da
      rw [show (Tm.map es).kids.map Tm.d = es.map fun e => e.2.d from by unfold Tm.kids; rw [List.map_map]; rfl]
      exact da.same (same_new hp)
  | form g ts =>
    unfold Tm.d at hv
    obtain ⟨a, xs, rfl, hs, da⟩ := Dt.tn hv
    cases da with
    | cons h1 dr =>
    obtain rfl := h1.s
    rename_i vs1
    refine vTx rfl hs (atI_nat (j := 0) rfl) ⟨rfl, _, rfl, sF g.ne_node (vTx rfl hs (atI_nat (j := 0) rfl) ⟨rfl, _, rfl, sF g.ne_map (vTx (v := .str g.s) rfl hs (atI_nat (j := 0) rfl) ⟨aF, _, rfl, .inr (T.forms H), rfl, rfl, _, rfl, ?_⟩)⟩)⟩
    rw [if_neg Bool.false_ne_true, g.inF]
    refine iteT ⟨_, rfl, _, rfl, a, _, rfl, hs, fun z => ?_, fun p hp => ?_⟩
    · have e := z.1
      revert e
      show (HT.sIx (vs1.length + 1) 0 (some 1) = 0) → False
      unfold HT.sIx
      intro e
      simp at e
    · have ec : cutV (V.str g.s :: vs1) (some 1) none = vs1 := by
        unfold cutV HT.sIx
        simp
      rw [ec]
      refine q _ p vs1 (same_new hp) (SqT.of upd_same) ?_
      rw [Tm.ds_map] at dr
      exact dr.same (same_new hp)
  | int n =>
    unfold Tm.d at hv
    obtain ⟨a, x, y, rfl, hs, h1, h2⟩ := Dt.t2 hv
    obtain rfl := h1.s
    refine vTx rfl hs rfl ⟨rfl, _, rfl, sF (by decide +kernel) (vTx rfl hs rfl ⟨rfl, _, rfl, sF (by decide +kernel) (vTx (v := .str "int") rfl hs rfl ⟨aF, _, rfl, .inr (T.forms H), rfl, rfl, _, rfl, ?_⟩)⟩)⟩
    rw [if_neg Bool.false_ne_true, show inV (.str "int") [V.str "get", V.str "set", V.str "plus", V.str "minus"] = false by decide +kernel]
    exact iteF ⟨Nat.zero_le _, fun p hp => q _ p [] (same_new hp) (SqT.of upd_same) .nil⟩
  | name n =>
    unfold Tm.d at hv
    obtain ⟨a, x, y, rfl, hs, h1, h2⟩ := Dt.t2 hv
    obtain rfl := h1.s
    refine vTx rfl hs rfl ⟨rfl, _, rfl, sF (by decide +kernel) (vTx rfl hs rfl ⟨rfl, _, rfl, sF (by decide +kernel) (vTx (v := .str "name") rfl hs rfl ⟨aF, _, rfl, .inr (T.forms H), rfl, rfl, _, rfl, ?_⟩)⟩)⟩
    rw [if_neg Bool.false_ne_true, show inV (.str "name") [V.str "get", V.str "set", V.str "plus", V.str "minus"] = false by decide +kernel]
    exact iteF ⟨Nat.zero_le _, fun p hp => q _ p [] (same_new hp) (SqT.of upd_same) .nil⟩
  | addr n =>
    unfold Tm.d at hv
    obtain ⟨a, x, y, rfl, hs, h1, h2⟩ := Dt.t2 hv
    obtain rfl := h1.s
    refine vTx rfl hs rfl ⟨rfl, _, rfl, sF (by decide +kernel) (vTx rfl hs rfl ⟨rfl, _, rfl, sF (by decide +kernel) (vTx (v := .str "addr") rfl hs rfl ⟨aF, _, rfl, .inr (T.forms H), rfl, rfl, _, rfl, ?_⟩)⟩)⟩
    rw [if_neg Bool.false_ne_true, show inV (.str "addr") [V.str "get", V.str "set", V.str "plus", V.str "minus"] = false by decide +kernel]
    exact iteF ⟨Nat.zero_le _, fun p hp => q _ p [] (same_new hp) (SqT.of upd_same) .nil⟩
  | var n =>
    unfold Tm.d at hv
    obtain ⟨a, x, y, rfl, hs, h1, h2⟩ := Dt.t2 hv
    obtain rfl := h1.s
    refine vTx rfl hs rfl ⟨rfl, _, rfl, sF (by decide +kernel) (vTx rfl hs rfl ⟨rfl, _, rfl, sF (by decide +kernel) (vTx (v := .str "meta") rfl hs rfl ⟨aF, _, rfl, .inr (T.forms H), rfl, rfl, _, rfl, ?_⟩)⟩)⟩
    rw [if_neg Bool.false_ne_true, show inV (.str "meta") [V.str "get", V.str "set", V.str "plus", V.str "minus"] = false by decide +kernel]
    exact iteF ⟨Nat.zero_le _, fun p hp => q _ p [] (same_new hp) (SqT.of upd_same) .nil⟩
end
end PK
namespace PK
open PySem L2
/-! rebuild -/
structure TxtZ (K : PySem.W.Frag) (mg : Str → Option Value) (aF : Addr) : Prop extends TxtT K mg aF where
  z_zip : mg "zip" = none
  z_reversed : mg "reversed" = none
  z_dict : mg "dict" = none
  z_sum : mg "sum" = none
def Tm.withKids : Tm → List Tm → Tm
  | .node c _, ks => .node c ks
  | .map es, ks => .map (List.zipWith (fun e k => (e.1, k)) es ks)
  | .form f _, ks => .form f ks
  | t, _ => t
def spRebuild (K : PySem.W.Frag) : Sp := fun vs H Q _ => ∃ (v : V) (t : Tm) (a : Addr) (ws : List V) (ks : List Tm), vs = [v, .ref a] ∧ Dt K H v t.d ∧ SqL K H a ws ∧ DtAll K H ws (ks.map Tm.d) ∧ ks.length = t.kids.length ∧ ks.length ≤ 10000000 ∧
  ∀ (H' : Hp) (v' : V), Same H H' → Dt K H' v' (t.withKids ks).d → Q v' H'
section
variable {P : Program} {w : World} {K : PySem.W.Frag} {mg : Str → Option Value} {base : Heap} {aF : Addr}
abbrev s_rebuild : Stmt := topS 3
theorem sc_rebuild : FnScope ["term", "parts", "part", "word", "_"] ["term", "parts"] (defScope s_rebuild) := ⟨rfl, rfl, rfl, by decide +kernel, rfl, by decide +kernel, by decide +kernel⟩
-- slots: 0:term 1:parts 2:part(comp) 3:word(comp) 4:_(comp)
theorem ok_rebuild {f : Addr} {fd : FuncData} (F : Fun K "rebuild" "rebuild" s_rebuild f fd) (T : TxtZ K mg aF) : FnOk P w K mg base CX0 1 f fd ["term", "parts"] (spRebuild K) := by
  refine F.ok sc_rebuild (fun vs H Q E h => ?_) (fun cdv A outer s H vs Q E hr h => ?_)
  · obtain ⟨v, t, a, ws, ks, rfl, _⟩ := h
    rfl
  obtain ⟨v, t, a, ws, ks, rfl, hv, hS, da, lk, hn, q⟩ := h
  refine ⟨_, (pss_cons (ps_if (pt_cmpR op_eq (pe_ix ix_tup (pv 0) pe_int (fun _ _ => rfl)) pe_str (nomark _)) (pss_one (ps_ret (pe_tup (pa_cons pe_str (pa_cons (pe_ix ix_tup (pv 0) pe_int (fun _ _ => rfl)) (pa_cons (pe_callTy call_tuple_of (by rfl) T.z_tuple (by decide +kernel) (pa_cons (pv 1) pa_nil)) pa_nil)))))) pss_nil)
    (pss_cons (ps_if (pt_cmpR op_eq (pe_ix ix_tup (pv 0) pe_int (fun _ _ => rfl)) pe_str (nomark _)) (pss_one (ps_ret (pe_tup (pa_cons pe_str (pa_cons (pe_callTy call_tuple_of (by rfl) T.z_tuple (by decide +kernel) (pa_cons (pe_lc (own := [("part", 2), ("word", 3), ("_", 4)]) (g := (gTup K 2 (gCons (gTup K 2 (gCons (gName 3) (gCons (gName 4) gNil))) (gCons (gName 2) gNil)))) (tt := tYes) (by rfl) sc_rebuild.nd (PKZ.pi_zipP (by rfl) T.z_zip (pa_cons (pe_ix ix_tup (pv 0) pe_int (fun _ _ => rfl)) (pa_cons (pv 1) pa_nil))) (blkOk_by (N := ["term", "parts", "part", "word", "_"]) (sc := defScope s_rebuild) (by decide +kernel)) (fun _ _ _ _ _ => (pg_tup (by rfl) (pgs_cons (pg_tup (by rfl) (pgs_cons (pg_name (i := 3) sc_rebuild.nd rfl (Or.inl rfl)) (pgs_cons (pg_name (i := 4) sc_rebuild.nd rfl (Or.inl rfl)) pgs_nil))) (pgs_cons (pg_name (i := 2) sc_rebuild.nd rfl (Or.inl rfl)) pgs_nil)))) (fun _ _ _ _ _ => pts_nil) (fun _ _ _ _ _ => (pe_tup (pa_cons (pv 3) (pa_cons (pv 2) pa_nil))))) pa_nil)) pa_nil))))) pss_nil)
    (pss_cons (ps_if (pt_cmpR op_in_seq (pe_ix ix_tup (pv 0) pe_int (fun _ _ => rfl)) (pe_glob (v := .ref aF) rfl T.g_FO rfl) rfl) (pss_one (ps_ret (pe_tup (pa_cons (pe_ix ix_tup (pv 0) pe_int (fun _ _ => rfl)) (StX.pa_star (pv 1) pa_nil))))) pss_nil)
    (pss_one (ps_ret (pv 0)))))), ?_⟩
  have lw : ws.length = ks.length := by rw [da.lenD, List.length_map]
  cases t with
  | node c ts =>
    unfold Tm.d at hv
    obtain ⟨b, x, y, z, rfl, hs, h1, h2, h3⟩ := Dt.t3 hv
    obtain rfl := h1.s
    refine vTx rfl hs rfl ⟨rfl, _, rfl, sT rfl (vTx rfl hs rfl ?_)⟩
    refine ⟨_, rfl, a, ws, rfl, .inl ⟨hS, fun p hp => ⟨small (by show 3 ≤ _; decide), fun p2 hp2 => ?_⟩⟩⟩
    refine q _ _ ((same_new hp).trans (same_new hp2)) ?_
    show Dt K _ _ (Tm.node c ks).d
    unfold Tm.d
    rw [Tm.ds_map]
    exact Dt.mk3 hp2 (.str "node") (h2.new hp) (.tup (SqT.of upd_same) (da.same (same_new hp)))
  | map es =>
    unfold Tm.d at hv
    obtain ⟨b, x, y, rfl, hs, h1, h2⟩ := Dt.t2 hv
    obtain rfl := h1.s
    obtain ⟨b2, ys, rfl, hb, hys⟩ := Dt.tn h2
    rw [Tm.es_map] at hys
    have ly : ys.length = es.length := by rw [hys.lenD, List.length_map]
    have lk' : ks.length = es.length := by rw [lk]; unfold Tm.kids; rw [List.length_map]
    refine vTx rfl hs rfl ⟨rfl, _, rfl, sF (by decide +kernel) (vTx rfl hs rfl ⟨rfl, _, rfl, sT rfl ?_⟩)⟩
    refine vTx rfl hs rfl ⟨_, rfl, .t, .l, b2, a, ys, ws, rfl, hb, hS, fun D hD => lcS (K := K) (PKZ.walk_zipP (n := ws.length) (by omega)) hD (by omega) (fun ds => ds = (List.zipWith (fun (e : Str × Tm) (k : Tm) => Tm.ent (e.1, k)) (es.take ds.length) (ks.take ds.length))) rfl (fun H' s => ⟨Same.seqT s hb, s.seq hS⟩) ?_ ?_⟩
    · rintro i x H1 H2 ds R hi s ⟨U, x1, y1, rfl, hU, rfl, g1, g2⟩ jd len r
      obtain ⟨e, ge, dx⟩ := DtAll.getX hys g1
      obtain ⟨d2, gd, dy⟩ := DtAll.getX da g2
      rw [List.getElem?_map] at ge gd
      cases e0 : es[i]? with
      | none => rw [e0] at ge; cases ge
      | some en =>
      cases k0 : ks[i]? with
      | none => rw [k0] at gd; cases gd
      | some kn =>
        rw [e0] at ge
        rw [k0] at gd
        cases ge
        cases gd
        unfold Tm.ent at dx
        obtain ⟨a1, u1, w1, rfl, hs1, j1, j2⟩ := Dt.t2 (dx.same s)
        obtain rfl := j1.s
        refine ⟨U, _, rfl, SqT.of upd_same, rfl, _, _, rfl, ⟨a1, _, rfl, Same.seqT (same_new hU) hs1, rfl, _, _, rfl, _, _, rfl, rfl, _, _, rfl, rfl, rfl, _, rfl, _, rfl, small (by show 2 ≤ _; decide), fun p hp => r (Tm.ent (en.1, kn)) _ _ ((same_new hU).trans (same_new hp)) ?_ ?_⟩⟩
        · unfold Tm.ent
          exact Dt.mk2 hp (.str _) ((dy.same s).new hU)
        · rw [List.length_append, len, show i + [Tm.ent (en.1, kn)].length = i + 1 from rfl, List.take_add_one, List.take_add_one, e0, k0]
          rw [len] at jd
          rw [List.zipWith_append (by rw [List.length_take, List.length_take]; omega), ← jd]; rfl
    · rintro H' vs ds s hw dz len jd
      rw [len, lw, List.take_length, lk', List.take_length] at jd
      refine ⟨D, _, rfl, .inl ⟨SqL.of hw, fun p hp => ⟨small (by show 2 ≤ _; decide), fun p2 hp2 => ?_⟩⟩⟩
      refine q _ _ ((s.trans (same_new hp)).trans (same_new hp2)) ?_
      show Dt K _ _ (Tm.map (List.zipWith (fun e k => (e.1, k)) es ks)).d
      unfold Tm.d
      rw [Tm.es_map, List.map_zipWith]
      rw [jd] at dz
      exact Dt.mk2 hp2 (.str "map") (.tup (SqT.of upd_same) (dz.same (same_new hp)))
  | form g ts =>
    unfold Tm.d at hv
    obtain ⟨b, xs, rfl, hs, db⟩ := Dt.tn hv
    cases db with
    | cons h1 dr =>
    obtain rfl := h1.s
    rename_i vs1
    refine vTx rfl hs (atI_nat (j := 0) rfl) ⟨rfl, _, rfl, sF g.ne_node (vTx rfl hs (atI_nat (j := 0) rfl) ⟨rfl, _, rfl, sF g.ne_map (vTx (v := .str g.s) rfl hs (atI_nat (j := 0) rfl) ⟨aF, _, rfl, .inr (T.forms H), rfl, rfl, _, rfl, ?_⟩)⟩)⟩
    rw [if_neg Bool.false_ne_true, g.inF]
    refine iteT (vTx (v := .str g.s) rfl hs (atI_nat (j := 0) rfl) ⟨_, rfl, a, ws, rfl, .inr hS, ?_⟩)
    refine ⟨small (by rw [List.length_cons, List.append_nil, lw]; omega), fun p hp => q _ _ (same_new hp) ?_⟩
    show Dt K _ _ (Tm.form g ks).d
    unfold Tm.d
    rw [Tm.ds_map, List.append_nil]
    exact .tup (SqT.of upd_same) (.cons (.str _) (da.same (same_new hp)))
  | int n =>
    have hv0 := hv
    unfold Tm.d at hv
    obtain ⟨b, x, y, rfl, hs, h1, h2⟩ := Dt.t2 hv
    obtain rfl := h1.s
    refine vTx rfl hs rfl ⟨rfl, _, rfl, sF (by decide +kernel) (vTx rfl hs rfl ⟨rfl, _, rfl, sF (by decide +kernel) (vTx (v := .str "int") rfl hs rfl ⟨aF, _, rfl, .inr (T.forms H), rfl, rfl, _, rfl, ?_⟩)⟩)⟩
    rw [if_neg Bool.false_ne_true, show inV (.str "int") [V.str "get", V.str "set", V.str "plus", V.str "minus"] = false by decide +kernel]
    exact iteF ⟨_, rfl, q _ _ (Same.refl H) hv0⟩
  | name n =>
    have hv0 := hv
    unfold Tm.d at hv
    obtain ⟨b, x, y, rfl, hs, h1, h2⟩ := Dt.t2 hv
    obtain rfl := h1.s
    refine vTx rfl hs rfl ⟨rfl, _, rfl, sF (by decide +kernel) (vTx rfl hs rfl ⟨rfl, _, rfl, sF (by decide +kernel) (vTx (v := .str "name") rfl hs rfl ⟨aF, _, rfl, .inr (T.forms H), rfl, rfl, _, rfl, ?_⟩)⟩)⟩
    rw [if_neg Bool.false_ne_true, show inV (.str "name") [V.str "get", V.str "set", V.str "plus", V.str "minus"] = false by decide +kernel]
    exact iteF ⟨_, rfl, q _ _ (Same.refl H) hv0⟩
  | addr n =>
    have hv0 := hv
    unfold Tm.d at hv
    obtain ⟨b, x, y, rfl, hs, h1, h2⟩ := Dt.t2 hv
    obtain rfl := h1.s
    refine vTx rfl hs rfl ⟨rfl, _, rfl, sF (by decide +kernel) (vTx rfl hs rfl ⟨rfl, _, rfl, sF (by decide +kernel) (vTx (v := .str "addr") rfl hs rfl ⟨aF, _, rfl, .inr (T.forms H), rfl, rfl, _, rfl, ?_⟩)⟩)⟩
    rw [if_neg Bool.false_ne_true, show inV (.str "addr") [V.str "get", V.str "set", V.str "plus", V.str "minus"] = false by decide +kernel]
    exact iteF ⟨_, rfl, q _ _ (Same.refl H) hv0⟩
  | var n =>
    have hv0 := hv
    unfold Tm.d at hv
    obtain ⟨b, x, y, rfl, hs, h1, h2⟩ := Dt.t2 hv
    obtain rfl := h1.s
    refine vTx rfl hs rfl ⟨rfl, _, rfl, sF (by decide +kernel) (vTx rfl hs rfl ⟨rfl, _, rfl, sF (by decide +kernel) (vTx (v := .str "meta") rfl hs rfl ⟨aF, _, rfl, .inr (T.forms H), rfl, rfl, _, rfl, ?_⟩)⟩)⟩
    rw [if_neg Bool.false_ne_true, show inV (.str "meta") [V.str "get", V.str "set", V.str "plus", V.str "minus"] = false by decide +kernel]
    exact iteF ⟨_, rfl, q _ _ (Same.refl H) hv0⟩
end
end PK
namespace PK
open PySem L2
/-! assembled -/
def HdD (h : Tm × Nat) : PyData := .tuple [h.1.d, .int (h.2 : Nat)]
/-- what a row of heads makes, from its end: the terms that stand then, the last one first -/
inductive PreL : List Tm → List (Tm × Nat) → Prop
  | nil : PreL [] []
  | leaf {p : Tm} {rest : List Tm} {hs : List (Tm × Nat)} : PreL rest hs → PreL (p :: rest) ((p, 0) :: hs)
  | node {p : Tm} {ts rest : List Tm} {hs : List (Tm × Nat)} {n : Nat} : PreL (ts ++ rest) hs → ts.length = n → 0 < n → n = p.kids.length → PreL (p.withKids ts :: rest) ((p, n) :: hs)
theorem PreL.one : ∀ {hs : List (Tm × Nat)} {a b : List Tm}, PreL a hs → PreL b hs → a = b
  | [], _, _, .nil, .nil => rfl
  | (p, 0) :: hs, _, _, .leaf h, .leaf h' => by rw [PreL.one h h']
  | (p, 0) :: hs, _, _, .node _ _ h0 _, _ => absurd h0 (Nat.lt_irrefl _)
  | (p, 0) :: hs, _, _, _, .node _ _ h0 _ => absurd h0 (Nat.lt_irrefl _)
  | (p, n + 1) :: hs, _, _, .node h l _ _, .node h' l' _ _ => by
    obtain ⟨e1, e2⟩ := List.append_inj (PreL.one h h') (l.trans l'.symm)
    rw [e1, e2]
theorem PreL.len_le : ∀ {hs : List (Tm × Nat)} {a : List Tm}, PreL a hs → a.length ≤ hs.length
  | _, _, .nil => Nat.le_refl _
  | _, _, .leaf h => by rw [List.length_cons, List.length_cons]; have := h.len_le; omega
  | _, _, .node h l h0 _ => by rw [List.length_cons, List.length_cons]; have := h.len_le; rw [List.length_append] at this; omega
theorem PreL.drop : ∀ {hs : List (Tm × Nat)} {a : List Tm} (k : Nat), PreL a hs → ∃ b, PreL b (hs.drop k)
  | hs, a, 0, h => ⟨a, h⟩
  | _, _, k + 1, .nil => ⟨[], .nil⟩
  | _, _, k + 1, .leaf h => h.drop k
  | _, _, k + 1, .node h _ _ _ => h.drop k
def spAsm (K : PySem.W.Frag) : Sp := fun vs H Q _ => ∃ (a : Addr) (ws : List V) (hs : List (Tm × Nat)) (t : Tm), vs = [.ref a] ∧ SqL K H a ws ∧ DtAll K H ws (hs.map HdD) ∧ PreL [t] hs ∧ hs.length ≤ 1000000 ∧
  ∀ (H' : Hp) (v : V), Same H H' → Dt K H' v t.d → Q v H'
theorem DtAll.rev {K : PySem.W.Frag} {H : Hp} : ∀ {xs : List V} {ds : List PyData}, DtAll K H xs ds → DtAll K H xs.reverse ds.reverse
  | _, _, .nil => .nil
  | _, _, .cons h t => by
    rw [List.reverse_cons, List.reverse_cons]
    exact t.rev.append (.cons h .nil)
end PK
namespace PK
open PySem L2
/-! what filling and translating mean -/
/-- the last pair of a key -/
def lookA {α β : Type} [DecidableEq α] : List (α × β) → α → Option β
  | [], _ => none
  | (k, v) :: r, s => match lookA r s with | some t => some t | none => if k = s then some v else none
theorem lookA_map {α β γ : Type} [DecidableEq α] (f : β → γ) : ∀ (l : List (α × β)) (s : α), lookA (l.map fun p => (p.1, f p.2)) s = (lookA l s).map f
  | [], _ => rfl
  | (k, v) :: r, s => by
    rw [List.map_cons]
    unfold lookA
    rw [lookA_map f r s]
    cases lookA r s with
    | some t => rfl
    | none => by_cases e : k = s <;> simp [e]
theorem lookA_mem {α β : Type} [DecidableEq α] : ∀ {l : List (α × β)} {s : α} {t : β}, lookA l s = some t → (s, t) ∈ l
  | (k, v) :: r, s, t, h => by
    unfold lookA at h
    cases e : lookA r s with
    | some u =>
      rw [e] at h
      cases h
      exact .tail _ (lookA_mem e)
    | none =>
      rw [e] at h
      by_cases ek : k = s
      · subst ek; simp at h; subst h; exact .head _
      · simp [ek] at h
theorem lookA_has {α β : Type} [DecidableEq α] : ∀ {l : List (α × β)} {s : α}, s ∈ l.map Prod.fst → ∃ t, lookA l s = some t
  | (k, v) :: r, s, h => by
    unfold lookA
    cases e : lookA r s with
    | some u => exact ⟨u, rfl⟩
    | none =>
      rcases List.mem_cons.mp h with h | h
      · exact ⟨v, by simp [h]⟩
      · obtain ⟨t, e2⟩ := lookA_has h
        rw [e] at e2; cases e2
abbrev Tab := List (Str × Tm)
def Tm.filK (tab : Tab) (t : Tm) (ks : List Tm) : Tm := match t with
  | .var s => (lookA tab s).getD (.var s)
  | t => t.withKids ks
def Tm.fill (tab : Tab) (t : Tm) : Tm := t.filK tab (t.kids.attach.map fun k => k.1.fill tab)
termination_by sizeOf t
decreasing_by exact Tm.kid_lt k.2
theorem Tm.fill_eq (tab : Tab) (t : Tm) : t.fill tab = t.filK tab (t.kids.map (Tm.fill tab)) := by
  rw [Tm.fill, List.attach_map_val (f := Tm.fill tab)]
structure Rw where
  nm : Str
  ps : List Str
  t : Tm
def Rw.d (r : Rw) : PyData := .tuple [.str r.nm, .tuple (r.ps.map .str), r.t.d]
def rowOf (R : List Rw) (c : Str) : Option Rw := R.find? fun r => decide (r.nm = c)
theorem rowOf_mem {R : List Rw} (hn : (R.map Rw.nm).Nodup) {r : Rw} (h : r ∈ R) : rowOf R r.nm = some r := by
  unfold rowOf
  induction R with
  | nil => cases h
  | cons x R ih =>
    rw [List.map_cons, List.nodup_cons] at hn
    rcases List.mem_cons.mp h with rfl | h
    · rw [List.find?_cons_of_pos (by simp)]
    · have : ¬ x.nm = r.nm := fun e => hn.1 (by rw [e]; exact List.mem_map.mpr ⟨r, h, rfl⟩)
      rw [List.find?_cons_of_neg (by simp [this]), ih hn.2 h]
def Tm.trK (R : List Rw) (t : Tm) (ks : List Tm) : Tm := match t with
  | .node c ts => (match rowOf R c with | some r => r.t.fill (r.ps.zip ks) | none => .node c ks)
  | t => t.withKids ks
def Tm.trans (R : List Rw) (t : Tm) : Tm := t.trK R (t.kids.attach.map fun k => k.1.trans R)
termination_by sizeOf t
decreasing_by exact Tm.kid_lt k.2
theorem Tm.trans_eq (R : List Rw) (t : Tm) : t.trans R = t.trK R (t.kids.map (Tm.trans R)) := by
  rw [Tm.trans, List.attach_map_val (f := Tm.trans R)]
def trTab (R : List Rw) (tab : Tab) : Tab := tab.map fun p => (p.1, p.2.trans R)
theorem trTab_zip (R : List Rw) : ∀ (ps : List Str) (ts : List Tm), trTab R (ps.zip ts) = ps.zip (ts.map (Tm.trans R))
  | [], _ => rfl
  | _ :: _, [] => rfl
  | p :: ps, t :: ts => by
    rw [List.zip_cons_cons, List.map_cons, List.zip_cons_cons, ← trTab_zip R ps ts]; rfl
/-! height, parts -/
def Tm.ht (t : Tm) : Nat := 1 + (t.kids.attach.map fun k => k.1.ht).foldr max 0
termination_by sizeOf t
decreasing_by exact Tm.kid_lt k.2
theorem Tm.ht_eq (t : Tm) : t.ht = 1 + (t.kids.map Tm.ht).foldr max 0 := by
  rw [Tm.ht, List.attach_map_val (f := Tm.ht)]
theorem fmax_le {n : Nat} : ∀ {l : List Nat}, (∀ x ∈ l, x ≤ n) → l.foldr max 0 ≤ n
  | [], _ => Nat.zero_le _
  | x :: l, h => by
    have h1 := h x List.mem_cons_self
    have h2 := fmax_le (n := n) (l := l) fun y hy => h y (List.mem_cons_of_mem _ hy)
    rw [List.foldr_cons]
    omega
theorem le_fmax : ∀ {l : List Nat} {x : Nat}, x ∈ l → x ≤ l.foldr max 0
  | y :: l, x, h => by
    rw [List.foldr_cons]
    rcases List.mem_cons.mp h with rfl | h
    · omega
    · have := le_fmax h; omega
theorem Tm.ht_kid {t k : Tm} (h : k ∈ t.kids) : k.ht + 1 ≤ t.ht := by
  have := le_fmax (List.mem_map.mpr ⟨k, h, rfl⟩ : k.ht ∈ t.kids.map Tm.ht)
  rw [Tm.ht_eq t]; omega
theorem Tm.ht_le {t : Tm} {n : Nat} (h : ∀ k ∈ t.kids, k.ht ≤ n) : t.ht ≤ n + 1 := by
  rw [Tm.ht_eq t]
  have := fmax_le (n := n) (l := t.kids.map Tm.ht) fun x hx => by
    obtain ⟨k, hk, rfl⟩ := List.mem_map.mp hx
    exact h k hk
  omega
theorem Tm.ht_pos (t : Tm) : 1 ≤ t.ht := by rw [Tm.ht_eq t]; omega
theorem zip_snd : ∀ {es : List (Str × Tm)} {ks : List Tm}, ks.length = es.length → List.zipWith (fun (e : Str × Tm) (k : Tm) => (Prod.snd ((e.1, k) : Str × Tm))) es ks = ks
  | [], [], _ => rfl
  | [], _ :: _, h => nomatch h
  | _ :: _, [], h => nomatch h
  | e :: es, k :: ks, h => by rw [List.zipWith_cons_cons, zip_snd (Nat.succ.inj h)]
theorem Tm.kids_with {t : Tm} {ks : List Tm} (h : ks.length = t.kids.length) : (t.withKids ks).kids = ks := by
  cases t with
  | node c ts => rfl
  | form c ts => rfl
  | map es =>
    have h : ks.length = es.length := by
      have : (Tm.map es).kids.length = es.length := List.length_map ..
      rw [this] at h; exact h
    show (List.zipWith (fun e k => (e.1, k)) es ks).map Prod.snd = ks
    rw [List.map_zipWith]
    exact zip_snd h
  | int _ => exact (List.length_eq_zero_iff.mp h).symm
  | name _ => exact (List.length_eq_zero_iff.mp h).symm
  | addr _ => exact (List.length_eq_zero_iff.mp h).symm
  | var _ => exact (List.length_eq_zero_iff.mp h).symm
theorem Tm.with_nil {t : Tm} (h : t.kids = []) : t.withKids [] = t := by
  cases t with
  | node c ts => have h : ts = [] := h; rw [h]; rfl
  | form c ts => have h : ts = [] := h; rw [h]; rfl
  | map es =>
    have : es = [] := List.map_eq_nil_iff.mp h
    rw [this]; rfl
  | _ => rfl
theorem Tm.size_pos (t : Tm) : 1 ≤ t.size := by rw [Tm.size_eq t]; omega
/-- a property of all parts -/
inductive Al (p : Tm → Prop) : Tm → Prop
  | mk {t : Tm} : p t → (∀ k ∈ t.kids, Al p k) → Al p t
theorem Al.at_ {p : Tm → Prop} {t : Tm} (h : Al p t) : p t := by cases h; assumption
theorem Al.kid {p : Tm → Prop} {t k : Tm} (h : Al p t) (hk : k ∈ t.kids) : Al p k := by cases h with | mk _ h => exact h k hk
def okN (R : List Rw) (t : Tm) : Prop := t.kids.length ≤ 1000 ∧ ∀ c ts, t = .node c ts → ∃ r ∈ R, r.nm = c ∧ r.ps.length = ts.length
def okT (R : List Rw) : Tm → Prop := Al (okN R)
def okP (ps : List Str) : Tm → Prop := Al fun t => t.kids.length ≤ 1000 ∧ ∀ s, t = .var s → s ∈ ps
structure okR (R : List Rw) : Prop where
  nd : (R.map Rw.nm).Nodup
  len : R.length ≤ 1000
  ar : ∀ r ∈ R, r.ps.length ≤ 1000
  p : ∀ r ∈ R, okP r.ps r.t
  node : ∀ r ∈ R, ∃ c ts, r.t = .node c ts
/-- what waits to be translated -/
structure Itm where
  part : Tm
  b : Option Tab
  dep : Nat
def Itm.f (R : List Rw) (it : Itm) (t : Tm) : Tm := match it.b with
  | none => t.trans R
  | some tab => t.fill (trTab R tab)
def Itm.res (R : List Rw) (it : Itm) : Tm := it.f R it.part
def Itm.ok (R : List Rw) (it : Itm) : Prop := match it.b with
  | none => okT R it.part
  | some tab => okP (tab.map Prod.fst) it.part ∧ (∀ p ∈ tab, okT R p.2)
/-- a metavariable that stands for something -/
def Itm.s1 (it : Itm) : Itm := match it.b, it.part with
  | some tab, .var s => (match lookA tab s with | some t => ⟨t, none, it.dep⟩ | none => it)
  | _, _ => it
theorem Itm.s1_dep (it : Itm) : it.s1.dep = it.dep := by
  unfold Itm.s1
  split
  · split <;> rfl
  · rfl
theorem Itm.s1_res {R : List Rw} (it : Itm) : it.s1.res R = it.res R := by
  obtain ⟨part, b, dep⟩ := it
  unfold Itm.s1
  dsimp only
  split
  · rename_i tab s
    cases e : lookA tab s with
    | none => rfl
    | some t =>
      show t.trans R = (Tm.var s).fill (trTab R tab)
      rw [Tm.fill_eq]
      show _ = (lookA (trTab R tab) s).getD (.var s)
      unfold trTab
      rw [lookA_map, e]; rfl
  · rfl
theorem Itm.s1_ok {R : List Rw} {it : Itm} (h : it.ok R) : it.s1.ok R := by
  obtain ⟨part, b, dep⟩ := it
  unfold Itm.s1
  dsimp only
  split
  · rename_i tab s
    cases e : lookA tab s with
    | none => exact h
    | some t => exact h.2 (s, t) (lookA_mem e)
  · exact h
theorem Itm.s1_var {R : List Rw} {it : Itm} (h : it.ok R) : it.s1.b ≠ none → ∀ s, it.s1.part ≠ .var s := by
  obtain ⟨part, b, dep⟩ := it
  unfold Itm.s1
  dsimp only
  split
  · rename_i tab s
    obtain ⟨t, e⟩ := lookA_has (h.1.at_.2 s rfl)
    rw [e]
    exact fun h => absurd rfl h
  · rename_i hx
    intro hb s e
    dsimp only at hb e
    cases b with
    | none => exact hb rfl
    | some tab => exact hx tab s rfl e
/-- a node of the source -/
def Itm.s2 (R : List Rw) (it : Itm) : Itm := match it.b, it.part with
  | none, .node c ts => (match rowOf R c with | some r => ⟨r.t, some (r.ps.zip ts), it.dep⟩ | none => it)
  | _, _ => it
theorem Itm.s2_dep {R : List Rw} (it : Itm) : (it.s2 R).dep = it.dep := by
  unfold Itm.s2
  split
  · split <;> rfl
  · rfl
theorem Itm.s2_res {R : List Rw} (it : Itm) : (it.s2 R).res R = it.res R := by
  obtain ⟨part, b, dep⟩ := it
  unfold Itm.s2
  dsimp only
  split
  · rename_i c ts
    cases e : rowOf R c with
    | none => rfl
    | some r =>
      show r.t.fill (trTab R (r.ps.zip ts)) = (Tm.node c ts).trans R
      rw [Tm.trans_eq, trTab_zip]
      unfold Tm.trK
      dsimp only
      rw [e]; rfl
  · rfl
theorem Itm.s2_ok {R : List Rw} (O : okR R) {it : Itm} (h : it.ok R) : (it.s2 R).ok R := by
  obtain ⟨part, b, dep⟩ := it
  unfold Itm.s2
  dsimp only
  split
  · rename_i c ts
    obtain ⟨r, hr, rfl, hl⟩ := (show okT R (.node c ts) from h).at_.2 c ts rfl
    rw [rowOf_mem O.nd hr]
    refine ⟨?_, fun p hp => ?_⟩
    · rw [List.map_fst_zip (by omega)]; exact O.p r hr
    · exact (show okT R (.node r.nm ts) from h).kid (List.of_mem_zip hp).2
  · exact h
/-- what both steps lead to -/
structure Itm.can (R : List Rw) (it : Itm) : Prop where
  ok : it.ok R
  v : it.b ≠ none → ∀ s, it.part ≠ .var s
  n : it.b = none → ∀ c ts, it.part ≠ .node c ts
theorem Itm.s2_can {R : List Rw} (O : okR R) {it : Itm} (h : it.ok R) (hv : it.b ≠ none → ∀ s, it.part ≠ .var s) : (it.s2 R).can R := by
  refine ⟨Itm.s2_ok O h, ?_, ?_⟩
  · obtain ⟨part, b, dep⟩ := it
    unfold Itm.s2
    dsimp only
    split
    · rename_i c ts
      obtain ⟨r, hr, rfl, hl⟩ := (show okT R (.node c ts) from h).at_.2 c ts rfl
      rw [rowOf_mem O.nd hr]
      obtain ⟨c', ts', e⟩ := O.node r hr
      intro _ s e2
      rw [show r.t = Tm.var s from e2] at e
      cases e
    · exact hv
  · obtain ⟨part, b, dep⟩ := it
    unfold Itm.s2
    dsimp only
    split
    · rename_i c ts
      obtain ⟨r, hr, rfl, hl⟩ := (show okT R (.node c ts) from h).at_.2 c ts rfl
      rw [rowOf_mem O.nd hr]
      intro e; cases e
    · rename_i hx
      intro hb c ts e
      exact hx c ts hb e
theorem Itm.can_len {R : List Rw} {it : Itm} (h : it.can R) : it.part.kids.length ≤ 1000 := by
  obtain ⟨part, b, dep⟩ := it
  cases b with
  | none => exact (show okT R part from h.ok).at_.1
  | some tab => exact (h.ok.1).at_.1
theorem Itm.can_kid {R : List Rw} {it : Itm} (h : it.can R) {k : Tm} (hk : k ∈ it.part.kids) : (Itm.mk k it.b (it.dep + 1)).ok R := by
  obtain ⟨part, b, dep⟩ := it
  cases b with
  | none => exact (show okT R part from h.ok).kid hk
  | some tab => exact ⟨h.ok.1.kid hk, h.ok.2⟩
theorem Itm.can_res {R : List Rw} {it : Itm} (h : it.can R) : it.res R = it.part.withKids (it.part.kids.map (it.f R)) := by
  obtain ⟨part, b, dep⟩ := it
  cases b with
  | none =>
    show part.trans R = part.withKids (part.kids.map (Tm.trans R))
    rw [Tm.trans_eq]
    cases part with
    | node c ts => exact absurd rfl (h.n rfl c ts)
    | _ => rfl
  | some tab =>
    show part.fill (trTab R tab) = part.withKids (part.kids.map (Tm.fill (trTab R tab)))
    rw [Tm.fill_eq]
    cases part with
    | var s => exact absurd rfl (h.v (by simp) s)
    | _ => rfl
theorem Itm.can_size {R : List Rw} {it : Itm} (h : it.can R) : (it.res R).size = 1 + ((it.part.kids.map (it.f R)).map Tm.size).sum := by
  rw [it.can_res h, Tm.size_eq, Tm.kids_with (by rw [List.length_map])]
theorem Itm.can_ht {R : List Rw} {it : Itm} (h : it.can R) {k : Tm} (hk : k ∈ it.part.kids) : (it.f R k).ht + 1 ≤ (it.res R).ht := by
  refine Tm.ht_kid ?_
  rw [it.can_res h, Tm.kids_with (by rw [List.length_map])]
  exact List.mem_map.mpr ⟨k, hk, rfl⟩
/-- one head more -/
theorem Itm.can_pre {R : List Rw} {it : Itm} (h : it.can R) {rest : List Tm} {hs : List (Tm × Nat)} (p : PreL (it.part.kids.map (it.f R) ++ rest) hs) : PreL (it.res R :: rest) ((it.part, it.part.kids.length) :: hs) := by
  rw [it.can_res h]
  by_cases e : it.part.kids = []
  · rw [e] at p ⊢
    rw [List.map_nil] at p ⊢
    rw [Tm.with_nil e]
    exact .leaf p
  · exact .node p (by rw [List.length_map]) (List.length_pos_iff.mpr e) rfl
def totI (R : List Rw) (its : List Itm) : Nat := (its.map fun i => (i.res R).size).sum
end PK
namespace PK
open PySem L2
/-! children, told in a view that is smaller than the heap -/
section
variable {K : PySem.W.Frag} {It : It} {n : Nat} {G : Hp → Prop} {Y : Nat → Hp → V → Hp → Prop}
/-- a comprehension whose items are data in a view that stands fixed -/
theorem lcV (wk : Walk It n G Y) {g : TG} {te : TE} {vs : List Nat} {σ : L2.St} {H1 Hv : Hp} {D : Addr} {Qd : Hp → Prop} (hD : H1 D = none) (hn : n ≤ 10000000) (ds : List PyData) (hl : ds.length = n) (hG : ∀ H', Same H1 H' → G H')
    (hs : ∀ i x H H' d (R : V → Hp → Prop), ds[i]? = some d → Same H1 H → Y i H x H' → (∀ y H4, Same H H4 → Dt K Hv y d → R y H4) → g x (wipe σ vs) H' fun σ2 H2 => wipe σ2 vs = wipe σ vs ∧ te σ2 H2 R)
    (hd : ∀ H' ws, Same H1 H' → H' D = some (.lst ws) → DtAll K Hv ws ds → Qd H') :
    ∃ W : Nat → Nat → Hp → Prop, (∃ m, W 0 m (upd H1 D (.lst []))) ∧ ∀ i m H, W i m H →
      (It.stop i H ∧ Qd H) ∨ (It.go i H ∧ ∃ Nx : Hp → Prop, (∀ H', Nx H' → ∃ m', m' < m ∧ W (i + 1) m' H') ∧ ∀ x H', It.yld i H x H' → g x (wipe σ vs) H' fun σ2 H2 => wipe σ2 vs = wipe σ vs ∧ tYes σ2 H2 fun b H3 =>
        if b = true then te σ2 H3 fun y H4 => ∃ acc, H4 D = some (.lst acc) ∧ acc.length < sizeLine ∧ Nx (upd H4 D (.lst (acc ++ [y]))) else Nx H3) := by
  refine lc_it wk (fun i H' => i ≤ n ∧ ∃ ws : List V, Same H1 H' ∧ H' D = some (.lst ws) ∧ DtAll K Hv ws (ds.take i)) ⟨Nat.zero_le _, [], same_new hD, upd_same, .nil⟩ (fun i H' _ h => ?_) (fun i x H H' hi h y => ?_) (fun H' h => ?_)
  · obtain ⟨_, _, s, _⟩ := h
    exact hG _ s
  · obtain ⟨_, ws, s, hw, da⟩ := h
    have hid : ds[i]? = some ds[i] := List.getElem?_eq_getElem (by omega)
    refine hs i x H H' ds[i] _ hid s y fun z H4 s4 dz => ?_
    have hw4 := s4 _ _ hw
    have lw : ws.length = i := by rw [da.lenD, List.length_take]; omega
    refine ⟨ws, hw4, smallL (by omega), hi, ws ++ [z], Same.upd (s.trans s4) hD, upd_same, ?_⟩
    rw [List.take_add_one, hid]
    exact da.append (.cons dz .nil)
  · obtain ⟨_, ws, s, hw, da⟩ := h
    rw [List.take_of_length_le (by omega)] at da
    exact hd _ ws s hw da
end
def spKidsV (K : PySem.W.Frag) : Sp := fun vs H Q _ => ∃ (v : V) (t : Tm) (Hv : Hp), vs = [v] ∧ (∀ a xs, SqT K Hv a xs → SqT K H a xs) ∧ Dt K Hv v t.d ∧ t.kids.length ≤ 10000000 ∧
  ∀ (H' : Hp) (p : Addr) (ws : List V), Same H H' → SqT K H' p ws → DtAll K Hv ws (t.kids.map Tm.d) → Q (.ref p) H'
section
variable {P : Program} {w : World} {K : PySem.W.Frag} {mg : Str → Option Value} {base : Heap} {aF : Addr}
theorem ok_kidsV {f : Addr} {fd : FuncData} (F : Fun K "children" "children" s_children f fd) (T : TxtT K mg aF) : FnOk P w K mg base CX0 1 f fd ["term"] (spKidsV K) := by
  refine F.ok sc_children (fun vs H Q E h => ?_) (fun cdv A outer s H vs Q E hr h => ?_)
  · obtain ⟨v, t, _, rfl, _⟩ := h
    rfl
  obtain ⟨v, t, Hv, rfl, up, hv, hn, q⟩ := h
  refine ⟨_, (pss_cons (ps_if (pt_cmpR op_eq (pe_ix ix_tup (pv 0) pe_int (fun _ _ => rfl)) pe_str (nomark _)) (pss_one (ps_ret (pe_ix ix_tup (pv 0) pe_int (fun _ _ => rfl)))) pss_nil)
    (pss_cons (ps_if (pt_cmpR op_eq (pe_ix ix_tup (pv 0) pe_int (fun _ _ => rfl)) pe_str (nomark _)) (pss_one (ps_ret (pe_callTy call_tuple_of (by rfl) T.z_tuple (by decide +kernel) (pa_cons (pe_lc (own := [("_", 1), ("entry", 2)]) (g := (gTup K 2 (gCons (gName 1) (gCons (gName 2) gNil)))) (tt := tYes) (by rfl) sc_children.nd (pi_tup (pe_ix ix_tup (pv 0) pe_int (fun _ _ => rfl))) (blkOk_by (N := ["term", "_", "entry"]) (sc := defScope s_children) (by decide +kernel)) (fun _ _ _ _ _ => (pg_tup (by rfl) (pgs_cons (pg_name (i := 1) sc_children.nd rfl (Or.inl rfl)) (pgs_cons (pg_name (i := 2) sc_children.nd rfl (Or.inl rfl)) pgs_nil)))) (fun _ _ _ _ _ => pts_nil) (fun _ _ _ _ _ => (pv 2))) pa_nil)))) pss_nil)
    (pss_cons (ps_if (pt_cmpR op_in_seq (pe_ix ix_tup (pv 0) pe_int (fun _ _ => rfl)) (pe_glob (v := .ref aF) rfl T.g_FO rfl) rfl) (pss_one (ps_ret (pe_slice sl_tup (pv 0) (po_some pe_int) po_none))) pss_nil)
    (pss_one (ps_ret (pe_tup pa_nil)))))), ?_⟩
  cases t with
  | node c ts =>
    unfold Tm.d at hv
    obtain ⟨a, x, y, z, rfl, hs, h1, h2, h3⟩ := Dt.t3 hv
    obtain rfl := h1.s
    obtain ⟨b, ys, rfl, hb, hys⟩ := Dt.tn h3
    refine vTx rfl (up _ _ hs) rfl ⟨rfl, _, rfl, sT rfl (vTx rfl (up _ _ hs) rfl ?_)⟩
    exact q H b ys (Same.refl H) (up _ _ hb) (by rw [Tm.ds_map] at hys; exact hys)
  | map es =>
    unfold Tm.d at hv
    obtain ⟨a, x, y, rfl, hs, h1, h2⟩ := Dt.t2 hv
    obtain rfl := h1.s
    obtain ⟨b, ys, rfl, hb, hys⟩ := Dt.tn h2
    rw [Tm.es_map] at hys
    have ly : ys.length = es.length := by rw [hys.lenD, List.length_map]
    have hn' : es.length ≤ 10000000 := by rw [show (Tm.map es).kids = es.map Prod.snd from rfl, List.length_map] at hn; exact hn
    refine vTx rfl (up _ _ hs) rfl ⟨rfl, _, rfl, sF (by decide +kernel) (vTx rfl (up _ _ hs) rfl ⟨rfl, _, rfl, sT rfl ?_⟩)⟩
    refine vTx rfl (up _ _ hs) rfl ⟨b, rfl, ⟨_, up _ _ hb⟩, fun D hD => lcV (K := K) (Hv := Hv) (walk_tup (xs := ys)) hD (by omega) (es.map fun e => e.2.d) (by rw [List.length_map, ly]) (fun H' s => Same.seqT s (up _ _ hb)) ?_ ?_⟩
    · rintro i x H1 H2 d R hi s ⟨rfl, gx⟩ r
      obtain ⟨e, ge, dx⟩ := DtAll.getX hys gx
      rw [List.getElem?_map] at ge hi
      cases e0 : es[i]? with
      | none => rw [e0] at ge; cases ge
      | some en =>
        rw [e0] at ge hi
        cases ge
        cases hi
        obtain ⟨a1, x1, y1, rfl, hs1, k1, k2⟩ := Dt.t2 dx
        exact ⟨a1, _, rfl, Same.seqT s (up _ _ hs1), rfl, _, _, rfl, _, _, rfl, rfl, rfl, _, rfl, r y1 _ (Same.refl _) k2⟩
    · rintro H' ws s hw da
      refine ⟨D, _, rfl, .inl ⟨SqL.of hw, fun p hp => ?_⟩⟩
      refine q _ p ws (Same.upd s ((Same.refl H).trans s |>.free hp)) (SqT.of upd_same) ?_
      rw [show (Tm.map es).kids.map Tm.d = es.map fun e => e.2.d from by unfold Tm.kids; rw [List.map_map]; rfl]
      exact da
  | form g ts =>
    unfold Tm.d at hv
    obtain ⟨a, xs, rfl, hs, da⟩ := Dt.tn hv
    cases da with
    | cons h1 dr =>
    obtain rfl := h1.s
    rename_i vs1
    have hs := up _ _ hs
    refine vTx rfl hs (atI_nat (j := 0) rfl) ⟨rfl, _, rfl, sF g.ne_node (vTx rfl hs (atI_nat (j := 0) rfl) ⟨rfl, _, rfl, sF g.ne_map (vTx (v := .str g.s) rfl hs (atI_nat (j := 0) rfl) ⟨aF, _, rfl, .inr (T.forms H), rfl, rfl, _, rfl, ?_⟩)⟩)⟩
    rw [if_neg Bool.false_ne_true, g.inF]
    refine iteT ⟨_, rfl, _, rfl, a, _, rfl, hs, fun z => ?_, fun p hp => ?_⟩
    · have e := z.1
      revert e
      show (HT.sIx (vs1.length + 1) 0 (some 1) = 0) → False
      unfold HT.sIx
      intro e
      simp at e
    · have ec : cutV (V.str g.s :: vs1) (some 1) none = vs1 := by
        unfold cutV HT.sIx
        simp
      rw [ec]
      refine q _ p vs1 (same_new hp) (SqT.of upd_same) ?_
      rw [Tm.ds_map] at dr
      exact dr
  | int n =>
    unfold Tm.d at hv
    obtain ⟨a, x, y, rfl, hs, h1, h2⟩ := Dt.t2 hv
    obtain rfl := h1.s
    refine vTx rfl (up _ _ hs) rfl ⟨rfl, _, rfl, sF (by decide +kernel) (vTx rfl (up _ _ hs) rfl ⟨rfl, _, rfl, sF (by decide +kernel) (vTx (v := .str "int") rfl (up _ _ hs) rfl ⟨aF, _, rfl, .inr (T.forms H), rfl, rfl, _, rfl, ?_⟩)⟩)⟩
    rw [if_neg Bool.false_ne_true, show inV (.str "int") [V.str "get", V.str "set", V.str "plus", V.str "minus"] = false by decide +kernel]
    exact iteF ⟨Nat.zero_le _, fun p hp => q _ p [] (same_new hp) (SqT.of upd_same) .nil⟩
  | name n =>
    unfold Tm.d at hv
    obtain ⟨a, x, y, rfl, hs, h1, h2⟩ := Dt.t2 hv
    obtain rfl := h1.s
    refine vTx rfl (up _ _ hs) rfl ⟨rfl, _, rfl, sF (by decide +kernel) (vTx rfl (up _ _ hs) rfl ⟨rfl, _, rfl, sF (by decide +kernel) (vTx (v := .str "name") rfl (up _ _ hs) rfl ⟨aF, _, rfl, .inr (T.forms H), rfl, rfl, _, rfl, ?_⟩)⟩)⟩
    rw [if_neg Bool.false_ne_true, show inV (.str "name") [V.str "get", V.str "set", V.str "plus", V.str "minus"] = false by decide +kernel]
    exact iteF ⟨Nat.zero_le _, fun p hp => q _ p [] (same_new hp) (SqT.of upd_same) .nil⟩
  | addr n =>
    unfold Tm.d at hv
    obtain ⟨a, x, y, rfl, hs, h1, h2⟩ := Dt.t2 hv
    obtain rfl := h1.s
    refine vTx rfl (up _ _ hs) rfl ⟨rfl, _, rfl, sF (by decide +kernel) (vTx rfl (up _ _ hs) rfl ⟨rfl, _, rfl, sF (by decide +kernel) (vTx (v := .str "addr") rfl (up _ _ hs) rfl ⟨aF, _, rfl, .inr (T.forms H), rfl, rfl, _, rfl, ?_⟩)⟩)⟩
    rw [if_neg Bool.false_ne_true, show inV (.str "addr") [V.str "get", V.str "set", V.str "plus", V.str "minus"] = false by decide +kernel]
    exact iteF ⟨Nat.zero_le _, fun p hp => q _ p [] (same_new hp) (SqT.of upd_same) .nil⟩
  | var n =>
    unfold Tm.d at hv
    obtain ⟨a, x, y, rfl, hs, h1, h2⟩ := Dt.t2 hv
    obtain rfl := h1.s
    refine vTx rfl (up _ _ hs) rfl ⟨rfl, _, rfl, sF (by decide +kernel) (vTx rfl (up _ _ hs) rfl ⟨rfl, _, rfl, sF (by decide +kernel) (vTx (v := .str "meta") rfl (up _ _ hs) rfl ⟨aF, _, rfl, .inr (T.forms H), rfl, rfl, _, rfl, ?_⟩)⟩)⟩
    rw [if_neg Bool.false_ne_true, show inV (.str "meta") [V.str "get", V.str "set", V.str "plus", V.str "minus"] = false by decide +kernel]
    exact iteF ⟨Nat.zero_le _, fun p hp => q _ p [] (same_new hp) (SqT.of upd_same) .nil⟩
theorem kids_of {n : Nat} (C : C8.Cal P w K mg base n "children" (spKidsV K) []) : C8.Cal P w K mg base n "children" (spKids K) [] := by
  obtain ⟨f, fd, ps, ds, F, r⟩ := C
  refine ⟨f, fd, ps, ds, F.imp fun vs H Q E h => ?_, r⟩
  obtain ⟨v, t, e, hv, hl, q⟩ := h
  exact ⟨v, t, H, e, fun _ _ z => z, hv, hl, fun H' p ws s hs da => q H' p ws s hs (da.same s)⟩
end
end PK
namespace PK
open PySem L2 GenF GenW PyProof.Rows
/-! parts_of: a generator -/
def Tm.parts (t : Tm) : List Tm := t :: (t.kids.attach.map fun k => k.1.parts).flatten
termination_by sizeOf t
decreasing_by exact Tm.kid_lt k.2
theorem Tm.parts_eq (t : Tm) : t.parts = t :: (t.kids.map Tm.parts).flatten := by
  rw [Tm.parts, List.attach_map_val (f := Tm.parts)]
theorem Tm.parts_len (t : Tm) : t.parts.length = t.size := by
  induction t using Tm.ind with
  | h t ih =>
    rw [Tm.parts_eq, Tm.size_eq, List.length_cons, List.length_flatten, List.map_map, Nat.add_comm]
    congr 1
    exact congrArg List.sum (List.map_congr_left ih)
/-- what is still to come of a stack, its end first -/
def todo (ts : List Tm) : List Tm := (ts.reverse.map Tm.parts).flatten
theorem DtAll.reverse {K : PySem.W.Frag} {H : Hp} : ∀ {xs : List V} {ds : List PyData}, DtAll K H xs ds → DtAll K H xs.reverse ds.reverse
  | _, _, .nil => .nil
  | _, _, .cons h t => by rw [List.reverse_cons, List.reverse_cons]; exact (DtAll.reverse t).append (.cons h .nil)
theorem todo_nil : todo [] = [] := rfl
theorem todo_snoc (ts : List Tm) (t : Tm) : todo (ts ++ [t]) = t :: todo (ts ++ t.kids.reverse) := by
  unfold todo
  rw [List.reverse_append, List.reverse_append, List.map_append, List.map_append, List.flatten_append, List.flatten_append, List.reverse_reverse]
  show (Tm.parts t :: []).flatten ++ _ = _
  rw [show (Tm.parts t :: []).flatten = t.parts from by simp, Tm.parts_eq]
  rfl
theorem todo_one (t : Tm) : todo [t] = t.parts := by simp [todo]
theorem todo_kids {ts : List Tm} {t : Tm} : (ts ++ t.kids.reverse).length ≤ (todo (ts ++ t.kids.reverse)).length := by
  unfold todo
  rw [List.length_flatten, List.map_map, ← List.length_reverse (as := ts ++ t.kids.reverse)]
  generalize (ts ++ t.kids.reverse).reverse = l
  induction l with
  | nil => exact Nat.le_refl _
  | cons a r ih =>
    have : 1 ≤ a.parts.length := by rw [Tm.parts_eq, List.length_cons]; omega
    rw [List.map_cons, List.sum_cons, List.length_cons]
    show _ ≤ a.parts.length + _
    omega
/-- the parts of a term, read in the tuples of the heap at the call -/
def itParts (K : PySem.W.Frag) (H : Hp) (ts : List Tm) : Nat → V → Prop := fun i x => ∃ t, ts[i]? = some t ∧ Dt K (tupsOf H) x t.d
def spParts (K : PySem.W.Frag) : SpI := fun vs H n it => ∃ (v : V) (t : Tm), vs = [v] ∧ Dt K H v t.d ∧ t.size ≤ 1000000 ∧ n = t.size ∧ it = itParts K H t.parts
theorem sq_tups {K : PySem.W.Frag} {H : Hp} {a : Addr} {xs : List V} (s : SqT K H a xs) : SqT K (tupsOf H) a xs := by
  rcases s with s | s
  · exact .inl (.inl (tupsOf_rd s))
  · exact .inr s
section
variable {P : Program} {w : World} {K : PySem.W.Frag} {mg : Str → Option Value} {base : Heap} {aF : Addr}
abbrev s_parts_of : Stmt := topS 4
abbrev stP (i : Nat) : Stmt := (defBody s_parts_of).getD i (.Pass ⟨0, 0, 0, 0⟩)
def whTest : Stmt → Expr
  | .While t _ _ _ => t
  | _ => .Constant .none 0 ⟨0, 0, 0, 0⟩
def whBody : Stmt → List Stmt
  | .While _ b _ _ => b
  | _ => []
abbrev stW (i : Nat) : Stmt := (whBody (stP 1)).getD i (.Pass ⟨0, 0, 0, 0⟩)
def yieldE : Stmt → Expr
  | .Expr (.Yield (some e) _) _ => e
  | _ => .Constant .none 0 ⟨0, 0, 0, 0⟩
theorem lk_none {sc : Scope} (h : sc.names.all (fun y => !decide (y.2 = .cell) && !decide (y.2 = .free)) = true) (x : Str) : sc.names.lookup x ≠ some .cell ∧ sc.names.lookup x ≠ some .free := by
  refine ⟨fun e => ?_, fun e => ?_⟩ <;>
  · have := List.all_eq_true.mp h _ (PySem.mem_of_lookup e)
    simp at this
theorem nc_parts : NoCells (defScope s_parts_of) := ⟨rfl, rfl, rfl, fun _ => rfl, lk_none (by decide +kernel)⟩
abbrev eP (G : Gs) (f : Addr) (cd : Value) : Env := envOfC "parts_of" (defScope s_parts_of) G.F f cd
abbrev cP (G : Gs) (mg : Str → Option Value) (f : Addr) (cd : Value) (Hw : Hp) (sn : Shared) : Cx := cxG G mg ["term", "waiting", "part"] "parts_of" (defScope s_parts_of) f cd Hw sn
abbrev codeP (G : Gs) (f : Addr) (cd : Value) : Code := .whileLoop (whTest (stP 1)) (whBody (stP 1)) [] (eP G f cd)
theorem seqT_updL {H : Hp} {D a : Addr} {vs ws zs : List V} (h : SqT K H a zs) (hD : H D = some (.lst vs)) : SqT K (upd H D (.lst ws)) a zs := seqT_upd h hD
theorem seg_loop {G : Gs} {f : Addr} {cd : Value} (S : GStat G mg) (hx : G.x = "waiting") (C_children : C8.Cal G.P G.w G.K mg G.base 1 "children" (spKidsV G.K) []) (hr : Room 1 (G.A.in1.deeper (eP G f cd)))
    {body : List Stmt} {kk : Result → Sem PySem.Fin} {l kp : List Value} {p : Pos} (hend : ∀ sn s : Shared, Stp G sn s → Seg G.M G.A.in1 (GRe G) (GYp G) 0 sn (.func body (eP G f cd)) (kk (.ok .next)) [] s) :
    ∀ (n : Nat) (sn : Shared) (own : List (Addr × Obj)) (Hw : Hp) (Wa : Addr) (ws : List V) (ts : List Tm) (s : Shared) (H : Hp) (v pt : Option V), Wk G own sn → (G.a, G.go) ∈ own → (∀ b, b < G.F → Hw b = Hw0 G sn b) → Hw G.F = none → (∀ b, ¬ OwnF G.x sn.heap G.F b → Hw b = Hw0 G sn b) →
      (∀ b, OwnF G.x sn.heap G.F b → b ≠ G.F → b = Wa) → (OwnF G.x sn.heap G.F Wa ∨ sn.heap.objs.size ≤ Wa) → G.F < Wa → Wa ≠ G.a → Inv (cP G mg f cd Hw sn) [] [v, some (.ref Wa), pt] H s → H Wa = some (.lst ws) → (∀ a xs, SqT G.K (tupsOf G.H1) a xs → SqT G.K H a xs) →
      DtAll G.K (tupsOf G.H1) ws (ts.map Tm.d) → n = (todo ts).length → n ≤ 1000000 → ts.length ≤ n → n ≤ G.n → (∀ j t x, (todo ts)[j]? = some t → Dt G.K (tupsOf G.H1) x t.d → G.it (G.n - n + j) x) →
      Seg G.M G.A.in1 (GRe G) (GYp G) n sn (codeP G f cd) (G.M.den (codeP G f cd)) [.ret kk none false l (.func body (eP G f cd)) p kp] s := by
  have stpO : ∀ {sn : Shared} {own : List (Addr × Obj)} {Hw : Hp} {Wa : Addr} {s : Shared} {H : Hp} {σ : L2.St} {ws : List V}, Wk G own sn → (∀ b, b < G.F → Hw b = Hw0 G sn b) → (∀ b, ¬ OwnF G.x sn.heap G.F b → Hw b = Hw0 G sn b) → (∀ b, OwnF G.x sn.heap G.F b → b ≠ G.F → b = Wa) →
      Inv (cP G mg f cd Hw sn) [] σ H s → H Wa = some (.lst ws) → Stp G sn s := fun {sn own Hw Wa s H σ ws} W lo hno hown I hl => stp_of S W I hno lo fun b hb hne => by
    rw [hown b hb hne]
    obtain ⟨_, _, _, _, e⟩ := I.hok Wa _ hl
    exact ⟨_, e⟩
  have pt1 : ∀ (Hw : Hp) (sn : Shared), PT (cP G mg f cd Hw sn) (whTest (stP 1)) _ := fun Hw sn => pt_truth (pv 1) (by intro _; rfl)
  have ps1 : ∀ (Hw : Hp) (sn : Shared), PS (cP G mg f cd Hw sn) (stW 0) _ := fun Hw sn => ps_set (i := 2) (by show (["term", "waiting", "part"] : List Str).Nodup; decide +kernel) rfl (.inl rfl) (pe_bm0 PySem.F.plainAttrs_list PySem.F.slot_list_pop PySem.F.type_list_pop mt_pop (pv 1))
  have pe2 : ∀ (Hw : Hp) (sn : Shared), PE (cP G mg f cd Hw sn) (yieldE (stW 1)) _ := fun Hw sn => pv 2
  have ps3 : ∀ (Hw : Hp) (sn : Shared), PS (cP G mg f cd Hw sn) (stW 2) _ := fun Hw sn => ps_expr (pe_bm PySem.F.plainAttrs_list PySem.F.slot_list_extend PySem.F.type_list_extend PKZ.mt_extendT (pv 1) (pa_cons (PKZ.pe_revT (C8.pe_c C_children hr (Nat.le_refl 1) rfl (pa_cons (pv 2) pa_nil))) pa_nil))
  intro n
  induction n with
  | zero =>
    intro sn own Hw Wa ws ts s H v pt W ago lo hF hno hown hnew hlt hWa I hl up da en n6 nt nG items
    have hts : ts = [] := List.length_eq_zero_iff.mp (by omega)
    subst hts
    have hws : ws = [] := by cases da; rfl
    subst hws
    refine seg_whileLoop ?_
    rw [over_loop rfl rfl, over_func]
    refine wpAny_mono ((pt1 Hw sn).run [] s _ H (fun b H' => b = false ∧ H' = H) I ⟨_, rfl, false, .inl ⟨[], SqL.of hl, rfl⟩, rfl, rfl⟩) (fun b s' ⟨H', I', hb, eH⟩ => ?_) fun _ _ z => False.elim z
    subst hb eH
    rw [if_neg Bool.false_ne_true]
    exact seg_execs_nil (seg_leaf (.ok .next) (hend sn s' (stpO W lo hno hown I' hl)))
  | succ m ih =>
    intro sn own Hw Wa ws ts s H v pt W ago lo hF hno hown hnew hlt hWa I hl up da en n6 nt nG items
    have tne : ts ≠ [] := fun e => by rw [e] at en; cases en
    obtain ⟨tr, t, rfl⟩ : ∃ tr t, ts = tr ++ [t] := ⟨ts.dropLast, ts.getLast tne, (List.dropLast_concat_getLast tne).symm⟩
    rw [List.map_append] at da
    obtain ⟨wr, wl, rfl, dr, dl⟩ := DtAll.splitR da
    obtain ⟨x, rfl, dx⟩ : ∃ x, wl = [x] ∧ Dt G.K (tupsOf G.H1) x t.d := by
      cases dl with
      | cons h r => cases r; exact ⟨_, rfl, h⟩
    rw [todo_snoc] at en items
    have en' : m = (todo (tr ++ t.kids.reverse)).length := by rw [List.length_cons] at en; omega
    refine seg_whileLoop ?_
    rw [over_loop rfl rfl, over_func]
    refine wpAny_mono ((pt1 Hw sn).run [] s _ H (fun b H' => b = true ∧ H' = H) I ⟨_, rfl, true, .inl ⟨_, SqL.of hl, by simp⟩, rfl, rfl⟩) (fun b s' ⟨H', I', hb, eH⟩ => ?_) fun _ _ z => False.elim z
    subst hb eH
    rw [if_pos rfl]
    -- part = waiting.pop()
    refine seg_execs_cons (st := stW 0) (rest := [stW 1, stW 2]) (seg_wrap ?_)
    rw [over_loop rfl rfl, over_func]
    refine wpAny_mono ((ps1 Hw sn).run [] s' _ H' { nx := fun σ H2 => σ = [v, some (.ref Wa), some x] ∧ H2 = upd H' Wa (.lst wr), rt := fun _ _ => False } I' ?_) (fun fl s2 h2 => ?_) fun _ _ z => False.elim z
    · refine ⟨_, rfl, .inl ⟨rfl, _, SqL.of hl⟩, Wa, _, x, rfl, rfl, hl, by simp, ?_⟩
      rw [List.dropLast_concat]
      exact ⟨rfl, rfl⟩
    cases fl with
    | ret _ => obtain ⟨_, _, _, _, _, z⟩ := h2; exact z.elim
    | brk => obtain ⟨_, _, _, z⟩ := h2; exact z.elim
    | cont => obtain ⟨_, _, _, z⟩ := h2; exact z.elim
    | next =>
    obtain ⟨σ2, H2, I2, rfl, rfl⟩ := h2
    -- yield part
    refine seg_execs_cons (st := stW 1) (rest := [stW 2]) (seg_Expr_Yield rfl rfl rfl ?_)
    rw [over_loop rfl rfl, over_func]
    refine wpAny_mono ((pe2 Hw sn).run [] s2 _ (upd H' Wa (.lst wr)) (fun y H3 => y = x ∧ H3 = upd H' Wa (.lst wr)) I2 ⟨_, rfl, rfl, rfl⟩) (fun u s3 ⟨y, H3, I3, ru, ey, e3⟩ kap hkap => ?_) fun _ _ z => False.elim z
    subst ey e3
    have hl3 : upd H' Wa (.lst wr) Wa = some (.lst wr) := upd_same
    have I3' : Inv (cP G mg f cd Hw sn) [] [v, some (.ref Wa), some y] (upd H' Wa (.lst wr)) s3 := I3
    have stp : Stp G sn s3 := stpO W lo hno hown I3' hl3
    obtain ⟨mp, hN, hlook⟩ := id I3.loc
    have hN : s3.heap.Ns G.F mp := hN
    have nc : ∀ {z c} {q : Prop}, (eP G f cd).cells.lookup z = some c → q := fun {z c q} e => by
      have e' : (cellsFrom (G.F + 1) (defScope s_parts_of).names []).lookup z = some c := e
      rw [nc_parts.cells] at e'
      cases e'
    have lw : mp "waiting" = some (.ref Wa) := by
      obtain ⟨u', r', l'⟩ := hlook 1 "waiting" (.ref Wa) rfl rfl (.inl rfl)
      rcases l' with ⟨_, e⟩ | ⟨_, c, e, _⟩
      · rw [e]; cases r'; rfl
      · exact nc e
    have lp : ∃ u', RelV y u' ∧ mp "part" = some u' := by
      obtain ⟨u', r', l'⟩ := hlook 2 "part" y rfl rfl (.inl rfl)
      rcases l' with ⟨_, e⟩ | ⟨_, c, e, _⟩
      · exact ⟨u', r', e⟩
      · exact nc e
    obtain ⟨fo, fes, fep, hfo, hfd, hfr⟩ := id hN
    obtain ⟨zw, its, cw, rw, eW⟩ := I3.hok Wa _ hl3
    have ego : s3.heap.get? G.a = some G.go := stp.keep G.a G.go (W.own _ ago) (fun z => by
      by_cases q : G.a = G.F
      · exact absurd q (Nat.ne_of_gt S.Fa)
      · exact hWa (hown _ z q).symm) fun z => Nat.lt_asymm (S.stk _ z).1 S.Fa
    have own3 : ∀ (h : Heap) (b : Addr), h.get? G.F = some fo → OwnF "waiting" h G.F b → b = G.F ∨ b = Wa := fun h b e q => by
      rcases q with q | ⟨m2, hm2, q⟩
      · exact .inl q
      · have h1 : h.Ns G.F mp := ⟨fo, fes, fep, e, hfd, hfr⟩
        have := h1.agree hm2 "waiting"
        rw [lw, q] at this
        cases this
        exact .inr rfl
    have wne : Wa ≠ G.F := Nat.ne_of_gt hlt
    refine ⟨y, [(G.a, G.go), (G.F, fo), (Wa, { cls := .type "list", data := .seq its.toArray cw })], nG, ?_, ru, stp, ⟨fun q hq => ?_, fun q hq => ?_, fun b hb => ?_, List.mem_cons_self⟩, fun sn' W' => ?_⟩
    · exact items 0 t y rfl dx
    · rcases List.mem_cons.mp hq with z | z
      · rw [z]; exact ⟨ego, S.goc⟩
      · rcases List.mem_cons.mp z with z | z
        · rw [z]; exact ⟨hfo, fun v q => by rw [hfd] at q; cases q⟩
        · rw [List.mem_singleton.mp z]; exact ⟨eW, fun v q => by cases q⟩
    · rcases List.mem_cons.mp hq with z | z
      · rw [z]; exact .inr (.inr rfl)
      · rcases List.mem_cons.mp z with z | z
        · rw [z]; exact .inl (.inl rfl)
        · rw [List.mem_singleton.mp z]
          rcases hnew with z | z
          · exact .inl z
          · exact .inr (.inl z)
    · rw [hx] at hb
      rcases own3 _ b hfo hb with z | z
      · rw [z]; exact List.mem_cons_of_mem _ List.mem_cons_self
      · rw [z]; exact List.mem_cons_of_mem _ (List.mem_cons_of_mem _ List.mem_cons_self)
    have eF' : sn'.heap.get? G.F = some fo := W'.own (G.F, fo) (List.mem_cons_of_mem _ List.mem_cons_self)
    have eW' : sn'.heap.get? Wa = some { cls := .type "list", data := .seq its.toArray cw } := W'.own (Wa, _) (List.mem_cons_of_mem _ (List.mem_cons_of_mem _ List.mem_cons_self))
    have ownW : OwnF G.x sn'.heap G.F Wa := .inr ⟨mp, ⟨fo, fes, fep, eF', hfd, hfr⟩, by rw [hx]; exact lw⟩
    have hn0 : ∀ c u, Hw0 G sn' c = some u → (∀ o q, u ≠ .frz o q) → False := fun c u e n => by
      by_cases l1 : c < G.F
      · obtain ⟨xs, o, rfl, _⟩ := Hw0_lt l1 e
        exact n _ _ rfl
      · by_cases l2 : c = G.F
        · rw [l2, Hw0_F] at e; cases e
        · have gt : G.F < c := Nat.lt_of_le_of_ne (Nat.le_of_not_lt l1) (Ne.symm l2)
          cases q : sn'.heap.get? c with
          | none => rw [Hw0_upn gt q] at e; cases e
          | some o => rw [Hw0_up gt q] at e; cases e; exact n _ _ rfl
    have ok' : HOk G.P G.w (upd (Hw0 G sn') Wa (.lst wr)) sn'.heap := fun b u e => by
      by_cases hb : b = Wa
      · subst hb
        rw [upd_same] at e
        cases e
        exact ⟨zw, its, cw, rw, eW'⟩
      · rw [upd_ne hb] at e
        exact (Hw0_ok W' b u e).stay (fun _ _ _ z => z) (fun c z => (hn0 c _ z fun _ _ => HO.noConfusion).elim) fun c xs z => (hn0 c _ z fun _ _ => HO.noConfusion).elim
    have I4 : Inv (cP G mg f cd (upd (Hw0 G sn') Wa (.lst wr)) sn') [] [none, some (.ref Wa), some y] (upd (Hw0 G sn') Wa (.lst wr)) sn' := by
      refine inv_wake S nc_parts W' (fun b hb => upd_ne (fun z => by rw [z] at hb; exact Nat.lt_asymm hb hlt)) (by rw [upd_ne wne.symm]; exact Hw0_F) ok' (m := mp) ⟨fo, fes, fep, eF', hfd, hfr⟩ rfl fun i z q h1 h2 => ?_
      match i, h1, h2 with
      | 0, h1, h2 => cases h2
      | 1, h1, h2 => cases h1; cases h2; exact ⟨_, rfl, lw, rfl⟩
      | 2, h1, h2 =>
        cases h1
        cases h2
        obtain ⟨u', r', e'⟩ := lp
        exact ⟨u', r', e', rfl⟩
    have up4 : ∀ a xs, SqT G.K (tupsOf G.H1) a xs → SqT G.K (upd (Hw0 G sn') Wa (.lst wr)) a xs := fun a xs z => by
      rcases Hw0_sq S W' a xs z with (z | ⟨o, z⟩) | z
      · exact (hn0 _ _ z fun _ _ => HO.noConfusion).elim
      · refine .inl (.inr ⟨o, ?_⟩)
        rw [upd_ne]
        · exact z
        · intro e
          rw [e, Hw0_up hlt eW'] at z
          cases z
      · exact .inr z
    have go : Seg G.M G.A.in1 (GRe G) (GYp G) m sn' (codeP G f cd) ((execs [stW 2] (eP G f cd)).wrap (fun f_1 => match f_1 with
            | .next | .cont => .pure (.again (codeP G f cd))
            | .brk => .pure (.done .next)
            | .ret v => .pure (.done (.ret v))) (fun e => (do noteFrame e (eP G f cd); theTreesLotGoes e : Sem Unit).wrap (fun _ => .raise e) .raise id id) id id) [.ret kk none false l (.func body (eP G f cd)) p kp] sn' := by
      refine seg_execs_cons (st := stW 2) (rest := []) (seg_wrap ?_)
      rw [over_loop rfl rfl, over_func]
      refine wpAny_mono ((ps3 (upd (Hw0 G sn') Wa (.lst wr)) sn').run [] sn' _ (upd (Hw0 G sn') Wa (.lst wr)) { nx := fun σ H5 => σ = [none, some (.ref Wa), some y] ∧ ∃ kv, DtAll G.K (tupsOf G.H1) kv (t.kids.map Tm.d) ∧ H5 Wa = some (.lst (wr ++ kv.reverse)) ∧ ∀ a xs, SqT G.K (tupsOf G.H1) a xs → SqT G.K H5 a xs, rt := fun _ _ => False } I4 ?_) (fun fl s5 h5 => ?_) fun _ _ z => False.elim z
      · have lk : t.kids.length ≤ m := by
          have := todo_kids (ts := tr) (t := t)
          rw [List.length_append, List.length_reverse] at this
          omega
        refine ⟨_, rfl, .inl ⟨rfl, _, SqL.of upd_same⟩, _, rfl, y, t, tupsOf G.H1, rfl, up4, dx, by omega, fun H5 p5 kv s5 hs5 dk => ⟨p5, kv, rfl, hs5, fun q5 hq5 => ?_⟩⟩
        have hW5 : H5 Wa = some (.lst wr) := s5 _ _ upd_same
        have hW6 : upd H5 q5 (.tup kv.reverse) Wa = some (.lst wr) := by rw [upd_ne (ne_of_none hW5 hq5)]; exact hW5
        refine ⟨Wa, q5, wr, kv.reverse, rfl, rfl, hW6, SqT.of upd_same, ?_, rfl, kv, dk, upd_same, fun a xs z => ?_⟩
        · have l1 := dr.lenD
          have l2 := dk.lenD
          have := todo_kids (ts := tr) (t := t)
          rw [List.length_append, List.length_reverse] at this
          rw [List.length_map] at l1 l2
          rw [List.length_reverse]
          have := sizeLine_eq
          omega
        · exact seqT_upd (Same.seqT (s5.trans (same_new hq5)) (up4 a xs z)) hW6
      cases fl with
      | ret _ => obtain ⟨_, _, _, _, _, z⟩ := h5; exact z.elim
      | brk => obtain ⟨_, _, _, z⟩ := h5; exact z.elim
      | cont => obtain ⟨_, _, _, z⟩ := h5; exact z.elim
      | next =>
      obtain ⟨σ5, H5, I5, rfl, kv, dk, hl5, up5⟩ := h5
      refine seg_execs_nil (seg_again rfl ?_)
      refine ih sn' _ (upd (Hw0 G sn') Wa (.lst wr)) Wa (wr ++ kv.reverse) (tr ++ t.kids.reverse) s5 H5 none (some y) W' List.mem_cons_self (fun b hb => upd_ne (fun z => by rw [z] at hb; exact Nat.lt_asymm hb hlt)) (by rw [upd_ne wne.symm]; exact Hw0_F) (fun b hb => upd_ne (fun z => hb (by rw [z]; exact ownW))) (fun b hb hne => ?_) (.inl ownW) hlt hWa I5 hl5 up5 ?_ en' (by omega) ?_ (by omega) fun j t' x' hj hd => ?_
      · rw [hx] at hb
        exact (own3 _ b eF' hb).resolve_left hne
      · rw [List.map_append, List.map_reverse]
        exact dr.append dk.reverse
      · rw [en']; exact todo_kids
      · have := items (j + 1) t' x' (by simpa using hj) hd
        rw [show G.n - m + j = G.n - (m + 1) + (j + 1) by omega]
        exact this
    exact ⟨hkap _ _ go, hkap _ _ go⟩
/-- x = [y], y a local name: the list is the next object -/
theorem set_one {X : Cx} {pins : List (Addr × Obj)} {s : Shared} {σ : L2.St} {H : Hp} {i j : Nat} {x y : Str} {v : V} {p1 p2 p3 p4 : Pos} {E : Value → Shared → Prop} (I : Inv X pins σ H s) (hN : X.N.Nodup) (hi : X.N[i]? = some x) (hx : X.env.scope.names.lookup x = some .local)
    (hj : X.N[j]? = some y) (hy : X.env.scope.names.lookup y = some .local) (hc : ∀ c, X.env.cells.lookup y ≠ some c) (hv : σ[j]? = some (some v)) (hd : (y == ("__debug__" : Str)) = false)
    (hs : swapsWith (.List [.Name y p2] p3) (some (.Name x p1)) p4.line X.env = pure false := by rfl) (he : starEach [.Name y p2] X.env = (false, eval (.Name y p2) X.env) :: starEach [] X.env := by rfl) :
    wpAny (model X.prog X.w) X.A (exec (.Assign [.Name x p1] (.List [.Name y p2] p3) p4) X.env) (fun f s' => f = .next ∧ Inv X pins (σ.set i (some (.ref s.heap.objs.size))) (upd H s.heap.objs.size (.lst [v])) s') E s := by
  obtain ⟨m, hn, hl⟩ := id I.loc
  obtain ⟨u, r, l⟩ := hl j y v hj hv (.inl hy)
  have lm : m y = some u ∧ X.env.kindOf y = some .local := by
    rcases l with ⟨hk, e⟩ | ⟨_, c, e, _⟩
    · exact ⟨e, hk⟩
    · exact absurd e (hc c)
  refine wpAny_Assign_Name ?_ hs
  refine wpAny_List_spliced ?_
  rw [he]
  show wpAny _ _ (spliced ((false, eval (.Name y p2) X.env) :: backTo p3 (starEach [] X.env))) _ _ s
  refine Calls.spliced_cons (wpAny_Name (wpAny_loadName_local I.ok.kind lm.2 hn lm.1 ?_) hd)
  refine Calls.spliced_nil ⟨small (by show 1 ≤ _; decide), ?_⟩
  have I2 : Inv X pins σ (upd H s.heap.objs.size (.lst [v])) { s with heap := s.heap.push { cls := .type "list", data := .seq [u].toArray } } :=
    I.laid (t' := s.toks) (fun b o e => Heap.get?_push_of_some _ e) (Nat.le_refl _) ⟨small (by show 1 ≤ _; decide), [u], 0, .cons r .nil, Heap.get?_push_size _ rfl⟩
  exact store_ok (v := .ref s.heap.objs.size) I2 hN hi (.inl hx) rfl (fun s2 I3 => ⟨rfl, I3⟩) (.inr hx)
theorem ok_parts {f : Addr} {fd : FuncData} (F : Fun K "parts_of" "parts_of" s_parts_of f fd) (C_children : C8.Cal P w K mg base 1 "children" (spKidsV K) []) : GFnG P w K mg base 3 f fd ["term"] (spParts K) := by
  obtain ⟨oc, od, kV, doc, pm, an, cdv, ct, osl, rfl, lk, hcd⟩ := F.ex
  refine gfnG_of "waiting" lk hcd nc_parts rfl (N := ["term", "waiting", "part"]) (by decide +kernel) (fun y hy => by rw [List.mem_singleton.mp hy]; rfl) (by decide +kernel) (fun vs H n it h => by obtain ⟨v, t, rfl, _⟩ := h; rfl) fun G vs own sn eP' ew eK eb ex S hr hsp W ago hno I => ?_
  subst eP' ew eK eb
  obtain ⟨v, t, rfl, dv, hs, en, eit⟩ := hsp
  refine seg_func ?_
  refine seg_execs_cons (st := stP 0) (rest := [stP 1]) (seg_wrap ?_)
  rw [over_func]
  have nc : ∀ {z c} {q : Prop}, (eP G f cdv).cells.lookup z = some c → q := fun {z c q} e => by
    have e' : (cellsFrom (G.F + 1) (defScope s_parts_of).names []).lookup z = some c := e
    rw [nc_parts.cells] at e'
    cases e'
  have st0 : wpAny (model G.P G.w) (cP G mg f cdv (Hw0 G sn) sn).A (exec (stP 0) (cP G mg f cdv (Hw0 G sn) sn).env) _ (fun _ _ => False) sn := set_one (X := cP G mg f cdv (Hw0 G sn) sn) (i := 1) (j := 0) (v := v) (x := "waiting") (y := "term") I (by show (["term", "waiting", "part"] : List Str).Nodup; decide +kernel) rfl rfl rfl rfl (fun c e => nc e) rfl (by decide)
  refine wpAny_mono st0 (fun fl s2 ⟨efl, I2⟩ => ?_) fun _ _ z => False.elim z
  subst efl
  refine seg_execs_cons (st := stP 1) (rest := []) (seg_While fun p => ?_)
  have szF : G.F < sn.heap.objs.size := I.lt
  have sza : G.a < sn.heap.objs.size := Heap.lt_size (W.own _ ago)
  have nd : (Hw0 G sn) sn.heap.objs.size = none := I.hok.fresh (Nat.le_refl _)
  refine seg_loop S ex C_children (hr.mono (by decide)) (fun sn' s' stp => ?_) G.n sn own (Hw0 G sn) sn.heap.objs.size [v] [t] s2 _ (some v) none W ago (fun _ _ => rfl) Hw0_F (fun _ _ => rfl) (fun b hb hne => ?_) (.inr (Nat.le_refl _)) szF (Nat.ne_of_gt sza) I2 upd_same (fun a xs z => Same.seqT (same_new nd) (Hw0_sq S W a xs z)) (.cons (Dt.mono (fun _ _ z => sq_tups z) _ _ dv) .nil) ?_ (by omega) ?_ (Nat.le_refl _) fun j t' x' hj hd => ?_
  · exact seg_end (.ok (.ret .none)) (.inl ⟨.inl rfl, rfl, stp⟩)
  · exact absurd ⟨by rw [← ex]; exact hb, hne⟩ (hno b)
  · rw [todo_one, Tm.parts_len]; exact en
  · have : 1 ≤ t.size := by rw [Tm.size_eq]; omega
    show 1 ≤ G.n
    omega
  · rw [todo_one] at hj
    rw [Nat.sub_self, Nat.zero_add, eit]
    exact ⟨t', hj, hd⟩
end
end PK
namespace PK
open PySem L2
/-! parts_of, run to its end -/
def spPg (K : PySem.W.Frag) : SpG := fun vs H cont _ => ∃ (v : V) (t : Tm), vs = [v] ∧ Dt K H v t.d ∧ t.size ≤ 1000000 ∧ ∀ (H' : Hp) (ws : List V), Same H H' → DtAll K H' ws (t.parts.map Tm.d) → cont ws H'
section
variable {P : Program} {w : World} {K : PySem.W.Frag} {mg : Str → Option Value} {base : Heap} {aF : Addr}
theorem sc_parts_of : GScope ["term", "waiting", "part"] ["term"] (defScope s_parts_of) := ⟨rfl, rfl, rfl, by decide +kernel, rfl, by decide +kernel, by decide +kernel⟩
theorem ok_partsG {f : Addr} {fd : FuncData} (F : Fun K "parts_of" "parts_of" s_parts_of f fd) (C_children : C8.Cal P w K mg base 1 "children" (spKids K) []) : GFn P w K mg base 2 f fd ["term"] (spPg K) := by
  obtain ⟨oc, od, kV, doc, pm, an, cdv, ct, osl, rfl, lk, hcd⟩ := F.ex
  refine gfn_of lk hcd sc_parts_of (fun vs H Q E h => by obtain ⟨_, _, rfl, _⟩ := h; rfl) fun A outer s H vs Q E pn hr h => ?_
  obtain ⟨v, t, rfl, hv, hs, q⟩ := h
  refine ⟨_, (gss_cons (gs_ps (ps_set (i := 1) sc_parts_of.nd rfl (Or.inl rfl) (pe_lst (pa_cons (pv 0) pa_nil))))
    (gss_cons (gs_while (passes_of rfl) (pt_truth (pv 1) (by intro _; rfl)) (gss_cons (gs_ps (ps_set (i := 2) sc_parts_of.nd rfl (Or.inl rfl) (pe_bm0 PySem.F.plainAttrs_list PySem.F.slot_list_pop PySem.F.type_list_pop mt_pop (pv 1))))
    (gss_cons (gs_yield (pv 2))
    (gss_cons (gs_ps (ps_expr (pe_bm PySem.F.plainAttrs_list PySem.F.slot_list_extend PySem.F.type_list_extend PKZ.mt_extendT (pv 1) (pa_cons (PKZ.pe_revT (C8.pe_c C_children hr (by decide) rfl (pa_cons (pv 2) pa_nil))) pa_nil))))
    gss_nil))))
    gss_nil)), ?_⟩
  refine ⟨_, rfl, small (by show 1 ≤ _; decide), fun Wa hW => ?_⟩
  have hv0 := hv.same (same_new (o := .lst [v]) hW)
  refine ⟨fun m ys σ H' => ∃ (ts : List Tm) (xs : List V) (o : Option V), m = (todo ts).length ∧ σ = [some v, some (.ref Wa), o] ∧ Same H H' ∧ H' Wa = some (.lst xs) ∧ DtAll K H' xs (ts.map Tm.d) ∧ DtAll K H' ys ((t.parts.take (t.parts.length - (todo ts).length)).map Tm.d) ∧ todo ts = t.parts.drop (t.parts.length - (todo ts).length), ⟨_, [t], [v], none, rfl, rfl, same_new hW, upd_same, .cons hv0 .nil, ?_, ?_⟩, ?_⟩
  · rw [todo_one, Nat.sub_self]; exact .nil
  · rw [todo_one, Nat.sub_self]; rfl
  rintro m ys σ H1 ⟨ts, xs, o, rfl, rfl, s, hW1, dx, dy, etd⟩
  have lp := Tm.parts_len t
  have lle : (todo ts).length ≤ t.parts.length := by
    have := congrArg List.length etd
    rw [List.length_drop] at this
    omega
  refine ⟨_, rfl, !xs.isEmpty, .inl ⟨xs, SqL.of hW1, rfl⟩, ?_⟩
  rcases List.eq_nil_or_concat ts with rfl | ⟨r, k, rfl⟩
  · cases dx
    rw [todo_nil, List.length_nil, Nat.sub_zero, List.take_length] at dy
    exact iteF (q H1 ys s dy)
  · rw [List.concat_eq_append] at dx dy etd lle ⊢
    rw [List.map_append] at dx
    obtain ⟨us, zs, rfl, d1, d2⟩ := DtAll.splitR dx
    cases d2 with
    | cons dz dn =>
    cases dn
    rename_i z
    have es := todo_snoc r k
    have hk := todo_kids (ts := r) (t := k)
    rw [show (!(us ++ [z]).isEmpty) = true by simp]
    refine iteT ⟨fun ys' σ' H' => ∃ m', m' < (todo (r ++ [k])).length ∧ ∃ (ts : List Tm) (xs : List V) (o : Option V), m' = (todo ts).length ∧ σ' = [some v, some (.ref Wa), o] ∧ Same H H' ∧ H' Wa = some (.lst xs) ∧ DtAll K H' xs (ts.map Tm.d) ∧ DtAll K H' ys' ((t.parts.take (t.parts.length - (todo ts).length)).map Tm.d) ∧ todo ts = t.parts.drop (t.parts.length - (todo ts).length), fun _ _ _ h => h, ?_⟩
    refine ⟨_, rfl, .inl ⟨rfl, _, SqL.of hW1⟩, Wa, _, z, rfl, rfl, hW1, by rw [List.length_append]; simp, ?_⟩
    rw [List.dropLast_concat]
    have l1 : (todo (r ++ [k])).length = (todo (r ++ k.kids.reverse)).length + 1 := by rw [es]; rfl
    obtain ⟨j, ej⟩ : ∃ j, t.parts.length - (todo (r ++ [k])).length = j := ⟨_, rfl⟩
    rw [ej] at etd dy
    have ej2 : t.parts.length - (todo (r ++ k.kids.reverse)).length = j + 1 := by omega
    have hj : j < t.parts.length := by omega
    have gk : t.parts[j]? = some k := by
      have : (t.parts.drop j)[0]? = some k := by rw [← etd, es]; rfl
      rw [List.getElem?_drop] at this
      exact this
    have etd2 : todo (r ++ k.kids.reverse) = t.parts.drop (j + 1) := by
      have := congrArg List.tail etd
      rw [es, List.tail_drop] at this
      exact this
    have hWH : Same H (upd H1 Wa (.lst us)) := Same.upd s hW
    have lys : ys.length = j := by rw [dy.lenD, List.length_map, List.length_take]; omega
    have dz1 : Dt K (upd H1 Wa (.lst us)) z k.d := dz.updL hW1
    refine ⟨smallL (by omega), _, rfl, ?_⟩
    have lkk : k.kids.length ≤ 1000000 := by
      rw [List.length_append, List.length_reverse] at hk
      omega
    refine ⟨_, rfl, .inl ⟨rfl, _, SqL.of (upd_same (H := H1) (a := Wa) (o := .lst us))⟩, _, rfl, z, k, rfl, dz1, by omega, fun H2 p2 ws2 s2 hp2 dw2 => ⟨p2, ws2, rfl, hp2, fun p3 hp3 => ?_⟩⟩
    have s3 : Same (upd H1 Wa (.lst us)) (upd H2 p3 (.tup ws2.reverse)) := Same.trans s2 (same_new hp3)
    have hW3 := s3 _ _ (upd_same (H := H1) (a := Wa) (o := .lst us))
    have lw2 := dw2.lenD
    rw [List.length_map] at lw2
    have lus := d1.lenD
    rw [List.length_map] at lus
    have lrk := todo_kids (ts := r) (t := k)
    rw [List.length_append, List.length_reverse] at lrk
    refine ⟨Wa, p3, us, _, rfl, rfl, hW3, SqT.of upd_same, small (by rw [List.length_reverse]; omega), ?_⟩
    refine ⟨_, by omega, r ++ k.kids.reverse, _, _, rfl, rfl, Same.upd (hWH.trans s3) hW, upd_same, ?_, ?_, ?_⟩
    · rw [List.map_append]
      exact (((d1.upd hW1).same s3).append (by rw [List.map_reverse]; exact dw2.rev.same (same_new hp3))).upd hW3
    · rw [ej2, List.take_add_one, gk, List.map_append]
      exact (((dy.upd hW1).same s3).append (.cons (dz1.same s3) .nil)).upd hW3
    · rw [ej2]; exact etd2
end
end PK
namespace PK
open PySem L2
/-! measures -/
def Tm.tot (f : Tm → Nat) (t : Tm) : Nat := f t + (t.kids.attach.map fun k => k.1.tot f).sum
termination_by sizeOf t
decreasing_by exact Tm.kid_lt k.2
theorem Tm.tot_eq (f : Tm → Nat) (t : Tm) : t.tot f = f t + (t.kids.map (Tm.tot f)).sum := by
  rw [Tm.tot, List.attach_map_val (f := Tm.tot f)]
theorem sum_le_of {α : Type} {f g : α → Nat} : ∀ {l : List α}, (∀ x ∈ l, f x ≤ g x) → (l.map f).sum ≤ (l.map g).sum
  | [], _ => Nat.le_refl _
  | x :: l, h => by
    have h1 := h x List.mem_cons_self
    have h2 := sum_le_of (l := l) fun y hy => h y (List.mem_cons_of_mem _ hy)
    rw [List.map_cons, List.map_cons, List.sum_cons, List.sum_cons]; omega
theorem le_sum_of {α : Type} {f : α → Nat} : ∀ {l : List α} {x : α}, x ∈ l → f x ≤ (l.map f).sum
  | y :: l, x, h => by
    rw [List.map_cons, List.sum_cons]
    rcases List.mem_cons.mp h with rfl | h
    · omega
    · have := le_sum_of (f := f) h; omega
theorem sum_add {α : Type} (f g : α → Nat) : ∀ l : List α, (l.map fun x => f x + g x).sum = (l.map f).sum + (l.map g).sum
  | [] => rfl
  | a :: l => by rw [List.map_cons, List.map_cons, List.map_cons, List.sum_cons, List.sum_cons, List.sum_cons, sum_add f g l]; omega
/-- nodes -/
def fN : Tm → Nat | .node _ _ => 1 | _ => 0
/-- places of a word -/
def fO (s : Str) : Tm → Nat | .var u => if u = s then 1 else 0 | _ => 0
theorem sum_erase (g : Tm → Nat) : ∀ (l : List Tm) (k : Nat) (h : k < l.length), ((l.eraseIdx k).map g).sum + g l[k] = (l.map g).sum
  | a :: l, 0, _ => by
    show (l.map g).sum + g a = ((a :: l).map g).sum
    rw [List.map_cons, List.sum_cons]; omega
  | a :: l, k + 1, h => by
    have hk : k < l.length := by rw [List.length_cons] at h; omega
    have := sum_erase g l k hk
    show ((a :: l.eraseIdx k).map g).sum + g (l[k]'hk) = ((a :: l).map g).sum
    rw [List.map_cons, List.map_cons, List.sum_cons, List.sum_cons]; omega
theorem sum_snoc (g : Tm → Nat) (l : List Tm) (t : Tm) : ((l ++ [t]).map g).sum = (l.map g).sum + g t := by
  rw [List.map_append, List.sum_append]
  show _ + (g t + 0) = _
  omega
/-! terms over heads -/
abbrev Hds := List (Str × Nat)
def hdD (h : Str × Nat) : PyData := .tuple [.str h.1, .int (h.2 : Nat)]
structure HdOk (hs : Hds) : Prop where
  nd : (hs.map Prod.fst).Nodup
  wd : ∀ h ∈ hs, Wd h.1
  ar : ∀ h ∈ hs, h.2 ≤ 3
theorem hd_one {hs : Hds} (ok : HdOk hs) {c : Str} {m n : Nat} (h1 : (c, m) ∈ hs) (h2 : (c, n) ∈ hs) : m = n := by
  obtain ⟨i, hi, ei⟩ := List.getElem_of_mem h1
  obtain ⟨j, hj, ej⟩ := List.getElem_of_mem h2
  have : i = j := (List.getElem?_inj (by rw [List.length_map]; exact hi) ok.nd).mp (by rw [List.getElem?_map, List.getElem?_map, List.getElem?_eq_getElem hi, List.getElem?_eq_getElem hj, ei, ej]; rfl)
  subst this
  rw [ei] at ej
  exact (Prod.mk.inj ej).2
/-- a part: whole terms have no words of ps -/
def tN (hs : Hds) (ps : List Str) : Tm → Prop
  | .int n => 0 ≤ n ∧ n < 1000
  | .addr n => 0 ≤ n ∧ n < 1000
  | .name s => Wd s
  | .var s => s ∈ ps ∧ Wd s
  | .node c ts => (c, ts.length) ∈ hs ∧ Wd c ∧ ts.length ≤ 3
  | .map es => es.length ≤ 3 ∧ (∀ e ∈ es, Wd e.1) ∧ (es.map Prod.fst).Nodup
  | .form _ _ => False
def TT (hs : Hds) (ps : List Str) : Tm → Prop := Al (tN hs ps)
theorem TT.len {hs : Hds} {ps : List Str} {t : Tm} (h : TT hs ps t) : t.kids.length ≤ 3 := by
  have := h.at_
  cases t with
  | node c ts => exact this.2.2
  | map es => show (es.map Prod.snd).length ≤ 3; rw [List.length_map]; exact this.1
  | form _ _ => exact this.elim
  | _ => exact Nat.zero_le _
theorem TT.leaf {hs : Hds} {ps : List Str} {t : Tm} (h : tN hs ps t) (hk : t.kids = []) : TT hs ps t := .mk h fun k hm => by rw [hk] at hm; cases hm
def Tm.atom : Tm → Prop
  | .int _ => True
  | .name _ => True
  | .addr _ => True
  | _ => False
theorem atom_kids {t : Tm} (h : t.atom) : t.kids = [] := by cases t <;> first | rfl | exact h.elim
theorem atom_tot {t : Tm} {f : Tm → Nat} (h : t.atom) (hf : f t = 0) : t.tot f = 0 := by rw [Tm.tot_eq, atom_kids h, hf]; rfl
theorem atom_fN {t : Tm} (h : t.atom) : t.tot fN = 0 := atom_tot h (by cases t <;> first | rfl | exact h.elim)
theorem atom_fO {t : Tm} (s : Str) (h : t.atom) : t.tot (fO s) = 0 := atom_tot h (by cases t <;> first | rfl | exact h.elim)
/-- a list of words -/
structure Nm (H : Hp) (l p : Addr) (ws : List Str) : Prop where
  at_ : H p = some (.lst (ws.map V.str))
  ne : p ≠ l
  le : ws.length ≤ 25
  nn : ws ≠ []
  wd : ∀ x ∈ ws, Wd x
theorem Nm.ext {H H' : Hp} {l c p : Addr} {ws : List Str} (N : Nm H l p ws) (x : Ext l c H H') : Nm H' l p ws := ⟨x.keep _ _ N.ne N.at_, N.ne, N.le, N.nn, N.wd⟩
theorem Nm.pos {H : Hp} {l p : Addr} {ws : List Str} (N : Nm H l p ws) : 0 < ws.length := List.length_pos_iff.mpr N.nn
/-- all but the pool and a list is kept -/
structure Ex2 (l c pa : Addr) (H H' : Hp) : Prop where
  keep : ∀ b o, b ≠ l → b ≠ pa → H b = some o → H' b = some o
  pool : Pool H' l c
theorem Ex2.of {l c pa : Addr} {H H' : Hp} (x : Ext l c H H') : Ex2 l c pa H H' := ⟨fun b o h _ => x.keep b o h, x.pool⟩
theorem Ex2.trans {l c pa : Addr} {H H1 H2 : Hp} (x : Ex2 l c pa H H1) (y : Ex2 l c pa H1 H2) : Ex2 l c pa H H2 := ⟨fun b o h1 h2 h => y.keep b o h1 h2 (x.keep b o h1 h2 h), y.pool⟩
theorem Ex2.upd {l c pa p : Addr} {H H' : Hp} {o : HO} (x : Ex2 l c pa H H') (h : H p = none) (P : Pool H l c) : Ex2 l c pa H (L2.upd H' p o) := by
  have n := P.ne h
  refine ⟨fun b u h1 h2 e => ?_, x.pool.upd n.1 n.2⟩
  rw [upd_ne (fun z => by rw [z, h] at e; cases e)]
  exact x.keep b u h1 h2 e
theorem Ex2.updP {l c pa : Addr} {H H' : Hp} {o : HO} (x : Ex2 l c pa H H') (h1 : pa ≠ l) (h2 : pa ≠ c) : Ex2 l c pa H (L2.upd H' pa o) := by
  refine ⟨fun b u k1 k2 e => ?_, x.pool.upd h1 h2⟩
  rw [upd_ne k2]
  exact x.keep b u k1 k2 e
theorem Ex2.seqT {l c pa a : Addr} {K : PySem.W.Frag} {H H' : Hp} {xs pw : List V} (x : Ex2 l c pa H H') (P : Pool H l c) (hp : H pa = some (.lst pw)) (h : SqT K H a xs) : SqT K H' a xs := by
  have nl : ∀ {o : HO}, H a = some o → (∀ ys, o ≠ .lst ys) → a ≠ l ∧ a ≠ pa := fun e d => by
    refine ⟨fun z => ?_, fun z => ?_⟩
    · subst z
      obtain ⟨ns, i, r, s, hl, _⟩ := P
      rw [hl] at e; cases e
      exact d _ rfl
    · subst z
      rw [hp] at e; cases e
      exact d _ rfl
  rcases h with (h | ⟨o, h⟩) | h
  · exact .inl (.inl (x.keep _ _ (nl h (fun _ => HO.noConfusion)).1 (nl h (fun _ => HO.noConfusion)).2 h))
  · exact .inl (.inr ⟨o, x.keep _ _ (nl h (fun _ => HO.noConfusion)).1 (nl h (fun _ => HO.noConfusion)).2 h⟩)
  · exact .inr h
theorem Dt.ex2 {l c pa : Addr} {K : PySem.W.Frag} {H H' : Hp} {pw : List V} {v : V} {d : PyData} (h : Dt K H v d) (x : Ex2 l c pa H H') (P : Pool H l c) (hp : H pa = some (.lst pw)) : Dt K H' v d := Dt.mono (fun _ _ z => x.seqT P hp z) _ _ h
theorem DtAll.ex2 {l c pa : Addr} {K : PySem.W.Frag} {H H' : Hp} {pw : List V} {v : List V} {d : List PyData} (h : DtAll K H v d) (x : Ex2 l c pa H H') (P : Pool H l c) (hp : H pa = some (.lst pw)) : DtAll K H' v d := DtAll.mono (fun _ _ z => x.seqT P hp z) _ _ h
theorem Ext.ex2 {l c pa : Addr} {H H1 H2 : Hp} (x : Ext l c H H1) (h : H pa = none) (y : Ex2 l c pa H1 H2) : Ext l c H H2 :=
  ⟨fun b o hb e => y.keep b o hb (fun z => by rw [z, h] at e; cases e) (x.keep b o hb e), y.pool⟩
theorem DtAll.erase {K : PySem.W.Frag} {H : Hp} : ∀ {xs : List V} {ds : List PyData} (n : Nat), DtAll K H xs ds → DtAll K H (xs.eraseIdx n) (ds.eraseIdx n)
  | _, _, _, .nil => .nil
  | _, _, 0, .cons _ t => t
  | _, _, n + 1, .cons h t => .cons h (t.erase n)
theorem map_erase {α β : Type} (f : α → β) : ∀ (l : List α) (k : Nat), (l.map f).eraseIdx k = (l.eraseIdx k).map f
  | [], _ => rfl
  | _ :: _, 0 => rfl
  | a :: l, k + 1 => by rw [List.map_cons, List.eraseIdx_cons_succ, List.eraseIdx_cons_succ, List.map_cons, map_erase f l k]
theorem seqIx_nat {k n : Nat} (h : k < n) : seqIndex? (k : Int) n = some k := by
  unfold seqIndex?
  have h0 : ¬ ((k : Int) < 0) := by omega
  simp [h0, h]
theorem built_cond {K : PySem.W.Frag} {σ : L2.St} {H : Hp} {l c pa a : Addr} {ar i : Nat} {pw ys : List V} {R : Bool → Hp → Prop} (h0 : σ[0]? = some (some (.ref l))) (h1 : σ[1]? = some (some (.ref a))) (h2 : σ[2]? = some (some (.ref pa))) (h5 : σ[5]? = some (some (.int (0 + (i : Int)))))
    (P : Pool H l c) (hp : H pa = some (.lst pw)) (hs : SqT K H a ys) (ha : atI ys 1 = some (.int (ar : Nat)))
    (hR : ∀ b H2, Ext l c H H2 → (b = true → 0 < pw.length) → (b = false → pw.length = 0 ∨ (pw.length : Int) < (ar : Int) - i) → R b H2) :
    tAnd (fun σ H_1 Q => tVar 2 σ H_1 fun x H' => ∃ k, TruV K x H' k ∧ Q k H')
        (tOr (tTest (tOp (rI0 fun i j => V.bl (decide (j ≤ i))) (tCB (fun xs H_1 Q => ∃ p ys, xs = [V.ref p] ∧ (SqL K H_1 p ys ∨ SqT K H_1 p ys) ∧ Q (V.int ↑ys.length) H_1) (tCons (tVar 2) tNil))
              (tOp (rI0 fun i j => V.int (i - j)) (tOp (rIxT K) (tVar 1) (tC (V.int 1))) (tVar 5))))
          (tTest (tOp rEq (tCall (spTake 2) [] C8.E0 (tCons (tVar 0) (tCons (tC (V.int 2)) tNil))) (tC (V.int 1))))) σ H R := by
  refine ⟨_, h2, !pw.isEmpty, .inl ⟨pw, SqL.of hp, rfl⟩, ?_⟩
  cases pw with
  | nil => exact iteF (hR false H (Ext.refl P) (fun z => nomatch z) fun _ => .inl rfl)
  | cons y r =>
    refine iteT ⟨_, h2, pa, _, rfl, .inl (SqL.of hp), vTx h1 hs ha ⟨_, h5, _, _, rfl, rfl, _, _, rfl, rfl, _, rfl, ?_⟩⟩
    by_cases e : (ar : Int) - (0 + (i : Int)) ≤ (((y :: r).length : Nat) : Int)
    · rw [decide_eq_true e]
      exact iteT (hR true H (Ext.refl P) (fun _ => by rw [List.length_cons]; omega) fun z => nomatch z)
    · rw [decide_eq_false e]
      refine iteF (vTake h0 P (by decide) (by decide) fun d H2 d0 d1 x => ⟨rfl, _, rfl, ?_⟩)
      cases hd : decide (V.int d = V.int 1) with
      | true => exact hR true H2 x (fun _ => by rw [List.length_cons]; omega) fun z => nomatch z
      | false => exact hR false H2 x (fun z => nomatch z) fun _ => .inr (by omega)
def spSmall (K : PySem.W.Frag) : Sp := fun vs H Q _ => ∃ (l c pn : Addr) (ws : List Str), vs = [.ref l, .ref pn] ∧ Pool H l c ∧ Nm H l pn ws ∧ ∀ (H' : Hp) (v : V) (t : Tm), Ext l c H H' → Dt K H' v t.d → t.atom → (∀ hs ps, tN hs ps t) → Q v H'
def spPick (K : PySem.W.Frag) : Sp := fun vs H Q _ => ∃ (l c p : Addr) (xs : List V), vs = [.ref l, .ref p] ∧ Pool H l c ∧ p ≠ l ∧ H p = some (.lst xs) ∧ xs ≠ [] ∧ xs.length ≤ 1000 ∧ ∀ (H' : Hp) (i : Nat) (x : V), Ext l c H H' → xs[i]? = some x → Q x H'
def spBuilt (K : PySem.W.Frag) : Sp := fun vs H Q _ => ∃ (l c pa pn : Addr) (hv : V) (hd : Str × Nat) (pv : List V) (ts : List Tm) (ws : List Str), vs = [.ref l, hv, .ref pa, .ref pn] ∧ Pool H l c ∧ pa ≠ l ∧ pa ≠ c ∧ pa ≠ pn ∧ Nm H l pn ws ∧ Dt K H hv (hdD hd) ∧ hd.2 ≤ 3 ∧ H pa = some (.lst pv) ∧ DtAll K H pv (ts.map Tm.d) ∧ ts.length ≤ 100 ∧
  ∀ (H' : Hp) (v : V) (pv' : List V) (ts' args : List Tm), Ex2 l c pa H H' → H' pa = some (.lst pv') → DtAll K H' pv' (ts'.map Tm.d) → Dt K H' v (Tm.node hd.1 args).d → args.length = hd.2 → (∀ a ∈ args, a ∈ ts ∨ (a.atom ∧ ∀ hs ps, tN hs ps a)) → (∀ x ∈ ts', x ∈ ts) →
    ts'.length + min ts.length hd.2 = ts.length → (∀ g : Tm → Nat, (∀ a : Tm, a.atom → g a = 0) → (args.map g).sum + (ts'.map g).sum = (ts.map g).sum) → Q v H'
section
variable {P : Program} {w : World} {K : PySem.W.Frag} {mg : Str → Option Value} {base : Heap}
abbrev s_law_small : Stmt := topS 21
theorem sc_law_small : FnScope ["pool", "names", "kind"] ["pool", "names"] (defScope s_law_small) := ⟨rfl, rfl, rfl, by decide +kernel, rfl, by decide +kernel, by decide +kernel⟩
-- slots: 0:pool 1:names 2:kind
abbrev s_law_pick : Stmt := topS 14
theorem sc_law_pick : FnScope ["pool", "rows"] ["pool", "rows"] (defScope s_law_pick) := ⟨rfl, rfl, rfl, by decide +kernel, rfl, by decide +kernel, by decide +kernel⟩
-- slots: 0:pool 1:rows
abbrev s_law_built : Stmt := topS 22
theorem sc_law_built : FnScope ["pool", "head", "left", "names", "parts", "place"] ["pool", "head", "left", "names"] (defScope s_law_built) := ⟨rfl, rfl, rfl, by decide +kernel, rfl, by decide +kernel, by decide +kernel⟩
-- slots: 0:pool 1:head 2:left 3:names 4:parts 5:place
theorem ok_small {f : Addr} {fd : FuncData} (F : Fun K "_law_small" "_law_small" s_law_small f fd) (T : Txt K mg) (C_law_take : C8.Cal P w K mg base 2 "_law_take" (spTake 2) []) : FnOk P w K mg base CX0 3 f fd ["pool", "names"] (spSmall K) := by
  refine F.ok sc_law_small (fun vs H Q E h => ?_) (fun cdv A outer s H vs Q E hr h => ?_)
  · obtain ⟨_, _, _, _, rfl, _⟩ := h
    rfl
  obtain ⟨l, c, pn, ws, rfl, P0, N, q⟩ := h
  refine ⟨_, (pss_cons (ps_set (i := 2) sc_law_small.nd rfl (Or.inl rfl) (C8.pe_c C_law_take hr (by decide) rfl (pa_cons (pv 0) (pa_cons pe_int pa_nil))))
    (pss_cons (ps_if (pt_cmpR op_lt (pv 2) pe_int (nomark _)) (pss_one (ps_ret (pe_tup (pa_cons pe_str (pa_cons (C8.pe_c C_law_take hr (by decide) rfl (pa_cons (pv 0) (pa_cons pe_int pa_nil))) pa_nil))))) pss_nil)
    (pss_cons (ps_if (pt_cmpR op_eq (pv 2) pe_int (nomark _)) (pss_one (ps_ret (pe_tup (pa_cons pe_str (pa_cons (pe_ix ix_list (pv 1) (C8.pe_c C_law_take hr (by decide) rfl (pa_cons (pv 0) (pa_cons (pe_callB call_len_seq (by rfl) T.z_len (by decide +kernel) (pa_cons (pv 1) pa_nil)) pa_nil))) (fun _ _ => rfl)) pa_nil))))) pss_nil)
    (pss_one (ps_ret (pe_tup (pa_cons pe_str (pa_cons (C8.pe_c C_law_take hr (by decide) rfl (pa_cons (pv 0) (pa_cons pe_int pa_nil))) pa_nil)))))))), ?_⟩
  refine vTake rfl P0 (by decide) (by decide) fun d H1 d0 d1 x1 => ⟨_, rfl, _, _, rfl, rfl, _, rfl, ite2 (fun _ => ?_) (fun _ => ?_)⟩
  · refine vTake rfl x1.pool (by decide) (by decide) fun e H2 e0 e1 x2 => ⟨small (by show 2 ≤ _; decide), fun p hp => ?_⟩
    refine q _ _ (.int e) ((x1.trans x2).new P0 hp) ?_ trivial fun hs ps => ⟨e0, by omega⟩
    unfold Tm.d
    exact Dt.mk2 hp (.str _) (.int _)
  · refine ⟨_, rfl, rfl, _, rfl, ite2 (fun _ => ?_) (fun _ => ?_)⟩
    · have N1 := N.ext x1
      have np := N.pos
      have nl := N.le
      refine ⟨_, rfl, _, rfl, _, rfl, pn, _, rfl, .inl (SqL.of N1.at_), l, c, _, False, rfl, x1.pool, by rw [List.length_map]; omega, by rw [List.length_map]; omega, .inl (Nat.le_refl 2), fun e H2 e0 e1 x2 => ?_⟩
      rw [List.length_map] at e1
      obtain ⟨k, rfl⟩ : ∃ k : Nat, e = k := ⟨e.toNat, by omega⟩
      have hk : k < ws.length := by omega
      refine ⟨pn, _, _, .str ws[k], rfl, rfl, SqL.of (N1.ext x2).at_, atI_nat (by rw [List.getElem?_map, List.getElem?_eq_getElem hk]; rfl), small (by show 2 ≤ _; decide), fun p hp => ?_⟩
      refine q _ _ (.name ws[k]) ((x1.trans x2).new P0 hp) ?_ trivial fun hs ps => N.wd _ (List.getElem_mem hk)
      unfold Tm.d
      exact Dt.mk2 hp (.str _) (.str _)
    · refine vTake rfl x1.pool (by decide) (by decide) fun e H2 e0 e1 x2 => ⟨small (by show 2 ≤ _; decide), fun p hp => ?_⟩
      refine q _ _ (.addr e) ((x1.trans x2).new P0 hp) ?_ trivial fun hs ps => ⟨e0, by omega⟩
      unfold Tm.d
      exact Dt.mk2 hp (.str _) (.int _)
theorem ok_pick {f : Addr} {fd : FuncData} (F : Fun K "_law_pick" "_law_pick" s_law_pick f fd) (T : Txt K mg) (C_law_take : C8.Cal P w K mg base 2 "_law_take" (spTake 2) []) : FnOk P w K mg base CX0 3 f fd ["pool", "rows"] (spPick K) := by
  refine F.ok sc_law_pick (fun vs H Q E h => ?_) (fun cdv A outer s H vs Q E hr h => ?_)
  · obtain ⟨_, _, _, _, rfl, _⟩ := h
    rfl
  obtain ⟨l, c, p, xs, rfl, P0, np, hp, nn, hl, q⟩ := h
  refine ⟨_, (pss_one (ps_ret (pe_ix ix_list (pv 1) (C8.pe_c C_law_take hr (by decide) rfl (pa_cons (pv 0) (pa_cons (pe_callB call_len_seq (by rfl) T.z_len (by decide +kernel) (pa_cons (pv 1) pa_nil)) pa_nil))) (fun _ _ => rfl)))), ?_⟩
  have h0 := List.length_pos_iff.mpr nn
  refine ⟨_, rfl, _, rfl, _, rfl, p, _, rfl, .inl (SqL.of hp), l, c, _, False, rfl, P0, by omega, by omega, .inl (Nat.le_refl 2), fun e H1 e0 e1 x1 => ?_⟩
  obtain ⟨k, rfl⟩ : ∃ k : Nat, e = k := ⟨e.toNat, by omega⟩
  have hk : k < xs.length := by omega
  exact ⟨p, xs, _, xs[k], rfl, rfl, SqL.of (x1.keep _ _ np hp), atI_nat (List.getElem?_eq_getElem hk), q H1 k _ x1 (List.getElem?_eq_getElem hk)⟩
theorem ok_built {f : Addr} {fd : FuncData} (F : Fun K "_law_built" "_law_built" s_law_built f fd) (T : Txt K mg) (C_law_take : C8.Cal P w K mg base 2 "_law_take" (spTake 2) []) (C_law_small : C8.Cal P w K mg base 3 "_law_small" (spSmall K) []) :
    FnOk P w K mg base CX0 4 f fd ["pool", "head", "left", "names"] (spBuilt K) := by
  refine F.ok sc_law_built (fun vs H Q E h => ?_) (fun cdv A outer s H vs Q E hr h => ?_)
  · obtain ⟨_, _, _, _, _, _, _, _, _, rfl, _⟩ := h
    rfl
  obtain ⟨l, c, pa, pn, hv, hd, pw, ts, ws, rfl, P0, pl, pc, pnn, N, hhv, har, hpa, dpa, lts, q⟩ := h
  refine ⟨_, (pss_cons (ps_set (i := 4) sc_law_built.nd rfl (Or.inl rfl) (pe_lst pa_nil))
    (pss_cons (ps_for PassesOwn.never rfl (pi_range1 (by rfl) T.z_range (pa_cons (pe_ix ix_tup (pv 1) pe_int (fun _ _ => rfl)) pa_nil)) (pg_name (i := 5) sc_law_built.nd rfl (Or.inl rfl)) (pss_one (ps_if (PW.pt (pw_and (pt_truth (pv 2) (by intro _; rfl)) (pw_and1 (PW.pt (pw_or (pt_cmpR op_ge (pe_callB call_len_seq (by rfl) T.z_len (by decide +kernel) (pa_cons (pv 2) pa_nil)) (pe_op op_sub (pe_ix ix_tup (pv 1) pe_int (fun _ _ => rfl)) (pv 5)) (nomark _)) (pw_or1 (pt_cmpR op_eq (C8.pe_c C_law_take hr (by decide) rfl (pa_cons (pv 0) (pa_cons pe_int pa_nil))) pe_int (nomark _)))))))) (pss_one (ps_expr (pe_bm PySem.F.plainAttrs_list PySem.F.slot_list_append PySem.F.type_list_append mt_append (pv 4) (pa_cons (pe_bm PySem.F.plainAttrs_list PySem.F.slot_list_pop PySem.F.type_list_pop mt_popAt (pv 2) (pa_cons (C8.pe_c C_law_take hr (by decide) rfl (pa_cons (pv 0) (pa_cons (pe_callB call_len_seq (by rfl) T.z_len (by decide +kernel) (pa_cons (pv 2) pa_nil)) pa_nil))) pa_nil)) pa_nil)))) (pss_one (ps_expr (pe_bm PySem.F.plainAttrs_list PySem.F.slot_list_append PySem.F.type_list_append mt_append (pv 4) (pa_cons (C8.pe_c C_law_small hr (by decide) rfl (pa_cons (pv 0) (pa_cons (pv 3) pa_nil))) pa_nil)))))))
    (pss_one (ps_ret (pe_tup (pa_cons pe_str (pa_cons (pe_ix ix_tup (pv 1) pe_int (fun _ _ => rfl)) (pa_cons (pe_callTy call_tuple_of (by rfl) T.z_tuple (by decide +kernel) (pa_cons (pv 4) pa_nil)) pa_nil)))))))), ?_⟩
  unfold hdD at hhv
  obtain ⟨a, y1, y2, rfl, hs, h1, h2⟩ := Dt.t2 hhv
  obtain rfl := h1.s
  obtain rfl := h2.i
  refine ⟨Nat.zero_le _, fun L hL => ?_⟩
  have nLl := (P0.ne hL).1
  have nLp : L ≠ pa := (ne_of_none hpa hL).symm
  have nLn : L ≠ pn := (ne_of_none N.at_ hL).symm
  have x1 : Ex2 l c pa H (upd H L (.lst [])) := (Ex2.of (Ext.refl P0)).upd hL P0
  refine vTx rfl (Same.seqT (same_new hL) hs) rfl ⟨hd.2, rfl, by omega, by omega, for_range (lo := 0) (n := (hd.2 : Int).toNat) (fun i σ H' => ∃ (pw : List V) (ts' args : List Tm) (av : List V) (o : Option V), σ = [some (.ref l), some (.ref a), some (.ref pa), some (.ref pn), some (.ref L), o] ∧ Ex2 l c pa H H' ∧ H' pa = some (.lst pw) ∧ DtAll K H' pw (ts'.map Tm.d) ∧ H' L = some (.lst av) ∧ DtAll K H' av (args.map Tm.d) ∧ H' pn = some (.lst (ws.map V.str)) ∧
    args.length = i ∧ (∀ a ∈ args, a ∈ ts ∨ (a.atom ∧ ∀ hs ps, tN hs ps a)) ∧ (∀ x ∈ ts', x ∈ ts) ∧ ts'.length + min ts.length hd.2 ≤ ts.length + (hd.2 - i) ∧ ts'.length ≤ ts.length ∧ ts.length ≤ ts'.length + i ∧ ∀ g : Tm → Nat, (∀ a : Tm, a.atom → g a = 0) → (args.map g).sum + (ts'.map g).sum = (ts.map g).sum) ?_ ?_ ?_⟩
  · refine ⟨pw, ts, [], [], _, rfl, x1, by rw [upd_ne nLp.symm]; exact hpa, dpa.same (same_new hL), upd_same, .nil, by rw [upd_ne nLn.symm]; exact N.at_, rfl, fun _ h => absurd h List.not_mem_nil, fun _ h => h, by omega, Nat.le_refl _, by omega, fun g _ => by show 0 + _ = _; omega⟩
  · rintro i σ H' hi ⟨pw, ts', args, av, o, rfl, x, hp, dp, hA, dA, hN, la, ha, ht, hn, hn2, hn3, hg⟩
    have hi' : i < hd.2 := by omega
    have hs' := x.seqT P0 hpa hs
    have lpw : pw.length = ts'.length := by rw [dp.lenD, List.length_map]
    have lav : av.length = i := by rw [dA.lenD, List.length_map]; exact la
    have N' : Nm H' l pn ws := ⟨hN, N.ne, N.le, N.nn, N.wd⟩
    refine built_cond rfl rfl rfl rfl x.pool hp hs' rfl fun b H2 y1 hb1 hb2 => ?_
    have hA2 := y1.keep _ _ nLl hA
    have hp2 := y1.keep _ _ pl hp
    have hN2 := y1.keep _ _ N.ne hN
    have dp2 := dp.ext x.pool y1
    have dA2 := dA.ext x.pool y1
    cases b with
    | true =>
      have h0 := hb1 rfl
      refine iteT ⟨_, rfl, .inl ⟨rfl, _, SqL.of hA2⟩, ⟨_, rfl, .inl ⟨rfl, _, SqL.of hp2⟩, ⟨_, rfl, _, rfl, pa, _, rfl, .inl (SqL.of hp2), l, c, _, False, rfl, y1.pool, by omega, by omega, .inl (Nat.le_refl 2), fun e H3 e0 e1 y2 => ?_⟩⟩⟩
      obtain ⟨k, rfl⟩ : ∃ k : Nat, e = k := ⟨e.toNat, by omega⟩
      have hk : k < pw.length := by omega
      have hk2 : k < ts'.length := by omega
      have hA3 := y2.keep _ _ nLl hA2
      have hp3 := y2.keep _ _ pl hp2
      have hN3 := y2.keep _ _ N.ne hN2
      have dp3 := dp2.ext y1.pool y2
      have dA3 := dA2.ext y1.pool y2
      refine ⟨pa, pw, k, k, pw[k], rfl, rfl, hp3, by omega, by omega, seqIx_nat hk, List.getElem?_eq_getElem hk, ?_⟩
      have hA4 : (upd H3 pa (.lst (pw.eraseIdx k))) L = some (.lst av) := by rw [upd_ne nLp]; exact hA3
      have dk : Dt K H3 pw[k] ts'[k].d := by
        obtain ⟨d, gd, dx⟩ := dp3.getX (List.getElem?_eq_getElem hk)
        rw [List.getElem?_map, List.getElem?_eq_getElem hk2] at gd
        cases gd
        exact dx
      refine ⟨L, av, _, rfl, rfl, hA4, smallL (by omega), pw.eraseIdx k, ts'.eraseIdx k, args ++ [ts'[k]], av ++ [pw[k]], _, rfl, ((x.trans (Ex2.of (y1.trans y2))).updP pl pc).upd hL P0, by rw [upd_ne nLp.symm, upd_same], ?_, upd_same, ?_, by rw [upd_ne nLn.symm, upd_ne pnn.symm]; exact hN3, by rw [List.length_append, la]; rfl, ?_, ?_, ?_, ?_, ?_, ?_⟩
      · rw [← map_erase]
        exact ((dp3.erase k).upd hp3).upd hA4
      · rw [List.map_append]
        exact ((dA3.append (.cons dk .nil)).upd hp3).upd hA4
      · intro z hz
        rcases List.mem_append.mp hz with h | h
        · exact ha z h
        · rw [List.mem_singleton.mp h]
          exact .inl (ht _ (List.getElem_mem hk2))
      · intro z hz
        exact ht z (List.mem_of_mem_eraseIdx hz)
      · rw [List.length_eraseIdx, if_pos hk2]; omega
      · rw [List.length_eraseIdx, if_pos hk2]; omega
      · rw [List.length_eraseIdx, if_pos hk2]; omega
      · intro g g0
        have h1 := sum_erase g ts' k hk2
        have h2 := hg g g0
        rw [sum_snoc]; omega
    | false =>
      have h0 := hb2 rfl
      refine iteF ⟨_, rfl, .inl ⟨rfl, _, SqL.of hA2⟩, ⟨_, rfl, _, rfl, l, c, pn, ws, rfl, y1.pool, (N'.ext y1), fun H3 v t y2 dv at_ tn => ?_⟩⟩
      have hA3 := y2.keep _ _ nLl hA2
      have hp3 := y2.keep _ _ pl hp2
      have hN3 := y2.keep _ _ N.ne hN2
      have dp3 := dp2.ext y1.pool y2
      have dA3 := dA2.ext y1.pool y2
      refine ⟨L, av, _, rfl, rfl, hA3, smallL (by omega), pw, ts', args ++ [t], av ++ [v], _, rfl, (x.trans (Ex2.of (y1.trans y2))).upd hL P0, by rw [upd_ne nLp.symm]; exact hp3, dp3.upd hA3, upd_same, ?_, by rw [upd_ne nLn.symm]; exact hN3, by rw [List.length_append, la]; rfl, ?_, ht, ?_, hn2, by omega, fun g g0 => by rw [sum_snoc, g0 t at_]; have := hg g g0; omega⟩
      · rw [List.map_append]
        exact (dA3.append (.cons dv .nil)).upd hA3
      · intro z hz
        rcases List.mem_append.mp hz with h | h
        · exact ha z h
        · rw [List.mem_singleton.mp h]; exact .inr ⟨at_, tn⟩
      · omega
  rintro σ H' ⟨pw, ts', args, av, o, rfl, x, hp, dp, hA, dA, hN, la, ha, ht, hn, hn2, hn3, hg⟩
  have hs' := x.seqT P0 hpa hs
  have la' : args.length = hd.2 := by omega
  have lav : av.length = hd.2 := by rw [dA.lenD, List.length_map]; exact la'
  refine vTx rfl hs' rfl ⟨_, rfl, L, av, rfl, .inl ⟨SqL.of hA, fun p1 hp1 => ⟨small (by show 3 ≤ _; decide), fun p2 hp2 => ?_⟩⟩⟩
  have s1 := (same_new (o := .tup av) hp1)
  have s2 := s1.trans (same_new (o := .tup [.str "node", .str hd.1, .ref p1]) hp2)
  have xx : Ex2 l c pa H (upd (upd H' p1 (.tup av)) p2 (.tup [.str "node", .str hd.1, .ref p1])) := x.trans (Ex2.of ((Ext.refl x.pool).same s2))
  refine q _ _ pw ts' args xx (s2 _ _ hp) (dp.same s2) ?_ la' ha ht ?_ hg
  · unfold Tm.d
    rw [Tm.ds_map]
    exact Dt.mk3 hp2 (.str _) (.str _) (.tup (SqT.of upd_same) (dA.same s1))
  · omega
end
end PK
namespace PK
open PySem L2
/-! sources of translations, as mathematics -/
def seqO {α : Type} : List (Option α) → Option (List α)
  | [] => some []
  | none :: _ => none
  | some a :: r => match seqO r with | some l => some (a :: l) | none => none
theorem seqO_cons {α : Type} (a : α) (r : List (Option α)) : seqO (some a :: r) = match seqO r with | some l => some (a :: l) | none => none := rfl
theorem seqO_iff {α : Type} {l : List (Option α)} : ∀ {xs : List α}, seqO l = some xs ↔ l = xs.map some := by
  induction l with
  | nil =>
    intro xs
    show some [] = some xs ↔ _
    cases xs with
    | nil => exact ⟨fun _ => rfl, fun _ => rfl⟩
    | cons a r => exact ⟨fun h => (nomatch h), fun h => (nomatch h)⟩
  | cons o r ih =>
    intro xs
    cases o with
    | none =>
      show none = some xs ↔ _
      cases xs with
      | nil => exact ⟨fun h => (nomatch h), fun h => (nomatch h)⟩
      | cons a r => exact ⟨fun h => (nomatch h), fun h => by rw [List.map_cons] at h; cases (List.cons.inj h).1⟩
    | some a =>
      rw [seqO_cons]
      constructor
      · intro h
        cases e : seqO r with
        | none => rw [e] at h; cases h
        | some l =>
          rw [e] at h
          have h := Option.some.inj h
          rw [← h, List.map_cons, ih.mp e]
      · intro h
        cases xs with
        | nil => cases h
        | cons b s =>
          rw [List.map_cons] at h
          obtain ⟨h1, h2⟩ := List.cons.inj h
          rw [ih.mpr h2, Option.some.inj h1]
theorem seqO_none {α : Type} : ∀ {l : List (Option α)}, seqO l = none ↔ none ∈ l
  | [] => ⟨fun h => (nomatch h), fun h => (nomatch h)⟩
  | none :: r => ⟨fun _ => List.mem_cons_self, fun _ => rfl⟩
  | some a :: r => by
    show (match seqO r with | some l => some (a :: l) | none => none) = none ↔ _
    have ih := seqO_none (l := r)
    cases e : seqO r with
    | some l =>
      refine ⟨fun h => (nomatch h), fun h => ?_⟩
      rcases List.mem_cons.mp h with h | h
      · cases h
      · rw [ih.mpr h] at e; cases e
    | none => exact ⟨fun _ => List.mem_cons_of_mem _ (ih.mp e), fun _ => rfl⟩
def mchF : Nat → Tm → Tm → Option Tab
  | 0, _, _ => none
  | n + 1, .var s, t => some [(s, t)]
  | n + 1, .node c ps, .node d ts => if d = c then (seqO (List.zipWith (mchF n) ps ts)).map List.flatten else none
  | n + 1, .node _ _, _ => none
  | n + 1, p, t => if PyData.eqv p.d t.d = true then some [] else none
def mch (p t : Tm) : Option Tab := mchF p.ht p t
theorem zipWith_eq {α β γ : Type} {f g : α → β → γ} : ∀ {l : List α} {m : List β}, (∀ x ∈ l, ∀ y, f x y = g x y) → List.zipWith f l m = List.zipWith g l m
  | [], _, _ => by rw [List.zipWith_nil_left, List.zipWith_nil_left]
  | _ :: _, [], _ => by rw [List.zipWith_nil_right, List.zipWith_nil_right]
  | x :: l, y :: m, h => by rw [List.zipWith_cons_cons, List.zipWith_cons_cons, h x List.mem_cons_self y, zipWith_eq fun z hz => h z (List.mem_cons_of_mem _ hz)]
theorem mchF_fuel (p : Tm) : ∀ n m t, p.ht ≤ n → p.ht ≤ m → mchF n p t = mchF m p t := by
  induction p using Tm.ind with
  | h p ih =>
    intro n m t hn hm
    have hp := p.ht_pos
    obtain ⟨n, rfl⟩ : ∃ k, n = k + 1 := ⟨n - 1, by omega⟩
    obtain ⟨m, rfl⟩ : ∃ k, m = k + 1 := ⟨m - 1, by omega⟩
    cases p with
    | node c ps =>
      cases t with
      | node d ts =>
        show (if d = c then _ else _) = (if d = c then _ else _)
        have e : List.zipWith (mchF n) ps ts = List.zipWith (mchF m) ps ts := zipWith_eq fun k hk y => ih k hk n m y (by have := Tm.ht_kid (t := .node c ps) hk; omega) (by have := Tm.ht_kid (t := .node c ps) hk; omega)
        rw [e]
      | _ => rfl
    | _ => rfl
theorem mch_var (s : Str) (t : Tm) : mch (.var s) t = some [(s, t)] := by
  unfold mch
  obtain ⟨k, e⟩ : ∃ k, (Tm.var s).ht = k + 1 := ⟨(Tm.var s).ht - 1, by have := (Tm.var s).ht_pos; omega⟩
  rw [e]; rfl
theorem mch_node (c d : Str) (ps ts : List Tm) : mch (.node c ps) (.node d ts) = if d = c then (seqO (List.zipWith mch ps ts)).map List.flatten else none := by
  obtain ⟨k, e⟩ : ∃ k, (Tm.node c ps).ht = k + 1 := ⟨(Tm.node c ps).ht - 1, by have := (Tm.node c ps).ht_pos; omega⟩
  have : mch (.node c ps) (.node d ts) = if d = c then (seqO (List.zipWith (mchF k) ps ts)).map List.flatten else none := by
    unfold mch
    rw [e]; rfl
  rw [this, zipWith_eq fun x hx y => mchF_fuel x k x.ht y (by have := Tm.ht_kid (t := .node c ps) hx; omega) (Nat.le_refl _)]
  rfl
theorem mch_nn (c : Str) (ps : List Tm) {t : Tm} (h : ∀ d ts, t ≠ .node d ts) : mch (.node c ps) t = none := by
  obtain ⟨k, e⟩ : ∃ k, (Tm.node c ps).ht = k + 1 := ⟨(Tm.node c ps).ht - 1, by have := (Tm.node c ps).ht_pos; omega⟩
  unfold mch
  rw [e]
  cases t with
  | node d ts => exact absurd rfl (h d ts)
  | _ => rfl
theorem mch_atom {p t : Tm} (h : p.atom) : mch p t = if PyData.eqv p.d t.d = true then some [] else none := by
  obtain ⟨k, e⟩ : ∃ k, p.ht = k + 1 := ⟨p.ht - 1, by have := p.ht_pos; omega⟩
  unfold mch
  rw [e]
  cases p <;> first | exact h.elim | rfl
/-! which data are alike -/
theorem eqv_str {x y : Str} : PyData.eqv (.str x) (.str y) = true ↔ x = y := by
  show (x == y) = true ↔ _
  exact beq_iff_eq
theorem eqv_int {x y : Int} : PyData.eqv (.int x) (.int y) = true ↔ x = y := by
  show (x == y) = true ↔ _
  exact beq_iff_eq
theorem eqvAll_cons {x y : PyData} {xs ys : List PyData} : PyData.eqvAll (x :: xs) (y :: ys) = true ↔ PyData.eqv x y = true ∧ PyData.eqvAll xs ys = true := by
  show (PyData.eqv x y && PyData.eqvAll xs ys) = true ↔ _
  rw [Bool.and_eq_true]
theorem atom_self {p : Tm} (h : p.atom) : PyData.eqv p.d p.d = true := by
  cases p <;> first | exact h.elim | skip
  all_goals
    unfold Tm.d
    show PyData.eqvAll _ _ = true
    exact eqvAll_cons.mpr ⟨eqv_str.mpr rfl, eqvAll_cons.mpr ⟨by first | exact eqv_int.mpr rfl | exact eqv_str.mpr rfl, rfl⟩⟩
theorem atom_eq {p t : Tm} (hp : p.atom) (ht : ∀ f ts, t ≠ .form f ts) (h : PyData.eqv p.d t.d = true) : t = p := by
  have no : ∀ (a b : Str) (xs ys : List PyData), a ≠ b → ¬ PyData.eqv (.tuple (.str a :: xs)) (.tuple (.str b :: ys)) = true := fun a b xs ys h z => by
    have z : PyData.eqvAll (.str a :: xs) (.str b :: ys) = true := z
    exact h (eqv_str.mp (eqvAll_cons.mp z).1)
  have two : ∀ (a : Str) (x y : PyData), PyData.eqv (.tuple [.str a, x]) (.tuple [.str a, y]) = true → PyData.eqv x y = true := fun a x y h => by
    have h : PyData.eqvAll [.str a, x] [.str a, y] = true := h
    exact (eqvAll_cons.mp (eqvAll_cons.mp h).2).1
  cases p <;> first | exact hp.elim | skip
  all_goals
    unfold Tm.d at h
    cases t <;> first | exact absurd rfl (ht _ _) | skip
    all_goals first
      | (rw [eqv_int.mp (two _ _ _ h)])
      | (rw [eqv_str.mp (two _ _ _ h)])
      | exact absurd h (no _ _ _ _ (by decide +kernel))
/-! matching and filling -/
def TpN (ps : List Str) (t : Tm) : Prop := (∀ s, t = .var s → s ∈ ps) ∧ (∀ f ts, t ≠ .form f ts) ∧ ∀ es, t ≠ .map es
theorem zip_mem {α β γ : Type} {f : α → β → γ} : ∀ {l : List α} {m : List β} {z : γ}, z ∈ List.zipWith f l m → ∃ x y, x ∈ l ∧ y ∈ m ∧ z = f x y
  | [], _, _, h => by rw [List.zipWith_nil_left] at h; cases h
  | _ :: _, [], _, h => by rw [List.zipWith_nil_right] at h; cases h
  | x :: l, y :: m, z, h => by
    rw [List.zipWith_cons_cons] at h
    rcases List.mem_cons.mp h with h | h
    · exact ⟨x, y, List.mem_cons_self, List.mem_cons_self, h⟩
    · obtain ⟨a, b, h1, h2, h3⟩ := zip_mem h
      exact ⟨a, b, List.mem_cons_of_mem _ h1, List.mem_cons_of_mem _ h2, h3⟩
/-- of a node's match: the rows of its parts -/
theorem mch_node_some {c d : Str} {ps ts : List Tm} {tab : Tab} (h : mch (.node c ps) (.node d ts) = some tab) : d = c ∧ ∃ l : List Tab, List.zipWith mch ps ts = l.map some ∧ tab = l.flatten := by
  rw [mch_node] at h
  by_cases e : d = c
  · rw [if_pos e] at h
    cases e2 : seqO (List.zipWith mch ps ts) with
    | none => rw [e2] at h; cases h
    | some l =>
      rw [e2] at h
      exact ⟨e, l, seqO_iff.mp e2, (Option.some.inj h).symm⟩
  · rw [if_neg e] at h; cases h
theorem zip_some {f : Tm → Tm → Option Tab} : ∀ {ps ts : List Tm} {l : List Tab}, List.zipWith f ps ts = l.map some → ps.length = ts.length → ∀ i (hi : i < ps.length) (hj : i < ts.length), ∃ tab, tab ∈ l ∧ f ps[i] ts[i] = some tab
  | p :: ps, t :: ts, l, h, hl, i, hi, hj => by
    cases l with
    | nil => rw [List.zipWith_cons_cons] at h; cases h
    | cons a l =>
      rw [List.zipWith_cons_cons, List.map_cons] at h
      obtain ⟨h1, h2⟩ := List.cons.inj h
      cases i with
      | zero => exact ⟨a, List.mem_cons_self, h1⟩
      | succ i =>
        obtain ⟨tab, m, e⟩ := zip_some h2 (Nat.succ.inj hl) i (Nat.lt_of_succ_lt_succ hi) (Nat.lt_of_succ_lt_succ hj)
        exact ⟨tab, List.mem_cons_of_mem _ m, e⟩
theorem mch_fill {hs : Hds} (ok : HdOk hs) {ps qs : List Str} {B : Tab} {p : Tm} (hp : TT hs ps p) (hpm : ∀ es, p ≠ .map es) (hm : Al (fun t => ∀ es, t ≠ .map es) p) : ∀ {t : Tm} {tab : Tab}, TT hs qs t → mch p t = some tab → (∀ q ∈ tab, lookA B q.1 = some q.2) → p.fill B = t := by
  induction p using Tm.ind with
  | h p ih =>
    intro t tab ht h hB
    have at_ : p.atom → p.fill B = t := fun ha => by
      rw [mch_atom ha] at h
      split at h
      · rename_i e
        have := atom_eq ha (fun f ts e2 => by rw [e2] at ht; exact ht.at_.elim) e
        rw [this, Tm.fill_eq]
        cases p <;> first | exact ha.elim | rfl
      · cases h
    cases p with
    | var s =>
      rw [mch_var] at h
      cases h
      have := hB (s, t) (List.mem_singleton.mpr rfl)
      rw [Tm.fill_eq]
      show (lookA B s).getD (.var s) = t
      rw [this]; rfl
    | node c ks =>
      by_cases hnd : ∃ d ts, t = .node d ts
      · obtain ⟨d, ts, rfl⟩ := hnd
        obtain ⟨rfl, l, hl, rfl⟩ := mch_node_some h
        have ln : ks.length = ts.length := hd_one ok hp.at_.1 ht.at_.1
        rw [Tm.fill_eq]
        show Tm.node d (ks.map (Tm.fill B)) = .node d ts
        refine congrArg (Tm.node d) (List.ext_getElem (by rw [List.length_map]; exact ln) fun i h1 h2 => ?_)
        rw [List.length_map] at h1
        rw [List.getElem_map]
        obtain ⟨tab, m, e⟩ := zip_some hl ln i h1 h2
        have hk : ks[i] ∈ (Tm.node d ks).kids := List.getElem_mem h1
        exact ih _ hk (hp.kid hk) ((hm.kid hk).at_) (hm.kid hk) (ht.kid (show ts[i] ∈ (Tm.node d ts).kids from List.getElem_mem h2)) e fun q hq => hB q (List.mem_flatten.mpr ⟨tab, m, hq⟩)
      · rw [mch_nn c ks (fun d ts e => hnd ⟨d, ts, e⟩)] at h; cases h
    | map es => exact absurd rfl (hpm es)
    | form f ts => exact hp.at_.elim
    | int _ => exact at_ trivial
    | name _ => exact at_ trivial
    | addr _ => exact at_ trivial
end PK
namespace PK
open PySem L2
/-! matching: words, parts; the first source -/
theorem mem_parts {t k : Tm} (h : k ∈ t.kids) {x : Tm} (hx : x ∈ k.parts) : x ∈ t.parts := by
  rw [Tm.parts_eq t]
  exact List.mem_cons_of_mem _ (List.mem_flatten.mpr ⟨_, List.mem_map.mpr ⟨k, h, rfl⟩, hx⟩)
theorem self_parts (t : Tm) : t ∈ t.parts := by rw [Tm.parts_eq]; exact List.mem_cons_self
theorem parts_trans {t : Tm} : ∀ {k : Tm}, k ∈ t.parts → ∀ {x : Tm}, x ∈ k.parts → x ∈ t.parts := by
  induction t using Tm.ind with
  | h t ih =>
    intro k hk x hx
    rw [Tm.parts_eq] at hk
    rcases List.mem_cons.mp hk with rfl | hk
    · exact hx
    · obtain ⟨l, hl, hkl⟩ := List.mem_flatten.mp hk
      obtain ⟨z, hz, rfl⟩ := List.mem_map.mp hl
      exact mem_parts hz (ih z hz hkl hx)
theorem parts_ht {t : Tm} : ∀ {x : Tm}, x ∈ t.parts → x.ht ≤ t.ht := by
  induction t using Tm.ind with
  | h t ih =>
    intro x hx
    rw [Tm.parts_eq] at hx
    rcases List.mem_cons.mp hx with rfl | hx
    · exact Nat.le_refl _
    · obtain ⟨l, hl, hkl⟩ := List.mem_flatten.mp hx
      obtain ⟨z, hz, rfl⟩ := List.mem_map.mp hl
      have := ih z hz hkl
      have := Tm.ht_kid hz
      omega
theorem al_parts {p : Tm → Prop} {t : Tm} : ∀ {x : Tm}, Al p t → x ∈ t.parts → Al p x := by
  induction t using Tm.ind with
  | h t ih =>
    intro x h hx
    rw [Tm.parts_eq] at hx
    rcases List.mem_cons.mp hx with rfl | hx
    · exact h
    · obtain ⟨l, hl, hkl⟩ := List.mem_flatten.mp hx
      obtain ⟨z, hz, rfl⟩ := List.mem_map.mp hl
      exact ih z hz (h.kid hz) hkl
/-- what a pattern's words stand for are parts -/
theorem mch_sub {p : Tm} : ∀ {t : Tm} {tab : Tab}, mch p t = some tab → ∀ q ∈ tab, q.2 ∈ t.parts := by
  induction p using Tm.ind with
  | h p ih =>
    intro t tab h q hq
    have at_ : p.atom → q.2 ∈ t.parts := fun ha => by
      rw [mch_atom ha] at h
      split at h
      · cases h; cases hq
      · cases h
    cases p with
    | var s =>
      rw [mch_var] at h
      cases h
      rw [List.mem_singleton.mp hq]
      exact self_parts t
    | node c ks =>
      by_cases hnd : ∃ d ts, t = .node d ts
      · obtain ⟨d, ts, rfl⟩ := hnd
        obtain ⟨rfl, l, hl, rfl⟩ := mch_node_some h
        obtain ⟨tb, htb, hqt⟩ := List.mem_flatten.mp hq
        have : some tb ∈ List.zipWith mch ks ts := by rw [hl]; exact List.mem_map.mpr ⟨tb, htb, rfl⟩
        obtain ⟨x, y, hx, hy, e⟩ := zip_mem this
        exact mem_parts (t := .node d ts) (show y ∈ (Tm.node d ts).kids from hy) (ih x hx e.symm q hqt)
      · rw [mch_nn c ks (fun d ts e => hnd ⟨d, ts, e⟩)] at h; cases h
    | map es =>
      obtain ⟨k, e⟩ : ∃ k, (Tm.map es).ht = k + 1 := ⟨(Tm.map es).ht - 1, by have := (Tm.map es).ht_pos; omega⟩
      unfold mch at h
      rw [e] at h
      have h : (if PyData.eqv (Tm.map es).d t.d = true then some [] else none) = some tab := h
      split at h
      · cases h; cases hq
      · cases h
    | form f ts =>
      obtain ⟨k, e⟩ : ∃ k, (Tm.form f ts).ht = k + 1 := ⟨(Tm.form f ts).ht - 1, by have := (Tm.form f ts).ht_pos; omega⟩
      unfold mch at h
      rw [e] at h
      have h : (if PyData.eqv (Tm.form f ts).d t.d = true then some [] else none) = some tab := h
      split at h
      · cases h; cases hq
      · cases h
    | int _ => exact at_ trivial
    | name _ => exact at_ trivial
    | addr _ => exact at_ trivial
theorem mch_sub2 {c : Str} {ps : List Tm} {t : Tm} {tab : Tab} (h : mch (.node c ps) t = some tab) : ∀ q ∈ tab, q.2.ht < t.ht := fun q hq => by
  by_cases hnd : ∃ d ts, t = .node d ts
  · obtain ⟨d, ts, rfl⟩ := hnd
    obtain ⟨rfl, l, hl, rfl⟩ := mch_node_some h
    obtain ⟨tb, htb, hqt⟩ := List.mem_flatten.mp hq
    have : some tb ∈ List.zipWith mch ps ts := by rw [hl]; exact List.mem_map.mpr ⟨tb, htb, rfl⟩
    obtain ⟨x, y, hx, hy, e⟩ := zip_mem this
    have h1 := parts_ht (mch_sub e.symm q hqt)
    have h2 := Tm.ht_kid (t := .node d ts) (show y ∈ (Tm.node d ts).kids from hy)
    omega
  · rw [mch_nn c ps (fun d ts e => hnd ⟨d, ts, e⟩)] at h; cases h
/-- a template: a node, no maps, its words just once each -/
structure TplOk (hs : Hds) (ps : List Str) (t : Tm) : Prop where
  tt : TT hs ps t
  nm : Al (fun t => ∀ es, t ≠ .map es) t
  nd : ∃ c ts, t = .node c ts
  once : ∀ s, t.tot (fO s) = ps.count s
  one : ps.Nodup
  wd : ∀ s ∈ ps, Wd s
theorem cnt_flat (s : Str) : ∀ l : List Tab, (l.flatten.map Prod.fst).count s = (l.map fun t => (t.map Prod.fst).count s).sum
  | [] => rfl
  | a :: l => by rw [List.flatten_cons, List.map_append, List.count_append, List.map_cons, List.sum_cons, cnt_flat s l]
theorem zip_sum {f : Tm → Tm → Option Tab} {g : Tm → Nat} {k : Tab → Nat} : ∀ {ps ts : List Tm} {l : List Tab}, List.zipWith f ps ts = l.map some → ps.length = ts.length → (∀ x ∈ ps, ∀ y tab, f x y = some tab → y ∈ ts → k tab = g x) → (l.map k).sum = (ps.map g).sum
  | [], _, l, h, _, _ => by
    rw [List.zipWith_nil_left] at h
    cases l with
    | nil => rfl
    | cons a l => cases h
  | p :: ps, [], _, _, hl, _ => nomatch hl
  | p :: ps, t :: ts, l, h, hl, hk => by
    cases l with
    | nil => cases h
    | cons a l =>
      rw [List.zipWith_cons_cons, List.map_cons] at h
      obtain ⟨h1, h2⟩ := List.cons.inj h
      rw [List.map_cons, List.map_cons, List.sum_cons, List.sum_cons, hk p List.mem_cons_self t a h1 List.mem_cons_self, zip_sum h2 (Nat.succ.inj hl) fun x hx y tab e hy => hk x (List.mem_cons_of_mem _ hx) y tab e (List.mem_cons_of_mem _ hy)]
theorem mch_count {hs : Hds} (ok : HdOk hs) {ps qs : List Str} (s : Str) {p : Tm} (hp : TT hs ps p) (hm : Al (fun t => ∀ es, t ≠ .map es) p) : ∀ {t : Tm} {tab : Tab}, TT hs qs t → mch p t = some tab → (tab.map Prod.fst).count s = p.tot (fO s) := by
  induction p using Tm.ind with
  | h p ih =>
    intro t tab ht h
    have at_ : p.atom → (tab.map Prod.fst).count s = p.tot (fO s) := fun ha => by
      rw [atom_fO s ha]
      rw [mch_atom ha] at h
      split at h
      · cases h; rfl
      · cases h
    cases p with
    | var u =>
      rw [mch_var] at h
      cases h
      rw [Tm.tot_eq]
      show List.count s [u] = (if u = s then 1 else 0) + 0
      rw [List.count_singleton]
      by_cases e : u = s <;> simp [e]
    | node c ks =>
      by_cases hnd : ∃ d ts, t = .node d ts
      · obtain ⟨d, ts, rfl⟩ := hnd
        obtain ⟨rfl, l, hl, rfl⟩ := mch_node_some h
        have ln : ks.length = ts.length := hd_one ok hp.at_.1 ht.at_.1
        rw [cnt_flat, Tm.tot_eq]
        show _ = 0 + (ks.map (Tm.tot (fO s))).sum
        rw [Nat.zero_add]
        refine zip_sum hl ln fun x hx y tab e hy => ?_
        have hk : x ∈ (Tm.node d ks).kids := hx
        exact ih x hk (hp.kid hk) (hm.kid hk) (ht.kid (show y ∈ (Tm.node d ts).kids from hy)) e
      · rw [mch_nn c ks (fun d ts e => hnd ⟨d, ts, e⟩)] at h; cases h
    | map es => exact absurd rfl (hm.at_ es)
    | form f ts => exact hp.at_.elim
    | int _ => exact at_ trivial
    | name _ => exact at_ trivial
    | addr _ => exact at_ trivial
theorem look_count : ∀ {tab : Tab} {s : Str} {x : Tm}, (tab.map Prod.fst).count s ≤ 1 → (s, x) ∈ tab → lookA tab s = some x
  | (u, y) :: r, s, x, hc, hm => by
    rw [List.map_cons, List.count_cons] at hc
    unfold lookA
    rcases List.mem_cons.mp hm with e | h
    · have e1 : s = u := (Prod.mk.inj e).1
      have e3 : x = y := (Prod.mk.inj e).2
      subst e1 e3
      rw [if_pos (by simp)] at hc
      cases e2 : lookA r s with
      | none => simp
      | some z =>
        have : s ∈ r.map Prod.fst := List.mem_map.mpr ⟨_, lookA_mem e2, rfl⟩
        have := List.count_pos_iff.mpr this
        omega
    · rw [look_count (by omega) h]
theorem TplOk.keys {hs : Hds} (ok : HdOk hs) {ps qs : List Str} {p t : Tm} {tab : Tab} (h : TplOk hs ps p) (ht : TT hs qs t) (e : mch p t = some tab) : (∀ q ∈ tab, lookA tab q.1 = some q.2) ∧ (∀ s ∈ ps, ∃ x, lookA tab s = some x) ∧ ∀ q ∈ tab, q.1 ∈ ps := by
  have hc : ∀ s, (tab.map Prod.fst).count s = ps.count s := fun s => (mch_count ok s h.tt h.nm ht e).trans (h.once s)
  refine ⟨fun q hq => look_count (by rw [hc]; exact List.nodup_iff_count.mp h.one q.1) hq, fun s hs => lookA_has (List.count_pos_iff.mp (by rw [hc]; exact List.count_pos_iff.mpr hs)), fun q hq => ?_⟩
  have : q.1 ∈ tab.map Prod.fst := List.mem_map.mpr ⟨q, hq, rfl⟩
  exact List.count_pos_iff.mp (by rw [← hc]; exact List.count_pos_iff.mpr this)
theorem eqvAll_self {d : PyData} {l : List PyData} (h : PyData.eqv d d = true) (hl : PyData.eqvAll l l = true) : PyData.eqvAll (d :: l) (d :: l) = true := eqvAll_cons.mpr ⟨h, hl⟩
/-- a filled template matches -/
theorem fill_mch {hs : Hds} {ps : List Str} {B : Tab} (hB : ∀ s ∈ ps, ∃ x, lookA B s = some x) {p : Tm} (hp : TT hs ps p) (hm : Al (fun t => ∀ es, t ≠ .map es) p) : ∃ tab, mch p (p.fill B) = some tab ∧ ∀ q ∈ tab, lookA B q.1 = some q.2 := by
  induction p using Tm.ind with
  | h p ih =>
    have at_ : p.atom → p.fill B = p → ∃ tab, mch p (p.fill B) = some tab ∧ ∀ q ∈ tab, lookA B q.1 = some q.2 := fun ha e => by
      rw [e]
      exact ⟨[], by rw [mch_atom ha, if_pos (atom_self ha)], fun q hq => nomatch hq⟩
    cases p with
    | var s =>
      obtain ⟨x, e⟩ := hB s hp.at_.1
      have ef : (Tm.var s).fill B = x := by
        rw [Tm.fill_eq]
        show (lookA B s).getD (.var s) = x
        rw [e]; rfl
      rw [ef, mch_var]
      exact ⟨_, rfl, fun q hq => by rw [List.mem_singleton.mp hq]; exact e⟩
    | node c ks =>
      have ef : (Tm.node c ks).fill B = .node c (ks.map (Tm.fill B)) := by rw [Tm.fill_eq]; rfl
      rw [ef]
      have : ∀ ks' : List Tm, (∀ k ∈ ks', ∃ tab, mch k (k.fill B) = some tab ∧ ∀ q ∈ tab, lookA B q.1 = some q.2) → ∃ l : List Tab, List.zipWith mch ks' (ks'.map (Tm.fill B)) = l.map some ∧ ∀ q ∈ l.flatten, lookA B q.1 = some q.2 := fun ks' => by
        induction ks' with
        | nil => intro _; exact ⟨[], rfl, fun q hq => nomatch hq⟩
        | cons k r ihr =>
          intro h
          obtain ⟨l, e, hl⟩ := ihr fun k hk => h k (List.mem_cons_of_mem _ hk)
          obtain ⟨tab, e2, h2⟩ := h k List.mem_cons_self
          refine ⟨tab :: l, by rw [List.map_cons, List.zipWith_cons_cons, e, e2, List.map_cons], fun q hq => ?_⟩
          rw [List.flatten_cons] at hq
          exact (List.mem_append.mp hq).elim (h2 q) (hl q)
      obtain ⟨l, e, hl⟩ := this ks fun k hk => ih k hk (hp.kid (show k ∈ (Tm.node c ks).kids from hk)) (hm.kid (show k ∈ (Tm.node c ks).kids from hk))
      exact ⟨l.flatten, by rw [mch_node, if_pos rfl, seqO_iff.mpr e]; rfl, hl⟩
    | map es => exact absurd rfl (hm.at_ es)
    | form f ts => exact hp.at_.elim
    | int _ => exact at_ trivial (by rw [Tm.fill_eq]; rfl)
    | name _ => exact at_ trivial (by rw [Tm.fill_eq]; rfl)
    | addr _ => exact at_ trivial (by rw [Tm.fill_eq]; rfl)
/-! the first source -/
def bnd (S : Tm → Option Tm) (tab : Tab) (ps : List Str) : Option (List Tm) := seqO (ps.map fun p => (lookA tab p).bind S)
def try1 (S : Tm → Option Tm) (t : Tm) (r : Rw) : Option Tm := (mch r.t t).bind fun tab => (bnd S tab r.ps).map (Tm.node r.nm)
def stepS (R : List Rw) (S : Tm → Option Tm) : Tm → Option Tm
  | .node c ts => R.findSome? (try1 S (.node c ts))
  | .map es => (seqO (es.map fun e => S e.2)).map fun ks => .map (List.zipWith (fun e k => (e.1, k)) es ks)
  | t => some t
def srcF (R : List Rw) : Nat → Tm → Option Tm
  | 0 => fun _ => none
  | n + 1 => stepS R (srcF R n)
def src (R : List Rw) (t : Tm) : Option Tm := srcF R t.ht t
def RowsOk (hs : Hds) (R : List Rw) : Prop := (R.map Rw.nm).Nodup ∧ ∀ r ∈ R, TplOk hs r.ps r.t
theorem find_congr {α β : Type} {f g : α → Option β} : ∀ {l : List α}, (∀ x ∈ l, f x = g x) → l.findSome? f = l.findSome? g
  | [], _ => rfl
  | x :: l, h => by
    rw [List.findSome?_cons, List.findSome?_cons, h x List.mem_cons_self, find_congr fun y hy => h y (List.mem_cons_of_mem _ hy)]
theorem try1_congr {S S' : Tm → Option Tm} {t : Tm} {r : Rw} (hn : ∃ c ts, r.t = .node c ts) (h : ∀ x : Tm, x ∈ t.parts → x.ht < t.ht → S x = S' x) : try1 S t r = try1 S' t r := by
  unfold try1
  cases e : mch r.t t with
  | none => rfl
  | some tab =>
    show (bnd S tab r.ps).map _ = (bnd S' tab r.ps).map _
    unfold bnd
    have : r.ps.map (fun p => (lookA tab p).bind S) = r.ps.map (fun p => (lookA tab p).bind S') := List.map_congr_left fun p _ => by
      cases e2 : lookA tab p with
      | none => rfl
      | some x =>
        obtain ⟨c, ts, ec⟩ := hn
        have e3 := e
        rw [ec] at e3
        exact h x (mch_sub e _ (lookA_mem e2)) (mch_sub2 e3 _ (lookA_mem e2))
    rw [this]
theorem stepS_congr {hs : Hds} {R : List Rw} (ok : RowsOk hs R) {S S' : Tm → Option Tm} {t : Tm} (h : ∀ x : Tm, x ∈ t.parts → x.ht < t.ht → S x = S' x) : stepS R S t = stepS R S' t := by
  cases t with
  | node c ts => exact find_congr fun r hr => try1_congr (ok.2 r hr).nd h
  | map es =>
    show (seqO _).map _ = (seqO _).map _
    have : (es.map fun e => S e.2) = es.map fun e => S' e.2 := List.map_congr_left fun e he => by
      have hk : e.2 ∈ (Tm.map es).kids := List.mem_map.mpr ⟨e, he, rfl⟩
      exact h _ (mem_parts hk (self_parts _)) (by have := Tm.ht_kid hk; omega)
    rw [this]
  | _ => rfl
theorem srcF_fuel {hs : Hds} {R : List Rw} (ok : RowsOk hs R) : ∀ n m t, t.ht ≤ n → t.ht ≤ m → srcF R n t = srcF R m t := by
  intro n
  induction n with
  | zero => intro m t h; have := t.ht_pos; omega
  | succ n ih =>
    intro m t hn hm
    have := t.ht_pos
    obtain ⟨m, rfl⟩ : ∃ k, m = k + 1 := ⟨m - 1, by omega⟩
    exact stepS_congr ok fun x _ hx => ih m x (by omega) (by omega)
theorem src_eq {hs : Hds} {R : List Rw} (ok : RowsOk hs R) (t : Tm) : src R t = stepS R (src R) t := by
  unfold src
  obtain ⟨k, e⟩ : ∃ k, t.ht = k + 1 := ⟨t.ht - 1, by have := t.ht_pos; omega⟩
  rw [e]
  exact stepS_congr ok fun x _ hx => srcF_fuel ok k x.ht x (by omega) (Nat.le_refl _)
end PK
namespace PK
open PySem L2
/-! a first source translates back; a translation has a source -/
theorem trans_map (R : List Rw) (es : List (Str × Tm)) : (Tm.map es).trans R = .map (es.map fun e => (e.1, e.2.trans R)) := by
  rw [Tm.trans_eq]
  show Tm.map (List.zipWith (fun (e : Str × Tm) (k : Tm) => (e.1, k)) es ((es.map Prod.snd).map (Tm.trans R))) = _
  refine congrArg Tm.map ?_
  induction es with
  | nil => rfl
  | cons e es ih => rw [List.map_cons, List.map_cons, List.zipWith_cons_cons, ih, List.map_cons]
theorem trans_node {R : List Rw} {c : Str} {r : Rw} (h : rowOf R c = some r) (ts : List Tm) : (Tm.node c ts).trans R = r.t.fill (r.ps.zip (ts.map (Tm.trans R))) := by
  rw [Tm.trans_eq]
  unfold Tm.trK
  dsimp only
  rw [h]; rfl
def rHds (R : List Rw) : Hds := R.map fun r => (r.nm, r.ps.length)
theorem map_some_get {α : Type} {f : Str → Option α} : ∀ {ps : List Str} {xs : List α}, ps.map f = xs.map some → ps.length = xs.length ∧ ∀ i (hi : i < ps.length) (hj : i < xs.length), f ps[i] = some xs[i]
  | [], [], _ => ⟨rfl, fun i hi => nomatch hi⟩
  | [], _ :: _, h => nomatch h
  | _ :: _, [], h => nomatch h
  | p :: ps, x :: xs, h => by
    rw [List.map_cons, List.map_cons] at h
    obtain ⟨h1, h2⟩ := List.cons.inj h
    obtain ⟨l, g⟩ := map_some_get h2
    refine ⟨by rw [List.length_cons, List.length_cons, l], fun i hi hj => ?_⟩
    cases i with
    | zero => exact h1
    | succ i => exact g i (Nat.lt_of_succ_lt_succ hi) (Nat.lt_of_succ_lt_succ hj)
theorem lookA_hit {k s : Str} {v x : Tm} {r : Tab} (h : lookA r s = some x) : lookA ((k, v) :: r) s = some x := by
  unfold lookA
  rw [h]
theorem lookA_new {k : Str} {v : Tm} {r : Tab} (h : lookA r k = none) : lookA ((k, v) :: r) k = some v := by
  unfold lookA
  rw [h]
  simp
theorem look_zipN : ∀ {ps : List Str} {xs : List Tm} {i : Nat} (hi : i < ps.length) (hj : i < xs.length), ps.Nodup → lookA (ps.zip xs) ps[i] = some xs[i]
  | p :: ps, x :: xs, 0, hi, hj, hn => by
    obtain ⟨h1, h2⟩ := List.nodup_cons.mp hn
    have : lookA (ps.zip xs) p = none := by
      cases e : lookA (ps.zip xs) p with
      | none => rfl
      | some z => exact absurd (List.of_mem_zip (lookA_mem e)).1 h1
    exact lookA_new this
  | p :: ps, x :: xs, i + 1, hi, hj, hn => lookA_hit (look_zipN (ps := ps) (xs := xs) (i := i) (Nat.lt_of_succ_lt_succ hi) (Nat.lt_of_succ_lt_succ hj) (List.nodup_cons.mp hn).2)
theorem look_zip_inv : ∀ {ps : List Str} {xs : List Tm} {s : Str} {x : Tm}, lookA (ps.zip xs) s = some x → ∃ i, ∃ (hi : i < ps.length) (hj : i < xs.length), ps[i] = s ∧ xs[i] = x := fun {ps xs s x} h => by
  obtain ⟨i, hi, e⟩ := List.getElem_of_mem (lookA_mem h)
  rw [List.length_zip] at hi
  rw [List.getElem_zip] at e
  exact ⟨i, by omega, by omega, (Prod.mk.inj e).1, (Prod.mk.inj e).2⟩
/-- what stands for the words are the parts with sources -/
theorem bnd_some {S : Tm → Option Tm} {tab : Tab} {ps : List Str} {ss : List Tm} (h : bnd S tab ps = some ss) : ps.length = ss.length ∧ ∀ i (hi : i < ps.length) (hj : i < ss.length), ∃ x, lookA tab ps[i] = some x ∧ S x = some ss[i] := by
  obtain ⟨l, g⟩ := map_some_get (seqO_iff.mp h)
  refine ⟨l, fun i hi hj => ?_⟩
  have := g i hi hj
  cases e : lookA tab ps[i] with
  | none => rw [e] at this; cases this
  | some x => rw [e] at this; exact ⟨x, rfl, this⟩
theorem ents_some {es : List (Str × Tm)} {S : Tm → Option Tm} {ks : List Tm} (h : seqO (es.map fun e => S e.2) = some ks) : es.length = ks.length ∧ ∀ i (hi : i < es.length) (hj : i < ks.length), S es[i].2 = some ks[i] := by
  have h := seqO_iff.mp h
  have l : es.length = ks.length := by have := congrArg List.length h; rw [List.length_map, List.length_map] at this; exact this
  refine ⟨l, fun i hi hj => ?_⟩
  have := congrArg (·[i]?) h
  simp only [List.getElem?_map, List.getElem?_eq_getElem hi, List.getElem?_eq_getElem hj, Option.map_some] at this
  exact Option.some.inj this
theorem TT.mono {hs hs' : Hds} {ps : List Str} (h : ∀ x ∈ hs, x ∈ hs') {t : Tm} (a : TT hs ps t) : TT hs' ps t := by
  induction t using Tm.ind with
  | h t ih =>
    refine .mk ?_ fun k hk => ih k hk (a.kid hk)
    have := a.at_
    cases t with
    | node c ts => exact ⟨h _ this.1, this.2⟩
    | _ => exact this
theorem src_back {hs : Hds} (hok : HdOk hs) {R : List Rw} (ok : RowsOk hs R) (rok : HdOk (rHds R)) : ∀ n (t s : Tm), t.ht ≤ n → TT hs [] t → src R t = some s → s.trans R = t ∧ s.ht ≤ t.ht ∧ TT (rHds R) [] s := by
  intro n
  induction n with
  | zero => intro t s h; have := t.ht_pos; omega
  | succ n ih =>
    intro t s hn ht hsrc
    rw [src_eq ok] at hsrc
    cases t with
    | node c ts =>
      obtain ⟨r, hr, e⟩ := List.exists_of_findSome?_eq_some hsrc
      unfold try1 at e
      cases em : mch r.t (.node c ts) with
      | none => rw [em] at e; cases e
      | some tab =>
        rw [em] at e
        have e : (bnd (src R) tab r.ps).map (Tm.node r.nm) = some s := e
        cases eb : bnd (src R) tab r.ps with
        | none => rw [eb] at e; cases e
        | some ss =>
          rw [eb] at e
          cases e
          have T := ok.2 r hr
          obtain ⟨k1, k2, k3⟩ := T.keys hok ht em
          obtain ⟨lss, gss⟩ := bnd_some eb
          obtain ⟨cn, tn, en⟩ := T.nd
          have em2 := em
          rw [en] at em2
          have back : ∀ i (hi : i < r.ps.length) (hj : i < ss.length), ∃ x, lookA tab r.ps[i] = some x ∧ ss[i].trans R = x ∧ ss[i].ht < (Tm.node c ts).ht ∧ TT (rHds R) [] ss[i] := fun i hi hj => by
            obtain ⟨x, h1, h2⟩ := gss i hi hj
            have hx := lookA_mem h1
            have hlt : x.ht < (Tm.node c ts).ht := mch_sub2 em2 _ hx
            obtain ⟨b1, b2, b3⟩ := ih x ss[i] (by omega) (al_parts ht (mch_sub em _ hx)) h2
            exact ⟨x, h1, b1, by omega, b3⟩
          refine ⟨?_, ?_, ?_⟩
          · rw [trans_node (rowOf_mem ok.1 hr)]
            refine mch_fill hok T.tt (fun es e => by rw [en] at e; cases e) T.nm ht em fun q hq => ?_
            obtain ⟨i, hi, ei⟩ := List.getElem_of_mem (k3 q hq)
            obtain ⟨x, h1, h2, _, _⟩ := back i hi (by omega)
            have h3 := look_zipN (ps := r.ps) (xs := ss.map (Tm.trans R)) hi (by rw [List.length_map]; omega) T.one
            rw [List.getElem_map, h2] at h3
            have h4 := k1 q hq
            rw [← ei, h1] at h4
            rw [← ei, h3]
            exact h4
          · exact Nat.le_trans (Tm.ht_le (n := (Tm.node c ts).ht - 1) fun k hk => by
              obtain ⟨i, hi, ei⟩ := List.getElem_of_mem (show k ∈ ss from hk)
              obtain ⟨x, h1, h2, h3, _⟩ := back i (by omega) hi
              rw [ei] at h3
              omega) (by have := (Tm.node c ts).ht_pos; omega)
          · have hm : (r.nm, ss.length) ∈ rHds R := List.mem_map.mpr ⟨r, hr, by rw [lss]⟩
            refine .mk ⟨hm, rok.wd _ hm, rok.ar _ hm⟩ fun k hk => ?_
            obtain ⟨i, hi, ei⟩ := List.getElem_of_mem (show k ∈ ss from hk)
            obtain ⟨x, h1, h2, h3, h4⟩ := back i (by omega) hi
            rw [ei] at h4
            exact h4
    | map es =>
      have e : (seqO (es.map fun e => src R e.2)).map (fun ks => Tm.map (List.zipWith (fun e k => (e.1, k)) es ks)) = some s := hsrc
      cases e2 : seqO (es.map fun e => src R e.2) with
      | none => rw [e2] at e; cases e
      | some ks =>
        rw [e2] at e
        cases e
        obtain ⟨l, g⟩ := ents_some e2
        have back : ∀ i (hi : i < es.length) (hj : i < ks.length), ks[i].trans R = es[i].2 ∧ ks[i].ht < (Tm.map es).ht ∧ TT (rHds R) [] ks[i] := fun i hi hj => by
          have hk : es[i].2 ∈ (Tm.map es).kids := List.mem_map.mpr ⟨es[i], List.getElem_mem hi, rfl⟩
          have := Tm.ht_kid hk
          obtain ⟨b1, b2, b3⟩ := ih _ _ (by omega) (ht.kid hk) (g i hi hj)
          exact ⟨b1, by omega, b3⟩
        refine ⟨?_, ?_, ?_⟩
        · rw [trans_map]
          refine congrArg Tm.map (List.ext_getElem (by rw [List.length_map, List.length_zipWith]; omega) fun i h1 h2 => ?_)
          rw [List.length_map, List.length_zipWith] at h1
          rw [List.getElem_map, List.getElem_zipWith]
          show (es[i].1, ks[i].trans R) = _
          rw [(back i h2 (by omega)).1]
        · exact Nat.le_trans (Tm.ht_le (n := (Tm.map es).ht - 1) fun k hk => by
            obtain ⟨e', he', rfl⟩ := List.mem_map.mp (show k ∈ (List.zipWith (fun (e : Str × Tm) (k : Tm) => (e.1, k)) es ks).map Prod.snd from hk)
            obtain ⟨i, hi, ei⟩ := List.getElem_of_mem he'
            rw [List.length_zipWith] at hi
            rw [List.getElem_zipWith] at ei
            rw [← ei]
            have := (back i (by omega) (by omega)).2.1
            show ks[i].ht ≤ _
            omega) (by have := (Tm.map es).ht_pos; omega)
        · obtain ⟨m1, m2, m3⟩ := (show es.length ≤ 3 ∧ (∀ e ∈ es, Wd e.1) ∧ (es.map Prod.fst).Nodup from ht.at_)
          have el : (List.zipWith (fun (e : Str × Tm) (k : Tm) => (e.1, k)) es ks).map Prod.fst = es.map Prod.fst := by
            refine List.ext_getElem (by rw [List.length_map, List.length_map, List.length_zipWith]; omega) fun i h1 h2 => ?_
            rw [List.getElem_map, List.getElem_zipWith, List.getElem_map]
          refine .mk ⟨by rw [List.length_zipWith]; omega, fun e he => ?_, by rw [el]; exact m3⟩ fun k hk => ?_
          · have : e.1 ∈ (List.zipWith (fun (e : Str × Tm) (k : Tm) => (e.1, k)) es ks).map Prod.fst := List.mem_map.mpr ⟨e, he, rfl⟩
            rw [el] at this
            obtain ⟨e', he', ee⟩ := List.mem_map.mp this
            rw [← ee]; exact m2 e' he'
          · obtain ⟨e', he', rfl⟩ := List.mem_map.mp (show k ∈ (List.zipWith (fun (e : Str × Tm) (k : Tm) => (e.1, k)) es ks).map Prod.snd from hk)
            obtain ⟨i, hi, ei⟩ := List.getElem_of_mem he'
            rw [List.length_zipWith] at hi
            rw [List.getElem_zipWith] at ei
            rw [← ei]
            exact (back i (by omega) (by omega)).2.2
    | form f ts => exact ht.at_.elim
    | var s => exact absurd ht.at_.1 List.not_mem_nil
    | int _ => cases hsrc; exact ⟨by rw [Tm.trans_eq]; rfl, Nat.le_refl _, .mk ht.at_ fun k hk => absurd hk List.not_mem_nil⟩
    | name _ => cases hsrc; exact ⟨by rw [Tm.trans_eq]; rfl, Nat.le_refl _, .mk ht.at_ fun k hk => absurd hk List.not_mem_nil⟩
    | addr _ => cases hsrc; exact ⟨by rw [Tm.trans_eq]; rfl, Nat.le_refl _, .mk ht.at_ fun k hk => absurd hk List.not_mem_nil⟩
theorem fill_tt {hs : Hds} {ps : List Str} {B : Tab} (hB : ∀ s ∈ ps, ∃ x, lookA B s = some x) (hq : ∀ q ∈ B, TT hs [] q.2) {p : Tm} (hp : TT hs ps p) : TT hs [] (p.fill B) := by
  induction p using Tm.ind with
  | h p ih =>
    have gen : (∀ s, p ≠ .var s) → TT hs [] (p.withKids (p.kids.map (Tm.fill B))) := fun hv => by
      refine .mk ?_ fun k hk => ?_
      · have := hp.at_
        cases p with
        | var s => exact absurd rfl (hv s)
        | node c ts => exact ⟨by rw [List.length_map]; exact this.1, this.2.1, by rw [List.length_map]; exact this.2.2⟩
        | map es =>
          obtain ⟨m1, m2, m3⟩ := (show es.length ≤ 3 ∧ (∀ e ∈ es, Wd e.1) ∧ (es.map Prod.fst).Nodup from this)
          have el : (List.zipWith (fun (e : Str × Tm) (k : Tm) => (e.1, k)) es ((Tm.map es).kids.map (Tm.fill B))).map Prod.fst = es.map Prod.fst := by
            refine List.ext_getElem (by rw [List.length_map, List.length_map, List.length_zipWith, List.length_map, show (Tm.map es).kids.length = es.length from List.length_map ..]; omega) fun i h1 h2 => ?_
            rw [List.getElem_map, List.getElem_zipWith]
            have h3 : i < es.length := by rw [List.length_map] at h2; exact h2
            show (es[i]'h3).1 = _
            rw [List.getElem_map]
          refine ⟨by rw [List.length_zipWith]; omega, fun e he => ?_, by rw [el]; exact m3⟩
          have : e.1 ∈ (List.zipWith (fun (e : Str × Tm) (k : Tm) => (e.1, k)) es ((Tm.map es).kids.map (Tm.fill B))).map Prod.fst := List.mem_map.mpr ⟨e, he, rfl⟩
          rw [el] at this
          obtain ⟨e', he', ee⟩ := List.mem_map.mp this
          rw [← ee]; exact m2 e' he'
        | form f ts => exact this.elim
        | _ => exact this
      · rw [Tm.kids_with (by rw [List.length_map])] at hk
        obtain ⟨k', hk', rfl⟩ := List.mem_map.mp hk
        exact ih k' hk' (hp.kid hk')
    rw [Tm.fill_eq]
    cases p with
    | var s =>
      obtain ⟨x, e⟩ := hB s hp.at_.1
      show TT hs [] ((lookA B s).getD (.var s))
      rw [e]
      exact hq _ (lookA_mem e)
    | node c ts => exact gen fun s e => nomatch e
    | map es => exact gen fun s e => nomatch e
    | form f ts => exact gen fun s e => nomatch e
    | int _ => exact gen fun s e => nomatch e
    | name _ => exact gen fun s e => nomatch e
    | addr _ => exact gen fun s e => nomatch e
theorem row_of {R : List Rw} (hn : (R.map Rw.nm).Nodup) {c : Str} {m : Nat} (h : (c, m) ∈ rHds R) : ∃ r ∈ R, rowOf R c = some r ∧ r.ps.length = m ∧ r.nm = c := by
  obtain ⟨r, hr, e⟩ := List.mem_map.mp h
  obtain ⟨e1, e2⟩ := Prod.mk.inj e
  exact ⟨r, hr, by rw [← e1]; exact rowOf_mem hn hr, e2, e1⟩
theorem zip_has {ps : List Str} {xs : List Tm} (hl : ps.length ≤ xs.length) : ∀ s ∈ ps, ∃ x, lookA (ps.zip xs) s = some x := fun s hs => lookA_has (by rw [List.map_fst_zip hl]; exact hs)
theorem trans_tt {hs : Hds} {R : List Rw} (ok : RowsOk hs R) {s : Tm} (h : TT (rHds R) [] s) : TT hs [] (s.trans R) := by
  induction s using Tm.ind with
  | h s ih =>
    cases s with
    | node c ts =>
      obtain ⟨r, hr, er, hl, _⟩ := row_of ok.1 h.at_.1
      rw [trans_node er]
      refine fill_tt (zip_has (by rw [List.length_map]; omega)) (fun q hq => ?_) (ok.2 r hr).tt
      obtain ⟨k, hk, e⟩ := List.mem_map.mp (List.of_mem_zip hq).2
      rw [← e]
      exact ih k hk (h.kid (show k ∈ (Tm.node c ts).kids from hk))
    | map es =>
      rw [trans_map]
      obtain ⟨m1, m2, m3⟩ := (show es.length ≤ 3 ∧ (∀ e ∈ es, Wd e.1) ∧ (es.map Prod.fst).Nodup from h.at_)
      refine .mk ⟨by rw [List.length_map]; exact m1, fun e he => ?_, by rw [List.map_map]; exact m3⟩ fun k hk => ?_
      · obtain ⟨e', he', rfl⟩ := List.mem_map.mp he
        exact m2 e' he'
      · obtain ⟨e, he, rfl⟩ := List.mem_map.mp (show k ∈ (es.map fun e => (e.1, e.2.trans R)).map Prod.snd from hk)
        obtain ⟨e', he', rfl⟩ := List.mem_map.mp he
        have hk : e'.2 ∈ (Tm.map es).kids := List.mem_map.mpr ⟨e', he', rfl⟩
        exact ih _ hk (h.kid hk)
    | form f ts => exact h.at_.elim
    | var s => exact absurd h.at_.1 List.not_mem_nil
    | int _ => rw [Tm.trans_eq]; exact .mk h.at_ fun k hk => absurd hk List.not_mem_nil
    | name _ => rw [Tm.trans_eq]; exact .mk h.at_ fun k hk => absurd hk List.not_mem_nil
    | addr _ => rw [Tm.trans_eq]; exact .mk h.at_ fun k hk => absurd hk List.not_mem_nil
theorem find_some {α β : Type} {f : α → Option β} : ∀ {l : List α} {x : α}, x ∈ l → f x ≠ none → l.findSome? f ≠ none
  | y :: l, x, h, hf => by
    rw [List.findSome?_cons]
    cases e : f y with
    | some b => exact fun z => nomatch z
    | none =>
      rcases List.mem_cons.mp h with rfl | h
      · exact absurd e hf
      · exact find_some h hf
theorem src_has {hs : Hds} (hok : HdOk hs) {R : List Rw} (ok : RowsOk hs R) {s : Tm} (h : TT (rHds R) [] s) : src R (s.trans R) ≠ none := by
  induction s using Tm.ind with
  | h s ih =>
    cases s with
    | node c ts =>
      obtain ⟨r, hr, er, hl, _⟩ := row_of ok.1 h.at_.1
      have T := ok.2 r hr
      have htt := trans_tt ok h
      rw [trans_node er] at htt ⊢
      obtain ⟨tab, em, hB⟩ := fill_mch (zip_has (ps := r.ps) (xs := ts.map (Tm.trans R)) (by rw [List.length_map]; omega)) T.tt T.nm
      obtain ⟨cn, tn, en⟩ := T.nd
      have ef : ∃ ts', r.t.fill (r.ps.zip (ts.map (Tm.trans R))) = .node cn ts' := ⟨_, by rw [en, Tm.fill_eq]; rfl⟩
      rw [src_eq ok]
      obtain ⟨ts', ef⟩ := ef
      rw [ef] at em htt ⊢
      refine find_some hr ?_
      obtain ⟨k1, k2, k3⟩ := T.keys hok htt em
      unfold try1
      rw [em]
      show (bnd (src R) tab r.ps).map _ ≠ none
      cases eb : bnd (src R) tab r.ps with
      | some ss => exact fun z => nomatch z
      | none =>
        exfalso
        obtain ⟨p, hp, e⟩ := List.mem_map.mp (seqO_none.mp eb)
        obtain ⟨x, ex⟩ := k2 p hp
        rw [ex] at e
        have e : src R x = none := e
        have h2 := hB _ (lookA_mem ex)
        obtain ⟨i, hi, hj, _, ei⟩ := look_zip_inv h2
        rw [List.length_map] at hj
        rw [List.getElem_map] at ei
        have ei : ts[i].trans R = x := ei
        have hk : ts[i] ∈ (Tm.node c ts).kids := List.getElem_mem hj
        exact ih _ hk (h.kid hk) (by rw [ei]; exact e)
    | map es =>
      rw [trans_map, src_eq ok]
      show (seqO ((es.map fun e => (e.1, e.2.trans R)).map fun e => src R e.2)).map _ ≠ none
      cases e2 : seqO ((es.map fun e => (e.1, e.2.trans R)).map fun e => src R e.2) with
      | some ks => exact fun z => nomatch z
      | none =>
        exfalso
        obtain ⟨e, he, e3⟩ := List.mem_map.mp (seqO_none.mp e2)
        obtain ⟨e', he', rfl⟩ := List.mem_map.mp he
        have hk : e'.2 ∈ (Tm.map es).kids := List.mem_map.mpr ⟨e', he', rfl⟩
        exact ih _ hk (h.kid hk) e3
    | form f ts => exact h.at_.elim
    | var s => exact absurd h.at_.1 List.not_mem_nil
    | int _ => rw [Tm.trans_eq, src_eq ok]; exact fun z => nomatch z
    | name _ => rw [Tm.trans_eq, src_eq ok]; exact fun z => nomatch z
    | addr _ => rw [Tm.trans_eq, src_eq ok]; exact fun z => nomatch z
/-! sizes and heights of translations -/
theorem fill_ht {tab : Tab} {m : Nat} (hm : 1 ≤ m) (ht : ∀ q ∈ tab, q.2.ht ≤ m) (t : Tm) : (t.fill tab).ht ≤ t.ht - 1 + m := by
  induction t using Tm.ind with
  | h t ih =>
    have hpos := t.ht_pos
    have gen : (t.withKids (t.kids.map (Tm.fill tab))).ht ≤ t.ht - 1 + m := by
      have : (t.withKids (t.kids.map (Tm.fill tab))).ht ≤ (t.ht - 1 + m - 1) + 1 := Tm.ht_le fun k hk => by
        rw [Tm.kids_with (by rw [List.length_map])] at hk
        obtain ⟨k', hk', rfl⟩ := List.mem_map.mp hk
        have h1 := ih k' hk'
        have h2 := Tm.ht_kid hk'
        have h3 := k'.ht_pos
        omega
      omega
    rw [Tm.fill_eq]
    cases t with
    | var s =>
      show ((lookA tab s).getD (.var s)).ht ≤ _
      cases e : lookA tab s with
      | none => show (Tm.var s).ht ≤ _; omega
      | some x => have : x.ht ≤ m := ht (s, x) (lookA_mem e); show x.ht ≤ _; omega
    | _ => exact gen
/-- what filling brings -/
def wz (tab : Tab) (t : Tm) : Nat := (tab.map fun q => t.tot (fO q.1) * q.2.size).sum
theorem wz_kids (tab : Tab) (t : Tm) (h : ∀ s, t ≠ .var s) : wz tab t = (t.kids.map (wz tab)).sum := by
  unfold wz
  induction tab with
  | nil =>
    show 0 = _
    have : ∀ l : List Tm, (l.map fun t => (([] : Tab).map fun q => t.tot (fO q.1) * q.2.size).sum).sum = 0 := fun l => by
      induction l with
      | nil => rfl
      | cons a l ih => rw [List.map_cons, List.sum_cons, ih]; rfl
    exact (this _).symm
  | cons q tab ih =>
    rw [List.map_cons, List.sum_cons, ih]
    have e : t.tot (fO q.1) = (t.kids.map (Tm.tot (fO q.1))).sum := by
      rw [Tm.tot_eq, show fO q.1 t = 0 by cases t <;> first | rfl | exact absurd rfl (h _)]; omega
    rw [e]
    have e2 : ∀ l : List Tm, (l.map (Tm.tot (fO q.1))).sum * q.2.size = (l.map fun k => k.tot (fO q.1) * q.2.size).sum := fun l => by
      induction l with
      | nil => exact Nat.zero_mul _
      | cons a l ih => rw [List.map_cons, List.map_cons, List.sum_cons, List.sum_cons, Nat.add_mul, ih]
    rw [e2, ← sum_add]
    refine congrArg List.sum (List.map_congr_left fun k _ => ?_)
    rw [List.map_cons, List.sum_cons]
theorem fill_size (tab : Tab) (t : Tm) : (t.fill tab).size ≤ t.size + wz tab t := by
  induction t using Tm.ind with
  | h t ih =>
    have gen : (∀ s, t ≠ .var s) → (t.withKids (t.kids.map (Tm.fill tab))).size ≤ t.size + wz tab t := fun hv => by
      rw [Tm.size_eq, Tm.kids_with (by rw [List.length_map]), Tm.size_eq t, wz_kids tab t hv, List.map_map, Nat.add_assoc, ← sum_add]
      exact Nat.add_le_add_left (sum_le_of fun k hk => ih k hk) 1
    rw [Tm.fill_eq]
    cases t with
    | var s =>
      show ((lookA tab s).getD (.var s)).size ≤ _
      cases e : lookA tab s with
      | none => show (Tm.var s).size ≤ _; omega
      | some x =>
        have h1 : (fun q : Str × Tm => (Tm.var s).tot (fO q.1) * q.2.size) (s, x) ≤ wz tab (.var s) := le_sum_of (f := fun q : Str × Tm => (Tm.var s).tot (fO q.1) * q.2.size) (lookA_mem e)
        have e1 : (Tm.var s).tot (fO s) = 1 := by
          rw [Tm.tot_eq]
          show (if s = s then 1 else 0) + 0 = 1
          rw [if_pos rfl]; all_goals rfl
        have h1 : (Tm.var s).tot (fO s) * x.size ≤ wz tab (.var s) := h1
        rw [e1, Nat.one_mul] at h1
        show x.size ≤ _
        omega
    | _ => exact gen fun s e => nomatch e
theorem fill_size1 {ps : List Str} {xs : List Tm} {t : Tm} (h : ∀ s, t.tot (fO s) ≤ 1) : (t.fill (ps.zip xs)).size ≤ t.size + (xs.map Tm.size).sum := by
  have h1 := fill_size (ps.zip xs) t
  have h2 : ∀ (ps : List Str) (xs : List Tm), wz (ps.zip xs) t ≤ (xs.map Tm.size).sum := by
    intro ps
    induction ps with
    | nil => intro xs; exact Nat.zero_le _
    | cons p ps ih => intro xs; cases xs with
      | nil => exact Nat.zero_le _
      | cons x xs =>
        have h3 : wz (ps.zip xs) t ≤ _ := ih xs
        have h4 := Nat.mul_le_mul_right x.size (h p)
        show t.tot (fO p) * x.size + wz (ps.zip xs) t ≤ x.size + (xs.map Tm.size).sum
        omega
  have := h2 ps xs
  omega
/-- bounds of drawn templates -/
def TplB (t : Tm) : Prop := t.size ≤ 24 ∧ t.ht ≤ 9
theorem trans_b {hs : Hds} {R : List Rw} (ok : RowsOk hs R) (tb : ∀ r ∈ R, TplB r.t) {s : Tm} (h : TT (rHds R) [] s) : (s.trans R).size ≤ 24 * s.size ∧ (s.trans R).ht ≤ 9 * s.ht := by
  induction s using Tm.ind with
  | h s ih =>
    have hpos := s.ht_pos
    have leaf : s.kids = [] → s.trans R = s → (s.trans R).size ≤ 24 * s.size ∧ (s.trans R).ht ≤ 9 * s.ht := fun hk e => by
      have hp := s.size_pos
      rw [e]; omega
    cases s with
    | node c ts =>
      obtain ⟨r, hr, er, hl, _⟩ := row_of ok.1 h.at_.1
      have T := ok.2 r hr
      obtain ⟨b1, b2⟩ := tb r hr
      rw [trans_node er]
      have hlin : ∀ s, r.t.tot (fO s) ≤ 1 := fun s => by rw [T.once]; exact List.nodup_iff_count.mp T.one s
      have f1 := fill_size1 (ps := r.ps) (xs := ts.map (Tm.trans R)) hlin
      have f2 : ((ts.map (Tm.trans R)).map Tm.size).sum ≤ (ts.map fun k => 24 * k.size).sum := by
        rw [List.map_map]
        exact sum_le_of fun k hk => (ih k hk (h.kid (show k ∈ (Tm.node c ts).kids from hk))).1
      have f3 : ∀ l : List Tm, (l.map fun k => 24 * k.size).sum = 24 * (l.map Tm.size).sum := fun l => by
        induction l with
        | nil => rfl
        | cons a l ih => rw [List.map_cons, List.map_cons, List.sum_cons, List.sum_cons, ih]; omega
      rw [f3] at f2
      have f4 : (Tm.node c ts).size = 1 + (ts.map Tm.size).sum := Tm.size_eq _
      have f5 := fill_ht (m := 9 * ((Tm.node c ts).ht - 1) + 1) (by omega) (tab := r.ps.zip (ts.map (Tm.trans R))) (fun q hq => by
        obtain ⟨k, hk, e⟩ := List.mem_map.mp (List.of_mem_zip hq).2
        rw [← e]
        have h1 := (ih k hk (h.kid (show k ∈ (Tm.node c ts).kids from hk))).2
        have h2 := Tm.ht_kid (t := .node c ts) (show k ∈ (Tm.node c ts).kids from hk)
        omega) r.t
      omega
    | map es =>
      rw [trans_map]
      have e1 : ((es.map fun e => (e.1, e.2.trans R)).map Prod.snd).map Tm.size = (Tm.map es).kids.map fun k => (k.trans R).size := by
        show _ = (es.map Prod.snd).map _
        rw [List.map_map, List.map_map, List.map_map]; rfl
      have f1 : (Tm.map (es.map fun e => (e.1, e.2.trans R))).size = 1 + ((Tm.map es).kids.map fun k => (k.trans R).size).sum := by
        rw [Tm.size_eq, ← e1]; rfl
      have f2 : ((Tm.map es).kids.map fun k => (k.trans R).size).sum ≤ ((Tm.map es).kids.map fun k => 24 * k.size).sum := sum_le_of fun k hk => (ih k hk (h.kid hk)).1
      have f3 : ∀ l : List Tm, (l.map fun k => 24 * k.size).sum = 24 * (l.map Tm.size).sum := fun l => by
        induction l with
        | nil => rfl
        | cons a l ih => rw [List.map_cons, List.map_cons, List.sum_cons, List.sum_cons, ih]; omega
      rw [f3] at f2
      have f4 := Tm.size_eq (.map es)
      refine ⟨by omega, Nat.le_trans (Tm.ht_le (n := 9 * ((Tm.map es).ht - 1)) fun k hk => ?_) (by omega)⟩
      obtain ⟨e, he, rfl⟩ := List.mem_map.mp (show k ∈ (es.map fun e => (e.1, e.2.trans R)).map Prod.snd from hk)
      obtain ⟨e', he', rfl⟩ := List.mem_map.mp he
      have hk : e'.2 ∈ (Tm.map es).kids := List.mem_map.mpr ⟨e', he', rfl⟩
      have h1 := (ih _ hk (h.kid hk)).2
      have h2 := Tm.ht_kid hk
      show (e'.2.trans R).ht ≤ _
      omega
    | form f ts => exact h.at_.elim
    | var s => exact absurd h.at_.1 List.not_mem_nil
    | int _ => exact leaf rfl (by rw [Tm.trans_eq]; rfl)
    | name _ => exact leaf rfl (by rw [Tm.trans_eq]; rfl)
    | addr _ => exact leaf rfl (by rw [Tm.trans_eq]; rfl)
end PK
namespace PK
open PySem L2 _root_.TL
/-! the text of data tells the data -/
abbrev sh (d : PyData) : List Nat := d.shown.cps.toList
theorem app_list (a b : Str) : (a ++ b).cps.toList = a.cps.toList ++ b.cps.toList := by
  show (a.cps ++ b.cps).toList = _
  rw [Array.toList_append]
theorem rc_oth : ∀ c ∈ OTH.cps.toList, PySem.Builtin.Str.reprChar 39 c = [c] := by decide +kernel
theorem no39 : 39 ∉ OTH.cps.toList := by decide +kernel
theorem repr_word {x : Str} (h : ∀ c ∈ x.cps.toList, c ∈ OTH.cps.toList) : (reprText x).cps.toList = 39 :: (x.cps.toList ++ [39]) := by
  have hq : reprQuote x = 39 := by
    unfold reprQuote
    have : x.cps.contains 39 = false := by
      cases e : x.cps.contains 39 with
      | false => rfl
      | true =>
        have := Array.contains_iff_mem.mp e
        exact absurd (h 39 (Array.mem_toList_iff.mpr this)) no39
    rw [this]; rfl
  unfold reprText
  rw [hq]
  show ((x.cps.foldl (fun out c => out ++ (PySem.Builtin.Str.reprChar 39 c).toArray) #[39]).push 39).toList = _
  rw [Array.toList_push, ← Array.foldl_toList]
  have key : ∀ (l : List Nat) (acc : Array Nat), (∀ c ∈ l, c ∈ OTH.cps.toList) → (l.foldl (fun out c => out ++ (PySem.Builtin.Str.reprChar 39 c).toArray) acc).toList = acc.toList ++ l := fun l => by
    induction l with
    | nil => intro acc _; rw [List.append_nil]; rfl
    | cons c r ih =>
      intro acc hl
      rw [List.foldl_cons, ih _ fun z hz => hl z (List.mem_cons_of_mem _ hz), rc_oth c (hl c List.mem_cons_self), Array.toList_append]
      simp
  rw [key _ _ h]
  rfl
theorem int_list {n : Int} (h : 0 ≤ n) : sh (.int n) = numL n.toNat := by
  obtain ⟨m, rfl⟩ : ∃ m : Nat, n = m := ⟨n.toNat, by omega⟩
  exact tl_num m
/-- data whose text tells them -/
inductive Rp : PyData → Prop
  | str {x : Str} : (∀ c ∈ x.cps.toList, c ∈ OTH.cps.toList) → Rp (.str x)
  | int {n : Int} : 0 ≤ n → Rp (.int n)
  | tup {ds : List PyData} : (∀ d ∈ ds, Rp d) → Rp (.tuple ds)
def J : List PyData → List Nat
  | [] => [41]
  | [d] => sh d ++ [41]
  | d :: e :: r => sh d ++ 44 :: 32 :: J (e :: r)
def TB : List PyData → List Nat
  | [] => [41]
  | [d] => sh d ++ [44, 41]
  | d :: e :: r => J (d :: e :: r)
theorem join_list : ∀ ds : List PyData, ds ≠ [] → (Str.join ", " (PyData.shownAll ds)).cps.toList ++ [41] = J ds
  | [], h => absurd rfl h
  | [d], _ => rfl
  | d :: e :: r, _ => by
    have ih := join_list (e :: r) (by simp)
    show (d.shown ++ ", " ++ Str.join ", " (PyData.shownAll (e :: r))).cps.toList ++ [41] = sh d ++ 44 :: 32 :: J (e :: r)
    rw [app_list, app_list, List.append_assoc, ih, List.append_assoc]
    rfl
theorem sh_tup (ds : List PyData) : sh (.tuple ds) = 40 :: TB ds := by
  show (tupleText (PyData.shownAll ds)).cps.toList = _
  unfold tupleText
  cases ds with
  | nil => rfl
  | cons d r =>
    cases r with
    | nil =>
      show (("(" : Str) ++ d.shown ++ (",)" : String)).cps.toList = _
      rw [app_list, app_list]
      rfl
    | cons e r =>
      have hl : ((PyData.shownAll (d :: e :: r)).length == 1) = false := by
        show (((PyData.shownAll r).length + 1 + 1) == 1) = false
        exact beq_false_of_ne (by omega)
      rw [hl]
      show (("(" : Str) ++ Str.join ", " (PyData.shownAll (d :: e :: r)) ++ (")" : String)).cps.toList = _
      rw [app_list, app_list, List.append_assoc]
      exact congrArg (40 :: ·) (join_list (d :: e :: r) (by simp))
abbrev DG : List Nat := ("0123456789" : Str).cps.toList
theorem num_dg (n : Nat) : ∀ c ∈ numL n, c ∈ DG := fun c hc => by
  have := numL_digits n c hc
  have key : ∀ k, k < 10 → 48 + k ∈ DG := by decide +kernel
  have z := key (c - 48) (by omega)
  rwa [show 48 + (c - 48) = c by omega] at z
/-- the first sign -/
theorem sh_hd {d : PyData} (h : Rp d) : ∃ c r, sh d = c :: r ∧ ((c = 39 ∧ ∃ x, d = .str x) ∨ (c ∈ DG ∧ ∃ n, d = .int n) ∨ (c = 40 ∧ ∃ ds, d = .tuple ds)) := by
  cases h with
  | str h => exact ⟨39, _, by show (reprText _).cps.toList = _; exact repr_word h, .inl ⟨rfl, _, rfl⟩⟩
  | @int n h =>
    rw [int_list h]
    cases e : numL n.toNat with
    | nil => exact absurd e (numL_ne _)
    | cons c r => exact ⟨c, r, rfl, .inr (.inl ⟨num_dg _ c (by rw [e]; exact List.mem_cons_self), _, rfl⟩)⟩
  | tup h => exact ⟨40, _, sh_tup _, .inr (.inr ⟨rfl, _, rfl⟩)⟩
def Bd (u : List Nat) : Prop := ∀ c ∈ u.head?, c = 44 ∨ c = 41
theorem bd41 (u : List Nat) : Bd (41 :: u) := fun c hc => .inr (Option.some.inj hc).symm
theorem bd44 (u : List Nat) : Bd (44 :: u) := fun c hc => .inl (Option.some.inj hc).symm
theorem split_at {x : Nat} : ∀ {l l' r r' : List Nat}, x ∉ l → x ∉ l' → l ++ x :: r = l' ++ x :: r' → l = l' ∧ r = r'
  | [], [], _, _, _, _, h => ⟨rfl, (List.cons.inj h).2⟩
  | [], b :: l', _, _, _, h2, h => absurd (List.mem_cons.mpr (.inl (List.cons.inj h).1)) h2
  | a :: l, [], _, _, h1, _, h => absurd (List.mem_cons.mpr (.inl (List.cons.inj h).1.symm)) h1
  | a :: l, b :: l', _, _, h1, h2, h => by
    obtain ⟨e, h⟩ := List.cons.inj h
    obtain ⟨e2, e3⟩ := split_at (fun z => h1 (List.mem_cons_of_mem _ z)) (fun z => h2 (List.mem_cons_of_mem _ z)) h
    exact ⟨by rw [e, e2], e3⟩
theorem split_dg : ∀ {l l' u u' : List Nat}, (∀ c ∈ l, c ∈ DG) → (∀ c ∈ l', c ∈ DG) → (∀ c ∈ u.head?, c ∉ DG) → (∀ c ∈ u'.head?, c ∉ DG) → l ++ u = l' ++ u' → l = l' ∧ u = u'
  | [], [], _, _, _, _, _, _, h => ⟨rfl, h⟩
  | [], b :: l', u, _, _, h2, h3, _, h => by
    cases u with
    | nil => cases h
    | cons c u => exact absurd (h2 b List.mem_cons_self) (by rw [← (List.cons.inj h).1]; exact h3 c rfl)
  | a :: l, [], _, u', h1, _, _, h4, h => by
    cases u' with
    | nil => cases h
    | cons c u => exact absurd (h1 a List.mem_cons_self) (by rw [(List.cons.inj h).1]; exact h4 c rfl)
  | a :: l, b :: l', _, _, h1, h2, h3, h4, h => by
    obtain ⟨e, h⟩ := List.cons.inj h
    obtain ⟨e2, e3⟩ := split_dg (fun c hc => h1 c (List.mem_cons_of_mem _ hc)) (fun c hc => h2 c (List.mem_cons_of_mem _ hc)) h3 h4 h
    exact ⟨by rw [e, e2], e3⟩
theorem bd_dg {u : List Nat} (h : Bd u) : ∀ c ∈ u.head?, c ∉ DG := fun c hc => by
  have key : 44 ∉ DG ∧ 41 ∉ DG := by decide +kernel
  rcases h c hc with rfl | rfl
  · exact key.1
  · exact key.2
theorem dg_no : 39 ∉ DG ∧ 40 ∉ DG ∧ 41 ∉ DG := by decide +kernel
def Inj (d : PyData) : Prop := ∀ d' u u', Rp d' → Bd u → Bd u' → sh d ++ u = sh d' ++ u' → d = d' ∧ u = u'
theorem J_inj : ∀ {ds ds' : List PyData} {u u' : List Nat}, (∀ d ∈ ds, Inj d) → (∀ d ∈ ds', Rp d) → ds ≠ [] → ds' ≠ [] → J ds ++ u = J ds' ++ u' → ds = ds' ∧ u = u'
  | [], _, _, _, _, _, h, _, _ => absurd rfl h
  | _, [], _, _, _, _, _, h, _ => absurd rfl h
  | [d], [d'], u, u', hi, hr, _, _, h => by
    have h : sh d ++ [41] ++ u = sh d' ++ [41] ++ u' := h
    rw [List.append_assoc, List.append_assoc] at h
    obtain ⟨e1, e2⟩ := hi d List.mem_cons_self d' _ _ (hr d' List.mem_cons_self) (bd41 _) (bd41 _) h
    exact ⟨by rw [e1], (List.cons.inj e2).2⟩
  | [d], d' :: e' :: r', u, u', hi, hr, _, _, h => by
    have h : sh d ++ [41] ++ u = (sh d' ++ 44 :: 32 :: J (e' :: r')) ++ u' := h
    rw [List.append_assoc, List.append_assoc] at h
    obtain ⟨e1, e2⟩ := hi d List.mem_cons_self d' _ _ (hr d' List.mem_cons_self) (bd41 _) (bd44 _) h
    exact absurd (List.cons.inj e2).1 (by decide)
  | d :: e :: r, [d'], u, u', hi, hr, _, _, h => by
    have h : (sh d ++ 44 :: 32 :: J (e :: r)) ++ u = sh d' ++ [41] ++ u' := h
    rw [List.append_assoc, List.append_assoc] at h
    obtain ⟨e1, e2⟩ := hi d List.mem_cons_self d' _ _ (hr d' List.mem_cons_self) (bd44 _) (bd41 _) h
    exact absurd (List.cons.inj e2).1 (by decide)
  | d :: e :: r, d' :: e' :: r', u, u', hi, hr, _, _, h => by
    have h : (sh d ++ 44 :: 32 :: J (e :: r)) ++ u = (sh d' ++ 44 :: 32 :: J (e' :: r')) ++ u' := h
    rw [List.append_assoc, List.append_assoc] at h
    obtain ⟨e1, e2⟩ := hi d List.mem_cons_self d' _ _ (hr d' List.mem_cons_self) (bd44 _) (bd44 _) h
    have e3 : J (e :: r) ++ u = J (e' :: r') ++ u' := (List.cons.inj (List.cons.inj e2).2).2
    obtain ⟨e4, e5⟩ := J_inj (fun z hz => hi z (List.mem_cons_of_mem _ hz)) (fun z hz => hr z (List.mem_cons_of_mem _ hz)) (by simp) (by simp) e3
    exact ⟨by rw [e1, e4], e5⟩
theorem TB_inj {ds ds' : List PyData} {u u' : List Nat} (hi : ∀ d ∈ ds, Inj d) (hp : ∀ d ∈ ds, Rp d) (hr : ∀ d ∈ ds', Rp d) (h : TB ds ++ u = TB ds' ++ u') : ds = ds' ∧ u = u' := by
  have nz : ∀ {d : PyData} {v w : List Nat}, Rp d → 41 :: v ≠ sh d ++ w := fun {d v w} hd e => by
    obtain ⟨c, r, ec, hc⟩ := sh_hd hd
    rw [ec] at e
    have : 41 = c := (List.cons.inj e).1
    subst this
    rcases hc with ⟨z, _⟩ | ⟨z, _⟩ | ⟨z, _⟩
    · exact absurd z (by decide)
    · exact dg_no.2.2 z
    · exact absurd z (by decide)
  match ds, ds', hi, hp, hr, h with
  | [], [], _, _, _, h => exact ⟨rfl, (List.cons.inj h).2⟩
  | [], [d'], _, _, hr, h =>
    have h : 41 :: u = sh d' ++ [44, 41] ++ u' := h
    rw [List.append_assoc] at h
    exact absurd h (nz (hr d' List.mem_cons_self))
  | [], d' :: e' :: r', _, _, hr, h =>
    have h : 41 :: u = (sh d' ++ 44 :: 32 :: J (e' :: r')) ++ u' := h
    rw [List.append_assoc] at h
    exact absurd h (nz (hr d' List.mem_cons_self))
  | [d], [], _, hp, _, h =>
    have h : sh d ++ [44, 41] ++ u = 41 :: u' := h
    rw [List.append_assoc] at h
    exact absurd h.symm (nz (hp d List.mem_cons_self))
  | d :: e :: r, [], _, hp, _, h =>
    have h : (sh d ++ 44 :: 32 :: J (e :: r)) ++ u = 41 :: u' := h
    rw [List.append_assoc] at h
    exact absurd h.symm (nz (hp d List.mem_cons_self))
  | [d], [d'], hi, _, hr, h =>
    have h : sh d ++ [44, 41] ++ u = sh d' ++ [44, 41] ++ u' := h
    rw [List.append_assoc, List.append_assoc] at h
    obtain ⟨e1, e2⟩ := hi d List.mem_cons_self d' _ _ (hr d' List.mem_cons_self) (bd44 _) (bd44 _) h
    exact ⟨by rw [e1], (List.cons.inj (List.cons.inj e2).2).2⟩
  | [d], d' :: e' :: r', hi, _, hr, h =>
    have h : sh d ++ [44, 41] ++ u = (sh d' ++ 44 :: 32 :: J (e' :: r')) ++ u' := h
    rw [List.append_assoc, List.append_assoc] at h
    obtain ⟨e1, e2⟩ := hi d List.mem_cons_self d' _ _ (hr d' List.mem_cons_self) (bd44 _) (bd44 _) h
    exact absurd (List.cons.inj (List.cons.inj e2).2).1 (by decide)
  | d :: e :: r, [d'], hi, _, hr, h =>
    have h : (sh d ++ 44 :: 32 :: J (e :: r)) ++ u = sh d' ++ [44, 41] ++ u' := h
    rw [List.append_assoc, List.append_assoc] at h
    obtain ⟨e1, e2⟩ := hi d List.mem_cons_self d' _ _ (hr d' List.mem_cons_self) (bd44 _) (bd44 _) h
    exact absurd (List.cons.inj (List.cons.inj e2).2).1 (by decide)
  | d :: e :: r, d' :: e' :: r', hi, _, hr, h => exact J_inj hi hr (by simp) (by simp) h
mutual
theorem sh_inj : ∀ d : PyData, Rp d → Inj d
  | .none, h => by cases h
  | .bool _, h => by cases h
  | .list _, h => by cases h
  | .dict _, h => by cases h
  | .str x, h => fun d' u u' h' b b' e => by
    cases h with | str h =>
    obtain ⟨c, r, ec, hc⟩ := sh_hd h'
    have ex : sh (.str x) = 39 :: (x.cps.toList ++ [39]) := repr_word h
    rw [ex, ec] at e
    have e39 : 39 = c := (List.cons.inj e).1
    rcases hc with ⟨_, y, rfl⟩ | ⟨z, _⟩ | ⟨z, _⟩
    · cases h' with | str h' =>
      have ey : sh (.str y) = 39 :: (y.cps.toList ++ [39]) := repr_word h'
      rw [ey] at ec
      obtain ⟨_, er⟩ := List.cons.inj ec
      rw [← er] at e
      have e2 : (x.cps.toList ++ [39]) ++ u = (y.cps.toList ++ [39]) ++ u' := (List.cons.inj e).2
      rw [List.append_assoc, List.append_assoc] at e2
      obtain ⟨e3, e4⟩ := split_at (fun z => no39 (h 39 z)) (fun z => no39 (h' 39 z)) e2
      exact ⟨by rw [show x = y from Str.ext' (Array.toList_inj.mp e3)], e4⟩
    · exact absurd (by rw [← e39] at z; exact z) dg_no.1
    · exact absurd (e39.trans z) (by decide)
  | .int n, h => fun d' u u' h' b b' e => by
    cases h with | int h =>
    obtain ⟨c, r, ec, hc⟩ := sh_hd h'
    have e0 := e
    rw [int_list h, ec] at e
    cases en : numL n.toNat with
    | nil => exact absurd en (numL_ne _)
    | cons a s =>
      rw [en] at e
      have ea : a = c := (List.cons.inj e).1
      have hd : a ∈ DG := num_dg _ a (by rw [en]; exact List.mem_cons_self)
      rcases hc with ⟨z, _⟩ | ⟨_, m, rfl⟩ | ⟨z, _⟩
      · exact absurd (by rw [ea, z] at hd; exact hd) dg_no.1
      · cases h' with | int h' =>
        rw [int_list h, int_list h'] at e0
        obtain ⟨e1, e2⟩ := split_dg (num_dg _) (num_dg _) (bd_dg b) (bd_dg b') e0
        have := congrArg NumText.digitsVal e1
        rw [numL_val, numL_val] at this
        exact ⟨by rw [show n = m by omega], e2⟩
      · exact absurd (by rw [ea, z] at hd; exact hd) dg_no.2.1
  | .tuple ds, h => fun d' u u' h' b b' e => by
    cases h with | tup h =>
    obtain ⟨c, r, ec, hc⟩ := sh_hd h'
    have e0 := e
    rw [sh_tup, ec] at e
    have e40 : 40 = c := (List.cons.inj e).1
    rcases hc with ⟨z, _⟩ | ⟨z, _⟩ | ⟨_, ds', rfl⟩
    · exact absurd (e40.trans z) (by decide)
    · exact absurd (by rw [← e40] at z; exact z) dg_no.2.1
    · cases h' with | tup h' =>
      rw [sh_tup, sh_tup] at e0
      obtain ⟨e1, e2⟩ := TB_inj (sh_injAll ds h) h h' (List.cons.inj e0).2
      exact ⟨by rw [e1], e2⟩
theorem sh_injAll : ∀ ds : List PyData, (∀ d ∈ ds, Rp d) → ∀ d ∈ ds, Inj d
  | [], _ => fun d hd => nomatch hd
  | d :: r, h => fun z hz => by
    rcases List.mem_cons.mp hz with e | hz
    · rw [e]; exact sh_inj d (h d List.mem_cons_self)
    · exact sh_injAll r (fun y hy => h y (List.mem_cons_of_mem _ hy)) z hz
end
theorem shown_inj {d d' : PyData} (h : Rp d) (h' : Rp d') (e : d.shown = d'.shown) : d = d' :=
  (sh_inj d h d' [] [] h' (fun c hc => nomatch hc) (fun c hc => nomatch hc) (by rw [List.append_nil, List.append_nil]; exact congrArg (fun s : Str => s.cps.toList) e)).1
end PK
namespace PK
open PySem L2
/-! drawn templates -/
def noM (t : Tm) : Prop := ∀ es, t ≠ .map es
/-- what is known of a box -/
structure Box (K : PySem.W.Frag) (H : Hp) (l bx ph pn : Addr) (hs : Hds) (ws : List Str) : Prop where
  ne : bx ≠ l
  at_ : ∃ kvs, H bx = some (.dK kvs) ∧ valV kvs (Sum.inr "heads") = some (.ref ph) ∧ valV kvs (Sum.inr "names") = some (.ref pn) ∧ kvs.length ≤ 10
  nh : ph ≠ l
  hd : ∃ hv, H ph = some (.lst hv) ∧ DtAll K H hv (hs.map hdD)
  nm : Nm H l pn ws
theorem Box.ext {K : PySem.W.Frag} {H H' : Hp} {l c bx ph pn : Addr} {hs : Hds} {ws : List Str} (B : Box K H l bx ph pn hs ws) (P : Pool H l c) (x : Ext l c H H') : Box K H' l bx ph pn hs ws := by
  obtain ⟨kvs, h1, h2, h3, h4⟩ := B.at_
  obtain ⟨hv, h5, h6⟩ := B.hd
  exact ⟨B.ne, ⟨kvs, x.keep _ _ B.ne h1, h2, h3, h4⟩, B.nh, ⟨hv, x.keep _ _ B.nh h5, h6.ext P x⟩, B.nm.ext x⟩
structure HsOk (hs : Hds) : Prop where
  ok : HdOk hs
  ne : 0 < hs.length
  le : hs.length ≤ 100
  two : ∀ h : 0 < hs.length, hs[0].2 = 2
structure PrL (hs : Hds) (ws : List Str) (ts : List Tm) (n : Nat) : Prop where
  ok : ∀ t ∈ ts, TT hs ws t ∧ Al noM t ∧ ((∃ s, t = .var s) ∨ ∃ c a, t = .node c a)
  n : (ts.map (Tm.tot fN)).sum ≤ n
  o : ∀ s, (ts.map (Tm.tot (fO s))).sum = ws.count s
theorem PrL.grow {hs : Hds} {ws : List Str} {ts ts' args : List Tm} {n : Nat} {hd : Str × Nat} (h : PrL hs ws ts n) (ok : HdOk hs) (hc : hd ∈ hs) (la : args.length = hd.2) (ha : ∀ a ∈ args, a ∈ ts ∨ (a.atom ∧ ∀ hs ps, tN hs ps a)) (ht : ∀ x ∈ ts', x ∈ ts)
    (hg : ∀ g : Tm → Nat, (∀ a : Tm, a.atom → g a = 0) → (args.map g).sum + (ts'.map g).sum = (ts.map g).sum) : PrL hs ws (ts' ++ [.node hd.1 args]) (n + 1) := by
  have e : ∀ f : Tm → Nat, (Tm.node hd.1 args).tot f = f (.node hd.1 args) + (args.map (Tm.tot f)).sum := fun f => Tm.tot_eq f _
  refine ⟨fun t h' => ?_, ?_, fun s => ?_⟩
  · rcases List.mem_append.mp h' with h' | h'
    · exact h.ok t (ht t h')
    · rw [List.mem_singleton.mp h']
      refine ⟨.mk ⟨by rw [la]; exact hc, ok.wd _ hc, by rw [la]; exact ok.ar _ hc⟩ fun k hk => ?_, .mk (fun es e => nomatch e) fun k hk => ?_, .inr ⟨_, _, rfl⟩⟩
      · rcases ha k hk with z | ⟨z, tn⟩
        · exact (h.ok k z).1
        · exact TT.leaf (tn hs ws) (atom_kids z)
      · rcases ha k hk with z | ⟨z, tn⟩
        · exact (h.ok k z).2.1
        · exact .mk (fun es e => by rw [e] at z; exact z.elim) fun k' hk' => by rw [atom_kids z] at hk'; cases hk'
  · have h1 := hg _ fun a => atom_fN
    have h2 := h.n
    rw [sum_snoc, e, show fN (.node hd.1 args) = 1 from rfl]; omega
  · have h1 := hg _ fun a => atom_fO s
    have h2 := h.o s
    rw [sum_snoc, e, show fO s (.node hd.1 args) = 0 from rfl]; omega
structure PrA (K : PySem.W.Frag) (hs : Hds) (ws : List Str) (pa : Addr) (H : Hp) (ts : List Tm) (n : Nat) : Prop where
  at_ : ∃ pw, H pa = some (.lst pw) ∧ DtAll K H pw (ts.map Tm.d)
  me : PrL hs ws ts n
theorem grow {K : PySem.W.Frag} {hs : Hds} {ws ns : List Str} {σ : L2.St} {H0 H : Hp} {D : Ends} {l c pa bx ph pn : Addr} {te : TE} {xs : Hds} {ts : List Tm} {n : Nat} (h0 : σ[0]? = some (some (.ref l))) (h1 : σ[1]? = some (some (.ref bx))) (h3 : σ[3]? = some (some (.ref pa))) (x : Ext l c H0 H) (P0 : Pool H0 l c) (hpa : H0 pa = none) (B0 : Box K H0 l bx ph pn hs ns) (HS : HsOk hs)
    (pr : PrA K hs ws pa H ts n) (sub : ∀ y ∈ xs, y ∈ hs) (lts : ts.length ≤ 50)
    (hte : ∀ Q' : VK, (∀ H2 v hd, hd ∈ xs → Ext l c H H2 → Dt K H2 v (hdD hd) → Q' v H2) → te σ H Q')
    (q : ∀ (H' : Hp) (ts' : List Tm) (hd : Str × Nat) (args : List Tm), Ext l c H0 H' → hd ∈ xs → PrA K hs ws pa H' (ts' ++ [.node hd.1 args]) (n + 1) → ts'.length + min ts.length hd.2 = ts.length → D.nx σ H') :
    tDrop (tBM K "list" rAppend (tVar 3) (tCons (tCall (spBuilt K) [] C8.E0 (tCons (tVar 0) (tCons te (tCons (tVar 3) (tCons (tDGet (tVar 1) (tC (.str "names"))) tNil))))) tNil)) D σ H := by
  have npl := (P0.ne hpa).1
  have npc := (P0.ne hpa).2
  have npn : pa ≠ pn := (ne_of_none B0.nm.at_ hpa).symm
  obtain ⟨pw, hp, dp⟩ := pr.at_
  refine ⟨_, h3, .inl ⟨rfl, _, SqL.of hp⟩, ⟨_, h0, hte _ fun H2 v hd hc x2 dv => ⟨_, h3, ?_⟩⟩⟩
  have B2 := B0.ext P0 (x.trans x2)
  obtain ⟨kvs, hb, e1, e2, _⟩ := B2.at_
  refine ⟨_, h1, bx, .ref pn, rfl, by rw [← e2]; exact DGet.k (k := Sum.inr "names") hb, l, c, pa, pn, v, hd, pw, ts, ns, rfl, x2.pool, npl, npc, npn, B2.nm, dv, HS.ok.ar _ (sub _ hc), x2.keep _ _ npl hp, dp.ext x.pool x2, by omega, fun H3 u pw' ts' args x3 hp3 dp3 du la ha ht hn hg => ?_⟩
  have lpw : pw'.length = ts'.length := by rw [dp3.lenD, List.length_map]
  have y : Ex2 l c pa H (upd H3 pa (.lst (pw' ++ [u]))) := ((Ex2.of x2).trans x3).updP npl npc
  refine ⟨pa, pw', u, rfl, rfl, hp3, smallL (by omega), q _ ts' hd args (x.ex2 hpa y) hc ⟨⟨pw' ++ [u], upd_same, ?_⟩, pr.me.grow HS.ok (sub _ hc) la ha ht hg⟩ hn⟩
  rw [List.map_append]
  exact (dp3.append (.cons du .nil)).upd hp3
/-- the first of the heads -/
theorem head0 {K : PySem.W.Frag} {hs : Hds} {ns : List Str} {σ : L2.St} {H : Hp} {l c bx ph pn : Addr} (h1 : σ[1]? = some (some (.ref bx))) (P : Pool H l c) (B : Box K H l bx ph pn hs ns) (HS : HsOk hs) (Q' : VK) (q : ∀ H2 v hd, hd ∈ [hs[0]'HS.ne] → Ext l c H H2 → Dt K H2 v (hdD hd) → Q' v H2) :
    tOp (rIxL K) (tDGet (tVar 1) (tC (.str "heads"))) (tC (.int 0)) σ H Q' := by
  obtain ⟨kvs, hb, e1, e2, _⟩ := B.at_
  obtain ⟨hv, hh, dh⟩ := B.hd
  obtain ⟨v, gv, dv⟩ := dh.getD (i := 0) (d := hdD (hs[0]'HS.ne)) (by rw [List.getElem?_map, List.getElem?_eq_getElem HS.ne]; rfl)
  exact ⟨_, h1, bx, .ref ph, rfl, by rw [← e1]; exact DGet.k (k := Sum.inr "heads") hb, ph, hv, 0, v, rfl, rfl, SqL.of hh, atI_nat (j := 0) gv, q H v _ (List.mem_singleton.mpr rfl) (Ext.refl P) dv⟩
def spTpt (K : PySem.W.Frag) : Sp := fun vs H Q _ => ∃ (l c bx ph pn pw : Addr) (hs : Hds) (ns ws : List Str), vs = [.ref l, .ref bx, .ref pw] ∧ Pool H l c ∧ Box K H l bx ph pn hs ns ∧ HsOk hs ∧ H pw = some (.lst (ws.map V.str)) ∧ ws.length ≤ 3 ∧ ws.Nodup ∧ (∀ x ∈ ws, Wd x) ∧
  ∀ (H' : Hp) (v : V) (t : Tm), Ext l c H H' → Dt K H' v t.d → TplOk hs ws t → TplB t → Q v H'
theorem tpl_size {hs : Hds} {ps : List Str} {t : Tm} (h : TT hs ps t) (hm : Al noM t) : t.size ≤ 3 * t.tot fN + 1 ∧ t.ht ≤ t.tot fN + 1 := by
  induction t using Tm.ind with
  | h t ih =>
    rw [Tm.size_eq, Tm.tot_eq]
    have h1 : (t.kids.map Tm.size).sum ≤ (t.kids.map fun k => 3 * k.tot fN + 1).sum := sum_le_of fun k hk => (ih k hk (h.kid hk) (hm.kid hk)).1
    have h2 : ∀ l : List Tm, (l.map fun k => 3 * k.tot fN + 1).sum = 3 * (l.map (Tm.tot fN)).sum + l.length := fun l => by
      induction l with
      | nil => rfl
      | cons a l ih => rw [List.map_cons, List.map_cons, List.sum_cons, List.sum_cons, List.length_cons, ih]; omega
    rw [h2] at h1
    have h3 := h.at_
    have h4 : t.kids.length ≤ 3 * fN t ∧ (t.kids ≠ [] → fN t = 1) := by
      cases t with
      | node c ts => exact ⟨h3.2.2, fun _ => rfl⟩
      | map es => exact absurd rfl (hm.at_ es)
      | form f ts => exact h3.elim
      | _ => exact ⟨Nat.zero_le _, fun z => absurd rfl z⟩
    refine ⟨by omega, Tm.ht_le fun k hk => ?_⟩
    have h5 := (ih k hk (h.kid hk) (hm.kid hk)).2
    have h6 := le_sum_of (f := Tm.tot fN) hk
    have h7 := h4.2 (fun z => by rw [z] at hk; cases hk)
    omega
theorem vars_c (s : Str) : ∀ ps : List Str, ((ps.map Tm.var).map (Tm.tot (fO s))).sum = ps.count s
  | [] => rfl
  | u :: ps => by
    rw [List.map_cons, List.map_cons, List.sum_cons, vars_c s ps, List.count_cons]
    have e : (Tm.var u).tot (fO s) = if u = s then 1 else 0 := by rw [Tm.tot_eq]; rfl
    rw [e]
    by_cases h : u = s
    · simp [h]; omega
    · simp [h]
section
variable {P : Program} {w : World} {K : PySem.W.Frag} {mg : Str → Option Value} {base : Heap}
abbrev s_law_template : Stmt := topS 23
theorem sc_law_template : FnScope ["pool", "box", "words", "left", "k", "word"] ["pool", "box", "words"] (defScope s_law_template) := ⟨rfl, rfl, rfl, by decide +kernel, rfl, by decide +kernel, by decide +kernel⟩
-- slots: 0:pool 1:box 2:words 3:left 4:k 5:word(comp)
theorem ok_tpt {f : Addr} {fd : FuncData} (F : Fun K "_law_template" "_law_template" s_law_template f fd) (T : Txt K mg) (C_law_take : C8.Cal P w K mg base 2 "_law_take" (spTake 2) []) (C_law_pick : C8.Cal P w K mg base 3 "_law_pick" (spPick K) []) (C_law_built : C8.Cal P w K mg base 4 "_law_built" (spBuilt K) []) :
    FnOk P w K mg base CX0 5 f fd ["pool", "box", "words"] (spTpt K) := by
  refine F.ok sc_law_template (fun vs H Q E h => ?_) (fun cdv A outer s H vs Q E hr h => ?_)
  · obtain ⟨_, _, _, _, _, _, _, _, _, rfl, _⟩ := h
    rfl
  obtain ⟨l, c, bx, ph, pn, pwd, hs, ns, ws, rfl, P0, B0, HS, hpw, lws, ndw, wdw, q⟩ := h
  refine ⟨_, (pss_cons (ps_setLc (i := 3) (own := [("word", 5)]) (g := (gName 5)) (tt := tYes) (by rfl) sc_law_template.nd rfl rfl (sw_true rfl rfl rfl (by decide +kernel)) (pi_list (pv 2)) (blkOk_by (N := ["pool", "box", "words", "left", "k", "word"]) (sc := defScope s_law_template) (by decide +kernel)) (fun _ _ _ _ _ => (pg_name (i := 5) sc_law_template.nd rfl (Or.inl rfl))) (fun _ _ _ _ _ => pts_nil) (fun _ _ _ _ _ => (pe_tup (pa_cons pe_str (pa_cons (pv 5) pa_nil)))))
    (pss_cons (ps_for PassesOwn.never rfl (pi_range1 (by rfl) T.z_range (pa_cons (C8.pe_c C_law_take hr (by decide) rfl (pa_cons (pv 0) (pa_cons pe_int pa_nil))) pa_nil)) (pg_name (i := 4) sc_law_template.nd rfl (Or.inl rfl)) (pss_one (ps_expr (pe_bm PySem.F.plainAttrs_list PySem.F.slot_list_append PySem.F.type_list_append mt_append (pv 3) (pa_cons (C8.pe_c C_law_built hr (by decide) rfl (pa_cons (pv 0) (pa_cons (C8.pe_c C_law_pick hr (by decide) rfl (pa_cons (pv 0) (pa_cons (pe_dget (hu_of hr) (pv 1) pe_str (fun _ _ => rfl)) pa_nil))) (pa_cons (pv 3) (pa_cons (pe_dget (hu_of hr) (pv 1) pe_str (fun _ _ => rfl)) pa_nil))))) pa_nil)))))
    (C8.pss_cut (ps_if (PW.pt (pw_or (pt_not (pt_truth (pv 3) (by intro _; rfl))) (pw_or1 (pt_cmpR op_eq (pe_ix ix_tup (pe_ix ix_list (pv 3) pe_int (fun _ _ => rfl)) pe_int (fun _ _ => rfl)) pe_str (nomark _))))) (pss_one (ps_expr (pe_bm PySem.F.plainAttrs_list PySem.F.slot_list_append PySem.F.type_list_append mt_append (pv 3) (pa_cons (C8.pe_c C_law_built hr (by decide) rfl (pa_cons (pv 0) (pa_cons (pe_ix ix_list (pe_dget (hu_of hr) (pv 1) pe_str (fun _ _ => rfl)) pe_int (fun _ _ => rfl)) (pa_cons (pv 3) (pa_cons (pe_dget (hu_of hr) (pv 1) pe_str (fun _ _ => rfl)) pa_nil))))) pa_nil)))) pss_nil)
    (pss_cons (ps_for PassesOwn.never rfl (pi_range1 (by rfl) T.z_range (pa_cons pe_int pa_nil)) (pg_name (i := 4) sc_law_template.nd rfl (Or.inl rfl)) (pss_one (ps_if (pt_cmpR op_gt (pe_callB call_len_seq (by rfl) T.z_len (by decide +kernel) (pa_cons (pv 3) pa_nil)) pe_int (nomark _)) (pss_one (ps_expr (pe_bm PySem.F.plainAttrs_list PySem.F.slot_list_append PySem.F.type_list_append mt_append (pv 3) (pa_cons (C8.pe_c C_law_built hr (by decide) rfl (pa_cons (pv 0) (pa_cons (pe_ix ix_list (pe_dget (hu_of hr) (pv 1) pe_str (fun _ _ => rfl)) pe_int (fun _ _ => rfl)) (pa_cons (pv 3) (pa_cons (pe_dget (hu_of hr) (pv 1) pe_str (fun _ _ => rfl)) pa_nil))))) pa_nil)))) pss_nil)))
    (pss_one (ps_ret (pe_ix ix_list (pv 3) pe_int (fun _ _ => rfl)))))))), ?_⟩
  refine ⟨_, rfl, pwd, rfl, ⟨_, SqL.of hpw⟩, fun pa hpa => lcS (K := K) (walk_list (xs := ws.map V.str)) hpa (by rw [List.length_map]; omega) (fun ds => ds = ((ws.take ds.length).map Tm.var).map Tm.d) rfl (fun H' s => SqL.of (s _ _ hpw)) ?_ ?_⟩
  · rintro i x H1 H2 ds R hi s ⟨rfl, gx⟩ jd len r
    rw [List.getElem?_map] at gx
    cases e0 : ws[i]? with
    | none => rw [e0] at gx; cases gx
    | some sv =>
      rw [e0] at gx
      cases gx
      refine ⟨rfl, _, rfl, small (by show 2 ≤ _; decide), fun p hp => r (Tm.var sv).d _ _ (same_new hp) ?_ ?_⟩
      · unfold Tm.d
        exact Dt.mk2 hp (.str _) (.str _)
      · rw [List.length_append, len, show i + [(Tm.var sv).d].length = i + 1 from rfl, List.take_add_one, e0, List.map_append, List.map_append]
        rw [len] at jd
        rw [← jd]; rfl
  rintro H1 pv ds s1 hpv da len jd
  rw [len, List.length_map, List.take_length] at jd
  rw [jd] at da
  have x1 : Ext l c H H1 := (Ext.refl P0).same s1
  have npl : pa ≠ l := (P0.ne hpa).1
  have pr1 : PrA K hs ws pa H1 (ws.map Tm.var) 0 := ⟨⟨pv, hpv, da⟩, ⟨fun t ht => by
    obtain ⟨s, hs', rfl⟩ := List.mem_map.mp ht
    exact ⟨.mk ⟨hs', wdw s hs'⟩ fun k hk => absurd hk List.not_mem_nil, .mk (fun es e => nomatch e) fun k hk => absurd hk List.not_mem_nil, .inl ⟨s, rfl⟩⟩, by
      have : ∀ l : List Str, ((l.map Tm.var).map (Tm.tot fN)).sum ≤ 0 := fun l => by
        induction l with
        | nil => exact Nat.le_refl _
        | cons a l ih =>
          rw [List.map_cons, List.map_cons, List.sum_cons]
          have : (Tm.var a).tot fN = 0 := by rw [Tm.tot_eq]; rfl
          omega
      exact this ws, fun s => vars_c s ws⟩⟩
  -- drawn nodes
  refine vTake rfl x1.pool (by decide) (by decide) fun d H2 d0 d1 x2 => ⟨d, rfl, by omega, by omega, for_range (lo := 0) (n := d.toNat) (fun i σ H' => ∃ (ts : List Tm) (o4 : Option V), σ = [some (.ref l), some (.ref bx), some (.ref pwd), some (.ref pa), o4, none] ∧ Ext l c H H' ∧ PrA K hs ws pa H' ts i ∧ ts.length ≤ 3 + i) ?_ ?_ ?_⟩
  · obtain ⟨pw, hp, dp⟩ := pr1.at_
    exact ⟨_, _, rfl, x1.trans x2, ⟨⟨pw, x2.keep _ _ npl hp, dp.ext x1.pool x2⟩, pr1.me⟩, by rw [List.length_map]; omega⟩
  · rintro i σ H' hi ⟨ts, o4, rfl, x, pr, lt⟩
    refine grow (xs := hs) rfl rfl rfl x P0 hpa B0 HS pr (fun _ h => h) (by omega) (fun Q' q' => ?_) fun H3 ts' hd args y' hhd pr' hn => ?_
    · have B' := B0.ext P0 x
      obtain ⟨kvs, hb, e1, e2, _⟩ := B'.at_
      obtain ⟨hv, hh, dh⟩ := B'.hd
      have lhv : hv.length = hs.length := by rw [dh.lenD, List.length_map]
      have h0 := HS.ne
      have h9 := HS.le
      refine ⟨_, rfl, _, rfl, bx, .ref ph, rfl, by rw [← e1]; exact DGet.k (k := Sum.inr "heads") hb, l, c, ph, hv, rfl, x.pool, B'.nh, hh, fun z => by rw [z] at lhv; simp at lhv; omega, by omega, fun H4 j y x4 gy => ?_⟩
      obtain ⟨dd, gd, dy⟩ := dh.getX gy
      rw [List.getElem?_map] at gd
      cases e0 : hs[j]? with
      | none => rw [e0] at gd; cases gd
      | some z =>
        rw [e0] at gd
        cases gd
        exact q' H4 y z (List.mem_of_getElem? e0) x4 (dy.ext x.pool x4)
    · exact ⟨_, _, rfl, y', pr', by rw [List.length_append]; show ts'.length + 1 ≤ _; omega⟩
  rintro σ H3 ⟨ts3, o43, rfl, x3, pr3, lt3⟩
  have d2 : d.toNat ≤ 2 := by omega
  -- a node at the beginning, or one more
  refine ⟨fun σ H' => ∃ (ts : List Tm) (n : Nat), σ = [some (.ref l), some (.ref bx), some (.ref pwd), some (.ref pa), o43, none] ∧ Ext l c H H' ∧ PrA K hs ws pa H' ts n ∧ n + ts.length ≤ 8 ∧ ts ≠ [] ∧ ∃ cn a, Tm.node cn a ∈ ts, ?_, ?_⟩
  · obtain ⟨pw, hp, dp⟩ := pr3.at_
    have app : ∀ (D : Ends) (n : Nat), PrA K hs ws pa H3 ts3 n → (∀ (H' : Hp) (ts' : List Tm) (hd : Str × Nat) (args : List Tm), Ext l c H H' → hd ∈ [hs[0]'HS.ne] → PrA K hs ws pa H' (ts' ++ [.node hd.1 args]) (n + 1) → ts'.length + min ts3.length hd.2 = ts3.length → D.nx [some (.ref l), some (.ref bx), some (.ref pwd), some (.ref pa), o43, none] H') → _ := fun D n pr0 => grow (D := D) (xs := [hs[0]'HS.ne]) (σ := [some (.ref l), some (.ref bx), some (.ref pwd), some (.ref pa), o43, none]) rfl rfl rfl x3 P0 hpa B0 HS pr0 (fun y hy => by rw [List.mem_singleton.mp hy]; exact List.getElem_mem _) (by omega) (fun Q' q' => head0 rfl x3.pool (B0.ext P0 x3) HS Q' q')
    refine ⟨_, rfl, !pw.isEmpty, .inl ⟨pw, SqL.of hp, rfl⟩, ?_⟩
    have h20 := HS.two HS.ne
    cases ts3 with
    | nil =>
      have dp0 := dp
      cases dp
      refine iteT (iteT (app _ 0 ⟨⟨[], hp, .nil⟩, ⟨fun t ht => absurd ht List.not_mem_nil, Nat.le_refl _, pr3.me.o⟩⟩ fun H' ts' hd args y' hhd pr' hn => ?_))
      refine ⟨_, _, rfl, y', pr', by rw [List.length_append]; show 0 + 1 + (ts'.length + 1) ≤ 8; omega, by simp, _, _, List.mem_append_right _ (List.mem_singleton.mpr rfl)⟩
    | cons t0 tr =>
      have dp0 := dp
      cases dp with
      | cons d0' dr =>
      obtain ⟨a0, r0, rfl, hs0⟩ := Tm.dt_parts d0'
      refine iteF ⟨_, rfl, pa, _, _, _, rfl, rfl, SqL.of hp, atI_nat (j := 0) rfl, a0, _, _, _, rfl, rfl, hs0, atI_nat (j := 0) rfl, rfl, _, rfl, ?_⟩
      have lt3' : tr.length + 1 ≤ 3 + d.toNat := lt3
      rcases (pr3.me.ok t0 List.mem_cons_self).2.2 with ⟨s, rfl⟩ | ⟨cn, a, rfl⟩
      · refine sT rfl (app _ _ pr3 fun H' ts' hd args y' hhd pr' hn => ?_)
        rw [List.mem_singleton.mp hhd, h20] at hn
        have hn : ts'.length + min (tr.length + 1) 2 = tr.length + 1 := hn
        refine ⟨_, _, rfl, y', pr', by rw [List.length_append]; show _ + 1 + (ts'.length + 1) ≤ 8; omega, by simp, _, _, List.mem_append_right _ (List.mem_singleton.mpr rfl)⟩
      · exact sF (show ("node" : Str) ≠ "meta" by decide +kernel) ⟨_, _, rfl, x3, pr3, by show _ + (tr.length + 1) ≤ 8; omega, by simp, cn, a, List.mem_cons_self⟩
  rintro σ H4 ⟨ts4, n4, rfl, x4, pr4, hn4, hne4, cn4, a4, hnd4⟩
  clear pr3 lt3 pr1 hpv da jd
  refine ⟨8, rfl, by decide, by decide, for_range (lo := 0) (n := 8) (fun i σ H' => ∃ (ts : List Tm) (n : Nat) (o4 : Option V), σ = [some (.ref l), some (.ref bx), some (.ref pwd), some (.ref pa), o4, none] ∧ Ext l c H H' ∧ PrA K hs ws pa H' ts n ∧ n + ts.length ≤ 8 ∧ ts ≠ [] ∧ (∃ cn a, Tm.node cn a ∈ ts) ∧ (1 < ts.length → ts.length + i ≤ 8)) ?_ ?_ ?_⟩
  · exact ⟨ts4, n4, _, rfl, x4, pr4, hn4, hne4, ⟨cn4, a4, hnd4⟩, by omega⟩
  · rintro i σ H' hi ⟨ts, n, o4, rfl, x, pr, hn, hne, hnd, hL⟩
    obtain ⟨pw, hp, dp⟩ := pr.at_
    have lpw : pw.length = ts.length := by rw [dp.lenD, List.length_map]
    refine ⟨_, rfl, pa, _, rfl, .inl (SqL.of hp), _, _, rfl, rfl, _, rfl, ite2 (fun e => ?_) (fun e => ?_)⟩
    · have e : (1 : Int) < (pw.length : Nat) := of_decide_eq_true e
      refine grow (xs := [hs[0]'HS.ne]) rfl rfl rfl x P0 hpa B0 HS pr (fun y hy => by rw [List.mem_singleton.mp hy]; exact List.getElem_mem _) (by omega) (fun Q' q' => head0 rfl x.pool (B0.ext P0 x) HS Q' q') fun H3 ts' hd args y' hhd pr' hn' => ?_
      rw [List.mem_singleton.mp hhd, HS.two HS.ne] at hn'
      have hl0 : (ts' ++ [Tm.node hd.1 args]).length = ts'.length + 1 := by rw [List.length_append]; rfl
      refine ⟨_, _, _, rfl, y', pr', by rw [hl0]; omega, by simp, ⟨_, _, List.mem_append_right _ (List.mem_singleton.mpr rfl)⟩, ?_⟩
      rw [hl0]; intro h; have := hL (by omega); omega
    · have e : ¬ (1 : Int) < (pw.length : Nat) := fun z => e (decide_eq_true z)
      exact ⟨ts, n, _, rfl, x, pr, hn, hne, hnd, fun h => absurd h (by omega)⟩
  rintro σ H5 ⟨ts5, n5, o45, rfl, x5, pr5, hn5, hne5, ⟨cn, a, hnd5⟩, hL5⟩
  obtain ⟨pw, hp, dp⟩ := pr5.at_
  have l5 : ts5.length ≤ 1 := by
    rcases Nat.lt_or_ge 1 ts5.length with h | h
    · have := hL5 h; omega
    · exact h
  obtain ⟨t, rfl⟩ : ∃ t, ts5 = [t] := by
    cases ts5 with
    | nil => exact absurd rfl hne5
    | cons a r =>
      have : r = [] := List.length_eq_zero_iff.mp (by rw [List.length_cons] at l5; omega)
      exact ⟨a, by rw [this]⟩
  rw [List.mem_singleton] at hnd5
  cases dp with
  | cons d1 dr =>
  cases dr
  obtain ⟨k1, k2, _⟩ := pr5.me.ok t (List.mem_singleton.mpr rfl)
  have hN : t.tot fN ≤ n5 := pr5.me.n
  have hsz := tpl_size k1 k2
  have hn5 : n5 + 1 ≤ 8 := hn5
  refine ⟨_, rfl, pa, _, _, _, rfl, rfl, SqL.of hp, atI_nat (j := 0) rfl, q H5 _ t x5 d1 ⟨k1, k2, ⟨cn, a, hnd5.symm⟩, fun s => ?_, ndw, wdw⟩ ⟨by omega, by omega⟩⟩
  have := pr5.me.o s
  have : t.tot (fO s) + 0 = ws.count s := this
  omega
end
end PK
namespace PK
open PySem L2
theorem lookA_cons {α β : Type} [DecidableEq α] (k : α) (v : β) (r : List (α × β)) (s : α) : lookA ((k, v) :: r) s = match lookA r s with | some t => some t | none => if k = s then some v else none := rfl
/-! putting terms for words -/
/-- the dict tells what the row tells, and no more of words -/
def BindE (K : PySem.W.Frag) (H : Hp) (kvs : List (Key × V)) (tab : Tab) : Prop := ∀ s, (∀ t, lookA tab s = some t → ∃ v, valV kvs (.inr s) = some v ∧ Dt K H v t.d) ∧ (lookA tab s = none → valV kvs (.inr s) = none)
theorem BindE.mono {K : PySem.W.Frag} {H H' : Hp} {kvs : List (Key × V)} {tab : Tab} (h : BindE K H kvs tab) (k : ∀ v d, Dt K H v d → Dt K H' v d) : BindE K H' kvs tab := fun s =>
  ⟨fun t e => let ⟨v, e1, e2⟩ := (h s).1 t e; ⟨v, e1, k _ _ e2⟩, (h s).2⟩
theorem lookA_snoc {β : Type} : ∀ (l : List (Str × β)) (k : Str) (v : β) (s : Str), lookA (l ++ [(k, v)]) s = if k = s then some v else lookA l s
  | [], k, v, s => by
    show lookA [(k, v)] s = _
    rw [lookA_cons]; rfl
  | (j, u) :: l, k, v, s => by
    show lookA ((j, u) :: (l ++ [(k, v)])) s = _
    rw [lookA_cons, lookA_cons, lookA_snoc l k v s]
    by_cases e : k = s
    · simp [e]
    · simp [e]
theorem BindE.put {K : PySem.W.Frag} {H : Hp} {kvs : List (Key × V)} {tab : Tab} (h : BindE K H kvs tab) {w : Str} {v : V} {t : Tm} (dv : Dt K H v t.d) : BindE K H (putK kvs (.inr w) v) (tab ++ [(w, t)]) := fun s => by
  rw [lookA_snoc, valV_put]
  by_cases e : w = s
  · subst e
    rw [if_pos rfl, if_pos rfl]
    exact ⟨fun t' et => ⟨v, rfl, by cases et; exact dv⟩, fun z => nomatch z⟩
  · rw [if_neg e, if_neg (fun z => e (Sum.inr.inj z).symm)]
    exact h s
theorem BindE.nil {K : PySem.W.Frag} {H : Hp} : BindE K H [] [] := fun s => ⟨fun t e => (by cases e), fun _ => rfl⟩
def plN (t : Tm) : Prop := t.kids.length ≤ 1000 ∧ (∀ f ts, t ≠ .form f ts) ∧ ∀ es, t ≠ .map es
def spPut (K : PySem.W.Frag) (n : Nat) : Sp := fun vs H Q _ => ∃ (v : V) (tb : Addr) (t : Tm) (kvs : List (Key × V)) (tab : Tab), vs = [v, .ref tb] ∧ Dt K H v t.d ∧ H tb = some (.dK kvs) ∧ BindE K H kvs tab ∧ Al plN t ∧ t.ht ≤ n ∧
  ∀ (H' : Hp) (v' : V), Same H H' → Dt K H' v' (t.fill tab).d → Q v' H'
section
variable {P : Program} {w : World} {K : PySem.W.Frag} {mg : Str → Option Value} {base : Heap}
abbrev s_law_put : Stmt := topS 17
theorem sc_law_put : FnScope ["form", "bindings", "part"] ["form", "bindings"] (defScope s_law_put) := ⟨rfl, rfl, rfl, by decide +kernel, rfl, by decide +kernel, by decide +kernel⟩
-- slots: 0:form 1:bindings(cell) 2:part(comp)
theorem ok_put {n : Nat} {f : Addr} {fd : FuncData} (F : Fun K "_law_put" "_law_put" s_law_put f fd) (T : Txt K mg) (C_law_put : C8.Cal P w K mg base n "_law_put" (spPut K n) []) : FnOk P w K mg base CX0 (n + 1) f fd ["form", "bindings"] (spPut K (n + 1)) := by
  refine F.ok sc_law_put (fun vs H Q E h => ?_) (fun cdv A outer s H vs Q E hr h => ?_)
  · obtain ⟨_, _, _, _, _, rfl, _⟩ := h
    rfl
  obtain ⟨v, tb, t, kvs, tab, rfl, hv, htb, hb, pl, hh, q⟩ := h
  refine ⟨_, (pss_cons (ps_if (PW.pt (pw_and (pt_cmpR op_eq (pe_ix ix_tup (pv 0) pe_int (fun _ _ => rfl)) pe_str (nomark _)) (pw_and1 (pt_cmp (pc_din (hu_of hr) (pe_ix ix_tup (pv 0) pe_int (fun _ _ => rfl)) (pv 1)))))) (pss_one (ps_ret (pe_dget (hu_of hr) (pv 1) (pe_ix ix_tup (pv 0) pe_int (fun _ _ => rfl)) (fun _ _ => rfl)))) pss_nil)
    (pss_cons (ps_if (pt_cmpR op_eq (pe_ix ix_tup (pv 0) pe_int (fun _ _ => rfl)) pe_str (nomark _)) (pss_one (ps_ret (pe_tup (pa_cons pe_str (pa_cons (pe_ix ix_tup (pv 0) pe_int (fun _ _ => rfl)) (pa_cons (pe_callTy call_tuple_of (by rfl) T.z_tuple (by decide +kernel) (pa_cons (pe_lc (own := [("part", 2)]) (g := (gName 2)) (tt := tYes) (by rfl) sc_law_put.nd (pi_tup (pe_ix ix_tup (pv 0) pe_int (fun _ _ => rfl))) (blkOk_by (N := ["form", "bindings", "part"]) (sc := defScope s_law_put) (by decide +kernel)) (fun _ _ _ _ _ => (pg_name (i := 2) sc_law_put.nd rfl (Or.inl rfl))) (fun _ _ _ _ _ => pts_nil) (fun _ _ _ _ _ => (C8.pe_c C_law_put hr (by omega) rfl (pa_cons (pv 2) (pa_cons (pv 1) pa_nil))))) pa_nil)) pa_nil)))))) pss_nil)
    (pss_one (ps_ret (pv 0))))), ?_⟩
  rw [Tm.fill_eq] at q
  have hv0 := hv
  cases t with
  | var s =>
    unfold Tm.d at hv
    obtain ⟨a, x, y, rfl, hs, h1, h2⟩ := Dt.t2 hv
    obtain rfl := h1.s
    obtain rfl := h2.s
    refine vTx rfl hs rfl ⟨rfl, _, rfl, sT rfl (vTx rfl hs rfl ⟨_, rfl, tb, _, rfl, DGet.k (k := Sum.inr s) htb, _, rfl, ?_⟩)⟩
    cases e : lookA tab s with
    | some t' =>
      obtain ⟨v', e1, e2⟩ := (hb s).1 t' e
      rw [e1]
      refine iteT ⟨_, rfl, vTx rfl hs rfl ⟨tb, v', rfl, by rw [← e1]; exact DGet.k (k := Sum.inr s) htb, q H v' (Same.refl H) ?_⟩⟩
      show Dt K H v' ((lookA tab s).getD (.var s)).d
      rw [e]
      exact e2
    | none =>
      rw [(hb s).2 e]
      refine iteF (vTx rfl hs rfl ⟨rfl, _, rfl, sF (by decide +kernel) ⟨_, rfl, q H _ (Same.refl H) ?_⟩⟩)
      show Dt K H _ ((lookA tab s).getD (.var s)).d
      rw [e]
      exact hv0
  | node c ts =>
    unfold Tm.d at hv
    obtain ⟨a, x, y, z, rfl, hs, h1, h2, h3⟩ := Dt.t3 hv
    obtain rfl := h1.s
    obtain rfl := h2.s
    obtain ⟨b, ys, rfl, hb2, hys⟩ := Dt.tn h3
    rw [Tm.ds_map] at hys
    have ly : ys.length = ts.length := by rw [hys.lenD, List.length_map]
    have lk : ts.length ≤ 1000 := pl.at_.1
    refine vTx rfl hs rfl ⟨rfl, _, rfl, sF (by decide +kernel) (vTx rfl hs rfl ⟨rfl, _, rfl, sT rfl (vTx rfl hs rfl ?_)⟩)⟩
    refine vTx rfl hs rfl ⟨b, rfl, ⟨_, hb2⟩, fun D hD => lcS (K := K) (walk_tup (xs := ys)) hD (by omega) (fun ds => ds = ((ts.take ds.length).map (Tm.fill tab)).map Tm.d) rfl (fun H' s => Same.seqT s hb2) ?_ ?_⟩
    · rintro i x H1 H1 ds R hi s1 ⟨rfl, gx⟩ jd len r
      obtain ⟨d, gd, dx⟩ := DtAll.getX hys gx
      rw [List.getElem?_map] at gd
      cases e0 : ts[i]? with
      | none => rw [e0] at gd; cases gd
      | some k =>
      rw [e0] at gd
      cases gd
      have hk : k ∈ (Tm.node c ts).kids := List.mem_of_getElem? e0
      have := Tm.ht_kid hk
      refine ⟨rfl, _, rfl, _, rfl, x, tb, k, kvs, tab, rfl, dx.same s1, s1 _ _ htb, hb.mono fun _ _ z => z.same s1, pl.kid hk, by omega, fun H2 v' s2 dv => r (k.fill tab).d v' H2 s2 dv ?_⟩
      rw [List.length_append, len, show i + [(k.fill tab).d].length = i + 1 from rfl, List.take_add_one, e0, List.map_append, List.map_append]
      rw [len] at jd
      rw [← jd]; rfl
    rintro H1 ws ds s1 hws da len jd
    rw [len, ly, List.take_length] at jd
    rw [jd] at da
    refine ⟨D, _, rfl, .inl ⟨SqL.of hws, fun p1 hp1 => ⟨small (by show 3 ≤ _; decide), fun p2 hp2 => ?_⟩⟩⟩
    refine q _ _ ((s1.trans (same_new hp1)).trans (same_new hp2)) ?_
    show Dt K _ _ (Tm.node c (ts.map (Tm.fill tab))).d
    unfold Tm.d
    rw [Tm.ds_map]
    exact Dt.mk3 hp2 (.str _) (.str _) (.tup (SqT.of upd_same) (da.same (same_new hp1)))
  | map es => exact absurd rfl (pl.at_.2.2 es)
  | form g ts => exact absurd rfl (pl.at_.2.1 g ts)
  | int m =>
    unfold Tm.d at hv
    obtain ⟨a, x, y, rfl, hs, h1, h2⟩ := Dt.t2 hv
    obtain rfl := h1.s
    exact vTx rfl hs rfl ⟨rfl, _, rfl, sF (by decide +kernel) (vTx rfl hs rfl ⟨rfl, _, rfl, sF (by decide +kernel) ⟨_, rfl, q H _ (Same.refl H) hv0⟩⟩)⟩
  | name m =>
    unfold Tm.d at hv
    obtain ⟨a, x, y, rfl, hs, h1, h2⟩ := Dt.t2 hv
    obtain rfl := h1.s
    exact vTx rfl hs rfl ⟨rfl, _, rfl, sF (by decide +kernel) (vTx rfl hs rfl ⟨rfl, _, rfl, sF (by decide +kernel) ⟨_, rfl, q H _ (Same.refl H) hv0⟩⟩)⟩
  | addr m =>
    unfold Tm.d at hv
    obtain ⟨a, x, y, rfl, hs, h1, h2⟩ := Dt.t2 hv
    obtain rfl := h1.s
    exact vTx rfl hs rfl ⟨rfl, _, rfl, sF (by decide +kernel) (vTx rfl hs rfl ⟨rfl, _, rfl, sF (by decide +kernel) ⟨_, rfl, q H _ (Same.refl H) hv0⟩⟩)⟩
end
end PK
namespace PK
open PySem L2
/-! drawn rows, boxes, terms -/
theorem DtAll.strsE {K : PySem.W.Frag} {H : Hp} : ∀ {xs : List V} {ss : List Str}, DtAll K H xs (ss.map PyData.str) → xs = ss.map V.str
  | _, [], h => by cases h; rfl
  | _, n :: r, h => by
    cases h with
    | cons h t => rw [h.s, DtAll.strsE t]; rfl
theorem DtAll.strs {K : PySem.W.Frag} {H : Hp} : ∀ ss : List Str, DtAll K H (ss.map V.str) (ss.map PyData.str)
  | [] => .nil
  | x :: r => .cons (.str x) (DtAll.strs r)
theorem fill_al {p : Tm → Prop} (hp : ∀ t ks, p t → ks.length = t.kids.length → p (t.withKids ks)) {tab : Tab} (ht : ∀ q ∈ tab, Al p q.2) {t : Tm} (h : Al p t) : Al p (t.fill tab) := by
  induction t using Tm.ind with
  | h t ih =>
    have gen : Al p (t.withKids (t.kids.map (Tm.fill tab))) := by
      refine .mk (hp _ _ h.at_ (by rw [List.length_map])) fun k hk => ?_
      rw [Tm.kids_with (by rw [List.length_map])] at hk
      obtain ⟨k', hk', rfl⟩ := List.mem_map.mp hk
      exact ih k' hk' (h.kid hk')
    rw [Tm.fill_eq]
    cases t with
    | var s =>
      show Al p ((lookA tab s).getD (.var s))
      cases e : lookA tab s with
      | none => exact h
      | some x => exact ht (s, x) (lookA_mem e)
    | _ => exact gen
theorem one_look (w s : Str) (a : Tm) : lookA [(w, a)] s = if w = s then some a else none := rfl
/-- a template with its last word put in -/
theorem tpl_put {hs : Hds} {ws : List Str} {w : Str} {t a : Tm} (h : TplOk hs (ws ++ [w]) t) (b : TplB t) (ha : a.atom) (hn : ∀ hs ps, tN hs ps a) : TplOk hs ws (t.fill [(w, a)]) ∧ TplB (t.fill [(w, a)]) := by
  have nd := h.one
  have nw : w ∉ ws := fun z => (List.nodup_append.mp nd).2.2 w z w (List.mem_singleton.mpr rfl) rfl
  obtain ⟨c, ts, en⟩ := h.nd
  have al : ∀ p : Tm → Prop, p a → Al p a := fun p hp => .mk hp fun k hk => by rw [atom_kids ha] at hk; cases hk
  refine ⟨⟨?_, ?_, ?_, fun s => ?_, (List.nodup_append.mp nd).1, fun s hs' => h.wd s (List.mem_append_left _ hs')⟩, ?_, ?_⟩
  · have key : ∀ t, TT hs (ws ++ [w]) t → TT hs ws (t.fill [(w, a)]) := fun t => by
      induction t using Tm.ind with
      | h t ih =>
        intro h
        have gen : (∀ s, t ≠ .var s) → (∀ es, t ≠ .map es) → TT hs ws (t.withKids (t.kids.map (Tm.fill [(w, a)]))) := fun hv hm => by
          refine .mk ?_ fun k hk => ?_
          · have := h.at_
            cases t with
            | var s => exact absurd rfl (hv s)
            | node c ts => exact ⟨by rw [List.length_map]; exact this.1, this.2.1, by rw [List.length_map]; exact this.2.2⟩
            | map es => exact absurd rfl (hm es)
            | form f ts => exact this.elim
            | _ => exact this
          · rw [Tm.kids_with (by rw [List.length_map])] at hk
            obtain ⟨k', hk', rfl⟩ := List.mem_map.mp hk
            exact ih k' hk' (h.kid hk')
        cases t with
        | map es =>
          rw [Tm.fill_eq]
          obtain ⟨m1, m2, m3⟩ := (show es.length ≤ 3 ∧ (∀ e ∈ es, Wd e.1) ∧ (es.map Prod.fst).Nodup from h.at_)
          have el : (List.zipWith (fun (e : Str × Tm) (k : Tm) => (e.1, k)) es ((Tm.map es).kids.map (Tm.fill [(w, a)]))).map Prod.fst = es.map Prod.fst := by
            refine List.ext_getElem (by rw [List.length_map, List.length_map, List.length_zipWith, List.length_map, show (Tm.map es).kids.length = es.length from List.length_map ..]; omega) fun i h1 h2 => ?_
            rw [List.getElem_map, List.getElem_zipWith]
            have h3 : i < es.length := by rw [List.length_map] at h2; exact h2
            show (es[i]'h3).1 = _
            rw [List.getElem_map]
          refine .mk ⟨by rw [List.length_zipWith]; omega, fun e he => ?_, by rw [el]; exact m3⟩ fun k hk => ?_
          · have : e.1 ∈ (List.zipWith (fun (e : Str × Tm) (k : Tm) => (e.1, k)) es ((Tm.map es).kids.map (Tm.fill [(w, a)]))).map Prod.fst := List.mem_map.mpr ⟨e, he, rfl⟩
            rw [el] at this
            obtain ⟨e', he', ee⟩ := List.mem_map.mp this
            rw [← ee]; exact m2 e' he'
          · have hk2 : k ∈ ((Tm.map es).withKids ((Tm.map es).kids.map (Tm.fill [(w, a)]))).kids := hk
            rw [Tm.kids_with (by rw [List.length_map])] at hk2
            obtain ⟨k', hk', rfl⟩ := List.mem_map.mp hk2
            exact ih k' hk' (h.kid hk')
        | var s =>
          rw [Tm.fill_eq]
          show TT hs ws ((lookA [(w, a)] s).getD (.var s))
          rw [one_look]
          by_cases e : w = s
          · rw [if_pos e]; exact al _ (hn hs ws)
          · rw [if_neg e]
            refine .mk ⟨?_, h.at_.2⟩ fun k hk => absurd hk List.not_mem_nil
            rcases List.mem_append.mp h.at_.1 with z | z
            · exact z
            · exact absurd (List.mem_singleton.mp z).symm e
        | node c ts => rw [Tm.fill_eq]; exact gen (fun s e => nomatch e) (fun s e => nomatch e)
        | form f ts => exact h.at_.elim
        | int _ => rw [Tm.fill_eq]; exact gen (fun s e => nomatch e) (fun s e => nomatch e)
        | name _ => rw [Tm.fill_eq]; exact gen (fun s e => nomatch e) (fun s e => nomatch e)
        | addr _ => rw [Tm.fill_eq]; exact gen (fun s e => nomatch e) (fun s e => nomatch e)
    exact key t h.tt
  · refine fill_al (p := noM) (fun t ks ht _ => ?_) (fun q hq => ?_) h.nm
    · cases t with
      | map es => exact absurd rfl (ht es)
      | _ => exact fun es e => nomatch e
    · rw [List.mem_singleton.mp hq]
      exact al _ fun es e => by rw [show a = .map es from e] at ha; exact ha.elim
  · rw [en, Tm.fill_eq]; exact ⟨_, _, rfl⟩
  · have key : ∀ t, Al noM t → (t.fill [(w, a)]).tot (fO s) = if w = s then 0 else t.tot (fO s) := fun t => by
      induction t using Tm.ind with
      | h t ih =>
        intro hm
        have gen : (∀ s, t ≠ .var s) → (t.withKids (t.kids.map (Tm.fill [(w, a)]))).tot (fO s) = if w = s then 0 else t.tot (fO s) := fun hv => by
          rw [Tm.tot_eq, Tm.kids_with (by rw [List.length_map]), Tm.tot_eq _ t, List.map_map]
          have e1 : fO s (t.withKids (t.kids.map (Tm.fill [(w, a)]))) = 0 := by cases t <;> first | rfl | exact absurd rfl (hv _)
          have e2 : fO s t = 0 := by cases t <;> first | rfl | exact absurd rfl (hv _)
          have e3 : t.kids.map (Tm.tot (fO s) ∘ Tm.fill [(w, a)]) = t.kids.map fun k => if w = s then 0 else k.tot (fO s) := List.map_congr_left fun k hk => ih k hk (hm.kid hk)
          rw [e1, e2, e3]
          by_cases e : w = s
          · have : ∀ l : List Tm, (l.map fun k => if w = s then 0 else k.tot (fO s)).sum = 0 := fun l => by
              induction l with
              | nil => rfl
              | cons b l ih => rw [List.map_cons, List.sum_cons, ih, if_pos e]
            rw [this, if_pos e]
          · have : (t.kids.map fun k => if w = s then 0 else k.tot (fO s)) = t.kids.map (Tm.tot (fO s)) := List.map_congr_left fun k _ => if_neg e
            rw [this, if_neg e]
        rw [Tm.fill_eq]
        cases t with
        | var u =>
          show ((lookA [(w, a)] u).getD (.var u)).tot (fO s) = _
          rw [one_look]
          have e0 : (Tm.var u).tot (fO s) = if u = s then 1 else 0 := by rw [Tm.tot_eq]; rfl
          by_cases e : w = u
          · rw [if_pos e]
            show a.tot (fO s) = _
            rw [atom_fO s ha, e0]
            by_cases e2 : w = s
            · rw [if_pos e2]
            · rw [if_neg e2, if_neg (fun z => e2 (e.trans z))]
          · rw [if_neg e]
            show (Tm.var u).tot (fO s) = _
            by_cases e2 : w = s
            · rw [if_pos e2, e0, if_neg (fun z => e (e2.trans z.symm))]
            · rw [if_neg e2]
        | map es => exact absurd rfl (hm.at_ es)
        | node c ts => exact gen fun s e => nomatch e
        | form f ts => exact gen fun s e => nomatch e
        | int _ => exact gen fun s e => nomatch e
        | name _ => exact gen fun s e => nomatch e
        | addr _ => exact gen fun s e => nomatch e
    rw [key t h.nm, h.once, List.count_append]
    by_cases e : w = s
    · rw [if_pos e]
      exact (List.count_eq_zero.mpr (by rw [← e]; exact nw)).symm
    · rw [if_neg e]
      have : List.count s [w] = 0 := List.count_eq_zero.mpr (fun z => e (List.mem_singleton.mp z).symm)
      omega
  · have key : ∀ t : Tm, (t.fill [(w, a)]).size = t.size := fun t => by
      induction t using Tm.ind with
      | h t ih =>
        have gen : (t.withKids (t.kids.map (Tm.fill [(w, a)]))).size = t.size := by
          rw [Tm.size_eq, Tm.kids_with (by rw [List.length_map]), Tm.size_eq t, List.map_map]
          exact congrArg (1 + ·) (congrArg List.sum (List.map_congr_left fun k hk => ih k hk))
        rw [Tm.fill_eq]
        cases t with
        | var u =>
          show ((lookA [(w, a)] u).getD (.var u)).size = _
          rw [one_look]
          by_cases e : w = u
          · rw [if_pos e]
            show a.size = _
            rw [Tm.size_eq, Tm.size_eq, atom_kids ha]; rfl
          · rw [if_neg e]; rfl
        | _ => exact gen
    rw [key]; exact b.1
  · have hp := t.ht_pos
    have := fill_ht (m := 1) (Nat.le_refl _) (tab := [(w, a)]) (fun q hq => by
      rw [List.mem_singleton.mp hq]
      exact Tm.ht_le (n := 0) fun k hk => by rw [atom_kids ha] at hk; cases hk) t
    have := b.2
    omega
structure RwsOk (hs : Hds) (R : List Rw) : Prop where
  ok : RowsOk hs R
  b : ∀ r ∈ R, TplB r.t
  hd : HdOk (rHds R)
theorem TplOk.pl {hs : Hds} {ps : List Str} {t : Tm} (h : TplOk hs ps t) : Al plN t := by
  have key : ∀ t, TT hs ps t → Al noM t → Al plN t := fun t => by
    induction t using Tm.ind with
    | h t ih =>
      intro h1 h2
      exact .mk ⟨by have := h1.len; omega, fun f ts e => by rw [e] at h1; exact h1.at_.elim, h2.at_⟩ fun k hk => ih k hk (h1.kid hk) (h2.kid hk)
  exact key t h.tt h.nm
def spRows (K : PySem.W.Frag) : Sp := fun vs H Q _ => ∃ (l c bx ph pn : Addr) (hs : Hds) (ns : List Str), vs = [.ref l, .ref bx] ∧ Pool H l c ∧ Box K H l bx ph pn hs ns ∧ HsOk hs ∧
  ∀ (H' : Hp) (v : V) (R : List Rw), Ext l c H H' → Dt K H' v (.tuple (R.map Rw.d)) → RwsOk hs R → 2 ≤ R.length → R.length ≤ 6 → Q v H'
section
variable {P : Program} {w : World} {K : PySem.W.Frag} {mg : Str → Option Value} {base : Heap}
abbrev s_law_rows : Stmt := topS 24
theorem sc_law_rows : FnScope ["pool", "box", "rows", "name", "words", "template", "bindings"] ["pool", "box"] (defScope s_law_rows) := ⟨rfl, rfl, rfl, by decide +kernel, rfl, by decide +kernel, by decide +kernel⟩
-- slots: 0:pool 1:box 2:rows 3:name 4:words 5:template 6:bindings
set_option maxHeartbeats 800000 in
theorem ok_rows {f : Addr} {fd : FuncData} (F : Fun K "_law_rows" "_law_rows" s_law_rows f fd) (T : Txt K mg) (C_law_take : C8.Cal P w K mg base 2 "_law_take" (spTake 2) []) (C_law_words : C8.Cal P w K mg base 3 "_law_words" spWords []) (C_law_small : C8.Cal P w K mg base 3 "_law_small" (spSmall K) [])
    (C_law_template : C8.Cal P w K mg base 5 "_law_template" (spTpt K) []) (C_law_put : C8.Cal P w K mg base 9 "_law_put" (spPut K 9) []) : FnOk P w K mg base CX0 10 f fd ["pool", "box"] (spRows K) := by
  refine F.ok sc_law_rows (fun vs H Q E h => ?_) (fun cdv A outer s H vs Q E hr h => ?_)
  · obtain ⟨_, _, _, _, _, _, _, rfl, _⟩ := h
    rfl
  obtain ⟨l, c, bx, ph, pn, hs, ns, rfl, P0, B0, HS, q⟩ := h
  refine ⟨_, (pss_cons (ps_set (i := 2) sc_law_rows.nd rfl (Or.inl rfl) (pe_lst pa_nil))
    (pss_cons (ps_for PassesOwn.never rfl (pi_list (C8.pe_c C_law_words hr (by decide) rfl (pa_cons (pv 0) (pa_cons (pe_op op_add pe_int (C8.pe_c C_law_take hr (by decide) rfl (pa_cons (pv 0) (pa_cons pe_int pa_nil)))) pa_nil)))) (pg_name (i := 3) sc_law_rows.nd rfl (Or.inl rfl)) (pss_cons (ps_set (i := 4) sc_law_rows.nd rfl (Or.inl rfl) (C8.pe_c C_law_words hr (by decide) rfl (pa_cons (pv 0) (pa_cons (C8.pe_c C_law_take hr (by decide) rfl (pa_cons (pv 0) (pa_cons pe_int pa_nil))) pa_nil))))
    (pss_cons (ps_set (i := 5) sc_law_rows.nd rfl (Or.inl rfl) (C8.pe_c C_law_template hr (by decide) rfl (pa_cons (pv 0) (pa_cons (pv 1) (pa_cons (pv 4) pa_nil)))))
    (C8.pss_cut (ps_if (PW.pt (pw_and (pt_truth (pv 2) (by intro _; rfl)) (pw_and1 (pt_cmpR op_eq (C8.pe_c C_law_take hr (by decide) rfl (pa_cons (pv 0) (pa_cons pe_int pa_nil))) pe_int (nomark _))))) (pss_cons (ps_set (i := 4) sc_law_rows.nd rfl (Or.inl rfl) (pe_callTy call_list_of (by rfl) T.z_list (by decide +kernel) (pa_cons (pe_ix ix_tup (pe_ix ix_list (pv 2) (pe_op op_sub (pe_callB call_len_seq (by rfl) T.z_len (by decide +kernel) (pa_cons (pv 2) pa_nil)) pe_int) (fun _ _ => rfl)) pe_int (fun _ _ => rfl)) pa_nil)))
    (pss_cons (ps_set (i := 5) sc_law_rows.nd rfl (Or.inl rfl) (pe_ix ix_tup (pe_ix ix_list (pv 2) (pe_op op_sub (pe_callB call_len_seq (by rfl) T.z_len (by decide +kernel) (pa_cons (pv 2) pa_nil)) pe_int) (fun _ _ => rfl)) pe_int (fun _ _ => rfl)))
    (pss_one (ps_if (PW.pt (pw_and (pt_truth (pv 4) (by intro _; rfl)) (pw_and1 (pt_cmpR op_gt (C8.pe_c C_law_take hr (by decide) rfl (pa_cons (pv 0) (pa_cons pe_int pa_nil))) pe_int (nomark _))))) (pss_cons (ps_set (i := 6) sc_law_rows.nd rfl (Or.inl rfl) pe_dnewK)
    (pss_cons (ps_dput (hu_of hr) (pv 6) (pe_bm0 PySem.F.plainAttrs_list PySem.F.slot_list_pop PySem.F.type_list_pop mt_pop (pv 4)) (C8.pe_c C_law_small hr (by decide) rfl (pa_cons (pv 0) (pa_cons (pe_dget (hu_of hr) (pv 1) pe_str (fun _ _ => rfl)) pa_nil))) rfl)
    (pss_one (ps_set (i := 5) sc_law_rows.nd rfl (Or.inl rfl) (C8.pe_c C_law_put hr (by decide) rfl (pa_cons (pv 5) (pa_cons (pv 6) pa_nil))))))) pss_nil)))) pss_nil)
    (pss_one (ps_expr (pe_bm PySem.F.plainAttrs_list PySem.F.slot_list_append PySem.F.type_list_append mt_append (pv 2) (pa_cons (pe_tup (pa_cons (pv 3) (pa_cons (pe_callTy call_tuple_of (by rfl) T.z_tuple (by decide +kernel) (pa_cons (pv 4) pa_nil)) (pa_cons (pv 5) pa_nil)))) pa_nil))))))))
    (pss_one (ps_ret (pe_callTy call_tuple_of (by rfl) T.z_tuple (by decide +kernel) (pa_cons (pv 2) pa_nil)))))), ?_⟩
  refine ⟨Nat.zero_le _, fun pR hR => ?_⟩
  have x1 := (Ext.refl P0).new (o := .lst []) P0 hR
  have nR := (P0.ne hR).1
  refine ⟨_, rfl, vTake rfl x1.pool (by decide) (by decide) fun m H2 m0 m1 x2 => ⟨_, _, rfl, rfl, ?_⟩⟩
  obtain ⟨m, rfl⟩ : ∃ k : Nat, m = k := ⟨m.toNat, by omega⟩
  refine ⟨l, c, 2 + m, by rw [Int.natCast_add]; rfl, x2.pool, by omega, fun H3 pnm nms x3 hpn0 hpnm lnm ndn wdn => ?_⟩
  have nN := (x2.pool.ne hpn0).1
  have x13 := (x1.trans x2).trans x3
  refine ⟨pnm, rfl, ⟨_, SqL.of hpnm⟩, for_it (walk_list (K := K) (xs := nms.map V.str)) (fun i σ H' => ∃ (R : List Rw) (rv : List V) (o3 o4 o5 o6 : Option V), σ = [some (.ref l), some (.ref bx), some (.ref pR), o3, o4, o5, o6] ∧ Ext l c H H' ∧ H' pnm = some (.lst (nms.map V.str)) ∧ H' pR = some (.lst rv) ∧ DtAll K H' rv (R.map Rw.d) ∧
    R.map Rw.nm = nms.take i ∧ (∀ r ∈ R, TplOk hs r.ps r.t ∧ TplB r.t ∧ r.ps.length ≤ 3)) ?_ ?_ ?_ ?_⟩
  · exact ⟨[], [], _, _, _, _, rfl, x13, hpnm, (x2.trans x3).keep _ _ nR upd_same, .nil, rfl, fun r h => absurd h List.not_mem_nil⟩
  · rintro i σ H' _ ⟨_, _, _, _, _, _, _, _, h, _⟩
    exact SqL.of h
  · rintro i x σ H4 H4 hi ⟨R, rv, o3, o4, o5, o6, rfl, x4, hpn4, hr4, dr, en, ok⟩ ⟨rfl, gx⟩
    rw [List.length_map] at hi
    rw [List.getElem?_map, List.getElem?_eq_getElem hi] at gx
    cases gx
    have lR : R.length = i := by have := congrArg List.length en; rw [List.length_map, List.length_take] at this; omega
    have lrv : rv.length = R.length := by rw [dr.lenD, List.length_map]
    refine ⟨_, rfl, vTake rfl x4.pool (by decide) (by decide) fun k5 H5 k50 k51 x5 => ?_⟩
    obtain ⟨k5, rfl⟩ : ∃ k : Nat, k5 = k := ⟨k5.toNat, by omega⟩
    refine ⟨l, c, k5, rfl, x5.pool, by omega, fun H6 pw ws x6 hpw0 hpw lws ndw wdw => ?_⟩
    have nw := (x5.pool.ne hpw0).1
    have x46 := x5.trans x6
    refine ⟨_, rfl, _, rfl, _, rfl, l, c, bx, ph, pn, pw, hs, ns, ws, rfl, x6.pool, B0.ext P0 (x4.trans x46), HS, hpw, by omega, ndw, fun x hx => (wdw x hx).1, fun H7 v7 t7 x7 dv7 ok7 tb7 => ?_⟩
    have x47 := x46.trans x7
    have hr7 := x47.keep _ _ nR hr4
    have hpw7 := x7.keep _ _ nw hpw
    have dr7 := dr.ext x4.pool x47
    have hpn7 := x47.keep _ _ nN hpn4
    -- the earlier row again
    refine ⟨fun σ H' => ∃ (pw : Addr) (ws : List Str) (v : V) (t : Tm) (o6 : Option V), σ = [some (.ref l), some (.ref bx), some (.ref pR), some (.str nms[i]), some (.ref pw), some v, o6] ∧ Ext l c H7 H' ∧ H' pw = some (.lst (ws.map V.str)) ∧ Dt K H' v t.d ∧ TplOk hs ws t ∧ TplB t ∧ ws.length ≤ 3, ?_, ?_⟩
    · refine ⟨_, rfl, !rv.isEmpty, .inl ⟨rv, SqL.of hr7, rfl⟩, ?_⟩
      have keepit : ∀ H8, Ext l c H7 H8 → Ext l c H7 H8 ∧ H8 pw = some (.lst (ws.map V.str)) ∧ Dt K H8 v7 t7.d ∧ TplOk hs ws t7 ∧ TplB t7 ∧ ws.length ≤ 3 := fun H8 x8 =>
        ⟨x8, x8.keep _ _ nw hpw7, dv7.ext x7.pool x8, ok7, tb7, by omega⟩
      rcases List.eq_nil_or_concat R with rfl | ⟨R0, r0, rfl⟩
      · cases dr
        exact iteF (iteF ⟨pw, ws, v7, t7, _, rfl, keepit H7 (Ext.refl x7.pool)⟩)
      rw [List.concat_eq_append] at dr dr7 ok lrv
      have hne : (!rv.isEmpty) = true := by
        cases rv with
        | nil => simp at lrv
        | cons a r => rfl
      rw [hne]
      refine iteT (vTake rfl x7.pool (by decide) (by decide) fun d8 H8 d80 d81 x8 => ⟨rfl, _, rfl, ite2 (fun _ => ?_) (fun _ => ⟨pw, ws, v7, t7, _, rfl, keepit H8 x8⟩)⟩)
      obtain ⟨ok0, tb0, l0⟩ := ok r0 (by simp)
      have hr8 := x8.keep _ _ nR hr7
      have dr8 := dr7.ext x7.pool x8
      rw [List.map_append] at dr8
      obtain ⟨us, zs, rfl, du, dz⟩ := DtAll.splitR dr8
      obtain ⟨u0, rfl, d0⟩ : ∃ u, zs = [u] ∧ Dt K H8 u r0.d := by
        cases dz with
        | cons h t => cases t; exact ⟨_, rfl, h⟩
      have lus : us.length = R0.length := by rw [du.lenD, List.length_map]
      unfold Rw.d at d0
      obtain ⟨a0, y1, y2, y3, rfl, ha0, j1, j2, j3⟩ := Dt.t3 d0
      obtain ⟨a2, ps', rfl, hs2, dps⟩ := Dt.tn j2
      obtain rfl := dps.strsE
      have gl : atI (us ++ [V.ref a0]) (((us ++ [V.ref a0]).length : Nat) - 1 : Int) = some (.ref a0) := by
        have e : (((us ++ [V.ref a0]).length : Nat) : Int) - 1 = ((us.length : Nat) : Int) := by rw [List.length_append]; show ((us.length + 1 : Nat) : Int) - 1 = _; omega
        rw [e]
        refine atI_nat ?_
        rw [List.getElem?_append_right (by omega), Nat.sub_self]; rfl
      refine ⟨_, rfl, _, rfl, pR, _, rfl, .inl (SqL.of hr8), _, _, rfl, rfl, pR, _, _, .ref a0, rfl, rfl, SqL.of hr8, gl, a0, _, _, _, rfl, rfl, ha0, rfl, a2, _, rfl, .inr hs2, fun pw2 hpw2 => ?_⟩
      have s9 := same_new (o := .lst (r0.ps.map V.str)) hpw2
      have x9 := x8.new (o := .lst (r0.ps.map V.str)) x7.pool hpw2
      have hr9 := s9 _ _ hr8
      have nw2 := (x8.pool.ne hpw2).1
      refine ⟨_, rfl, _, rfl, pR, _, rfl, .inl (SqL.of hr9), _, _, rfl, rfl, pR, _, _, .ref a0, rfl, rfl, SqL.of hr9, gl, a0, _, _, _, rfl, rfl, Same.seqT s9 ha0, rfl, ?_⟩
      have hw9 : (upd H8 pw2 (.lst (r0.ps.map V.str))) pw2 = some (.lst (r0.ps.map V.str)) := upd_same
      have j39 := j3.same s9
      generalize upd H8 pw2 (.lst (r0.ps.map V.str)) = H9 at s9 x9 hr9 hw9 j39 ⊢
      refine ⟨_, rfl, !(r0.ps.map V.str).isEmpty, .inl ⟨_, SqL.of hw9, rfl⟩, ?_⟩
      have keep2 : ∀ H8, Ext l c H7 H8 → H8 pw2 = some (.lst (r0.ps.map V.str)) → Dt K H8 y3 r0.t.d → Ext l c H7 H8 ∧ H8 pw2 = some (.lst (r0.ps.map V.str)) ∧ Dt K H8 y3 r0.t.d ∧ TplOk hs r0.ps r0.t ∧ TplB r0.t ∧ r0.ps.length ≤ 3 := fun H8 x8 hw dy =>
        ⟨x8, hw, dy, ok0, tb0, l0⟩
      rcases List.eq_nil_or_concat r0.ps with ep | ⟨ps0, w0, ep⟩
      · rw [ep]
        exact iteF (iteF ⟨pw2, r0.ps, y3, r0.t, _, rfl, keep2 H9 x9 hw9 j39⟩)
      rw [List.concat_eq_append] at ep
      have hne2 : (!(r0.ps.map V.str).isEmpty) = true := by rw [ep]; simp
      rw [hne2]
      refine iteT (vTake rfl x9.pool (by decide) (by decide) fun e10 H10 e100 e101 x10 => ⟨_, _, rfl, rfl, _, rfl, ite2 (fun _ => ?_) (fun _ => ⟨pw2, r0.ps, y3, r0.t, _, rfl, keep2 H10 (x9.trans x10) (x10.keep _ _ nw2 hw9) (j39.ext x9.pool x10)⟩)⟩)
      intro tb htb
      have x11 := (x9.trans x10).new (o := .dK []) x7.pool htb
      have s11 := same_new (o := .dK []) htb
      have hw11 := s11 _ _ (x10.keep _ _ nw2 hw9)
      have j11 := (j39.ext x9.pool x10).same s11
      have ntb := ((x9.trans x10).pool.ne htb).1
      have htb11 : (upd H10 tb (.dK [])) tb = some (.dK []) := upd_same
      generalize upd H10 tb (.dK []) = H11 at x11 s11 hw11 j11 htb11 ⊢
      have B11 := B0.ext P0 ((x4.trans x47).trans x11)
      obtain ⟨kvs, hb, e1, e2, _⟩ := B11.at_
      refine ⟨_, rfl, _, rfl, bx, .ref pn, rfl, by rw [← e2]; exact DGet.k (k := Sum.inr "names") hb, l, c, pn, ns, rfl, x11.pool, B11.nm, fun H12 v12 a12 x12 dv12 at12 tn12 => ?_⟩
      have hw12 := x12.keep _ _ nw2 hw11
      have htb12 := x12.keep _ _ ntb htb11
      rw [ep, List.map_append] at hw12
      have hw12 : H12 pw2 = some (.lst (ps0.map V.str ++ [V.str w0])) := hw12
      refine ⟨_, rfl, _, rfl, .inl ⟨rfl, _, SqL.of hw12⟩, pw2, _, .str w0, rfl, rfl, hw12, by simp, ?_⟩
      have ntp : tb ≠ pw2 := fun z => by rw [z] at htb12; rw [htb12] at hw12; cases hw12
      have x12' : Ext l c H7 H12 := x11.trans x12
      have hp70 : H7 pw2 = none := x8.free x7.pool hpw2
      have x13 : Ext l c H7 (upd H12 pw2 (.lst (List.dropLast (ps0.map V.str ++ [V.str w0])))) := x12'.upd x7.pool hp70
      have htb13 : (upd H12 pw2 (.lst (List.dropLast (ps0.map V.str ++ [V.str w0])))) tb = some (.dK []) := by rw [upd_ne ntp]; exact htb12
      have hw13 : (upd H12 pw2 (.lst (List.dropLast (ps0.map V.str ++ [V.str w0])))) pw2 = some (.lst (ps0.map V.str)) := by rw [upd_same, List.dropLast_concat]
      have dv13 : Dt K (upd H12 pw2 (.lst (List.dropLast (ps0.map V.str ++ [V.str w0])))) v12 a12.d := dv12.updL hw12
      have j13 : Dt K (upd H12 pw2 (.lst (List.dropLast (ps0.map V.str ++ [V.str w0])))) y3 r0.t.d := (j11.ext x11.pool x12).updL hw12
      generalize upd H12 pw2 (.lst (List.dropLast (ps0.map V.str ++ [V.str w0]))) = H13 at x13 htb13 hw13 dv13 j13 ⊢
      refine ⟨tb, _, rfl, DPut.k (k := Sum.inr w0) htb13 (smallL (by show 0 < _; decide)), ?_⟩
      have kD : ∀ v d, Dt K H13 v d → Dt K (upd H13 tb (.dK (putK [] (Sum.inr w0) v12))) v d := fun v d z => Dt.mono (fun _ _ y => seqT_updK y htb13) _ _ z
      have htb7 : H7 tb = none := (x9.trans x10).free x7.pool htb
      have x14 : Ext l c H7 (upd H13 tb (.dK (putK [] (Sum.inr w0) v12))) := x13.upd x7.pool htb7
      have bd : BindE K (upd H13 tb (.dK (putK [] (Sum.inr w0) v12))) (putK [] (Sum.inr w0) v12) ([] ++ [(w0, a12)]) := (BindE.nil.put dv13).mono kD
      have ok0' := ok0
      rw [ep] at ok0'
      obtain ⟨okp, bp⟩ := tpl_put ok0' tb0 at12 tn12
      refine ⟨_, rfl, _, rfl, y3, tb, r0.t, _, _, rfl, kD _ _ j13, upd_same, bd, ok0.pl, tb0.2, fun H15 v15 s15 dv15 => ?_⟩
      have hw15 := s15 _ _ (show (upd H13 tb (.dK (putK [] (Sum.inr w0) v12))) pw2 = some (.lst (ps0.map V.str)) by rw [upd_ne ntp.symm]; exact hw13)
      exact ⟨pw2, ps0, v15, _, _, rfl, x14.same s15, hw15, dv15, okp, bp, by rw [ep, List.length_append] at l0; omega⟩
    rintro σ H8 ⟨pw8, ws8, v8, t8, o68, rfl, x8, hpw8, dv8, ok8, tb8, l8⟩
    have hr8 := x8.keep _ _ nR hr7
    have dr8 := dr7.ext x7.pool x8
    refine ⟨_, rfl, .inl ⟨rfl, _, SqL.of hr8⟩, ⟨_, rfl, _, rfl, pw8, _, rfl, .inl ⟨SqL.of hpw8, fun pt hpt => ⟨_, rfl, small (by show 3 ≤ _; decide), fun pn' hpn' => ?_⟩⟩⟩⟩
    have s9 : Same H8 (upd (upd H8 pt (.tup (ws8.map V.str))) pn' (.tup [.str nms[i], .ref pt, v8])) := (same_new hpt).trans (same_new hpn')
    have x48 := x47.trans (x8.same s9)
    have hr9 := s9 _ _ hr8
    refine ⟨pR, rv, _, rfl, rfl, hr9, smallL (by omega), R ++ [⟨nms[i], ws8, t8⟩], rv ++ [.ref pn'], _, _, _, _, rfl, (x4.trans x48).upd P0 hR, ?_, upd_same, ?_, ?_, fun r hr' => ?_⟩
    · have := (x47.trans (x8.same s9)).keep _ _ nN hpn4
      rw [upd_ne (fun z => ?_)]
      · exact this
      · have h0 := hpnm
        have h1 := (x2.trans x3).keep _ _ nR (upd_same (H := H) (a := pR) (o := .lst []))
        rw [z, h1] at h0
        cases nms with
        | nil => simp at hi
        | cons a r => cases h0
    · rw [List.map_append]
      refine ((dr8.same s9).append (.cons ?_ .nil)).upd hr9
      unfold Rw.d
      exact Dt.mk3 hpn' (.str _) (.tup (SqT.of upd_same) (DtAll.strs ws8)) (dv8.same (same_new hpt))
    · rw [List.map_append, en, List.take_add_one, List.getElem?_eq_getElem hi]; rfl
    · rcases List.mem_append.mp hr' with h | h
      · exact ok r h
      · rw [List.mem_singleton.mp h]; exact ⟨ok8, tb8, l8⟩
  · rintro σ H4 ⟨R, rv, o3, o4, o5, o6, rfl, x4, hpn4, hr4, dr, en, ok⟩
    rw [List.length_map, List.take_length] at en
    have lR : R.length = nms.length := by have := congrArg List.length en; rw [List.length_map] at this; exact this
    refine ⟨_, rfl, pR, rv, rfl, .inl ⟨SqL.of hr4, fun pt hpt => ?_⟩⟩
    refine q _ _ R (x4.new P0 hpt) (.tup (SqT.of upd_same) (dr.same (same_new hpt))) ⟨⟨by rw [en]; exact ndn, fun r hr' => (ok r hr').1⟩, fun r hr' => (ok r hr').2.1, ⟨?_, fun h hh => ?_, fun h hh => ?_⟩⟩ (by omega) (by omega)
    · unfold rHds
      rw [List.map_map]
      show (R.map fun r => r.nm).Nodup
      rw [show (R.map fun r => r.nm) = nms from en]; exact ndn
    · obtain ⟨r, hr', rfl⟩ := List.mem_map.mp hh
      have : r.nm ∈ nms := by rw [← en]; exact List.mem_map.mpr ⟨r, hr', rfl⟩
      exact (wdn _ this).1
    · obtain ⟨r, hr', rfl⟩ := List.mem_map.mp hh
      exact (ok r hr').2.2
end
end PK
namespace PK
open PySem L2
/-! boxes and drawn terms -/
def gs : Nat → Nat
  | 0 => 1
  | n + 1 => 1 + 3 * gs n
theorem gs_pos (n : Nat) : 1 ≤ gs n := by cases n with
  | zero => exact Nat.le_refl _
  | succ n => show 1 ≤ 1 + _; omega
/-- a box with its rows -/
structure BoxR (K : PySem.W.Frag) (H : Hp) (l bx pn : Addr) (ws : List Str) (R : List Rw) : Prop where
  ne : bx ≠ l
  at_ : ∃ kvs v, H bx = some (.dK kvs) ∧ valV kvs (Sum.inr "names") = some (.ref pn) ∧ valV kvs (Sum.inr "rows") = some v ∧ Dt K H v (.tuple (R.map Rw.d))
  nm : Nm H l pn ws
theorem BoxR.ext {K : PySem.W.Frag} {H H' : Hp} {l c bx pn : Addr} {ws : List Str} {R : List Rw} (B : BoxR K H l bx pn ws R) (P : Pool H l c) (x : Ext l c H H') : BoxR K H' l bx pn ws R := by
  obtain ⟨kvs, v, h1, h2, h3, h4⟩ := B.at_
  exact ⟨B.ne, ⟨kvs, v, x.keep _ _ B.ne h1, h2, h3, h4.ext P x⟩, B.nm.ext x⟩
def spBox (K : PySem.W.Frag) : Sp := fun vs H Q _ => ∃ (l c : Addr), vs = [.ref l] ∧ Pool H l c ∧ ∀ (H' : Hp) (bx ph pn : Addr) (hs : Hds) (ws : List Str) (R : List Rw), Ext l c H H' → H bx = none → Box K H' l bx ph pn hs ws → HsOk hs → BoxR K H' l bx pn ws R → RwsOk hs R → 2 ≤ R.length → R.length ≤ 6 → ws.length ≤ 2 → ws.Nodup → hs.length ≤ 3 → Q (.ref bx) H'
def spOver (K : PySem.W.Frag) (n : Nat) : Sp := fun vs H Q _ => ∃ (l c ph pn : Addr) (hv : List V) (hs : Hds) (ws : List Str) (d : Nat), vs = [.ref l, .ref ph, .ref pn, .int (d : Nat)] ∧ d < n ∧ Pool H l c ∧ ph ≠ l ∧ H ph = some (.lst hv) ∧ DtAll K H hv (hs.map hdD) ∧ HdOk hs ∧ 0 < hs.length ∧ hs.length ≤ 100 ∧ Nm H l pn ws ∧ ws.length ≤ 2 ∧ ws.Nodup ∧
  ∀ (H' : Hp) (v : V) (t : Tm), Ext l c H H' → Dt K H' v t.d → TT hs [] t → t.ht ≤ d + 1 → t.size ≤ gs d → Q v H'
def spSource (K : PySem.W.Frag) : Sp := fun vs H Q _ => ∃ (l c bx pn : Addr) (ws : List Str) (R : List Rw) (d : Nat), vs = [.ref l, .ref bx, .int (d : Nat)] ∧ d ≤ 4 ∧ Pool H l c ∧ BoxR K H l bx pn ws R ∧ HdOk (rHds R) ∧ 0 < R.length ∧ R.length ≤ 100 ∧ ws.length ≤ 2 ∧ ws.Nodup ∧
  ∀ (H' : Hp) (v : V) (t : Tm), Ext l c H H' → Dt K H' v t.d → TT (rHds R) [] t → t.ht ≤ d + 1 → t.size ≤ gs d → Q v H'
section
variable {P : Program} {w : World} {K : PySem.W.Frag} {mg : Str → Option Value} {base : Heap}
abbrev s_law_box : Stmt := topS 25
theorem sc_law_box : FnScope ["pool", "heads", "word", "box"] ["pool"] (defScope s_law_box) := ⟨rfl, rfl, rfl, by decide +kernel, rfl, by decide +kernel, by decide +kernel⟩
-- slots: 0:pool 1:heads 2:word 3:box
abbrev s_law_over : Stmt := topS 26
theorem sc_law_over : FnScope ["pool", "heads", "names", "depth", "kind", "told", "head", "name", "place"] ["pool", "heads", "names", "depth"] (defScope s_law_over) := ⟨rfl, rfl, rfl, by decide +kernel, rfl, by decide +kernel, by decide +kernel⟩
-- slots: 0:pool(cell) 1:heads(cell) 2:names(cell) 3:depth(cell) 4:kind 5:told 6:head 7:name(comp) 8:place(comp)
abbrev s_law_source : Stmt := topS 27
theorem sc_law_source : FnScope ["pool", "box", "depth", "row"] ["pool", "box", "depth"] (defScope s_law_source) := ⟨rfl, rfl, rfl, by decide +kernel, rfl, by decide +kernel, by decide +kernel⟩
-- slots: 0:pool 1:box 2:depth 3:row(comp)
theorem ok_box {f : Addr} {fd : FuncData} (F : Fun K "_law_box" "_law_box" s_law_box f fd) (T : Txt K mg) (C_law_take : C8.Cal P w K mg base 2 "_law_take" (spTake 2) []) (C_law_words : C8.Cal P w K mg base 3 "_law_words" spWords []) (C_law_rows : C8.Cal P w K mg base 10 "_law_rows" (spRows K) []) :
    FnOk P w K mg base CX0 11 f fd ["pool"] (spBox K) := by
  refine F.ok sc_law_box (fun vs H Q E h => ?_) (fun cdv A outer s H vs Q E hr h => ?_)
  · obtain ⟨_, _, rfl, _⟩ := h
    rfl
  obtain ⟨l, c, rfl, P0, q⟩ := h
  refine ⟨_, (pss_cons (ps_set (i := 1) sc_law_box.nd rfl (Or.inl rfl) (pe_lst pa_nil))
    (pss_cons (ps_for PassesOwn.never rfl (pi_list (C8.pe_c C_law_words hr (by decide) rfl (pa_cons (pv 0) (pa_cons (pe_op op_add pe_int (C8.pe_c C_law_take hr (by decide) rfl (pa_cons (pv 0) (pa_cons pe_int pa_nil)))) pa_nil)))) (pg_name (i := 2) sc_law_box.nd rfl (Or.inl rfl)) (pss_one (ps_expr (pe_bm PySem.F.plainAttrs_list PySem.F.slot_list_append PySem.F.type_list_append mt_append (pv 1) (pa_cons (pe_tup (pa_cons (pv 2) (pa_cons (pe_ix ix_tup (pe_tup (pa_cons pe_int (pa_cons (C8.pe_c C_law_take hr (by decide) rfl (pa_cons (pv 0) (pa_cons pe_int pa_nil))) pa_nil))) (pe_callB (call_min2 (by rfl)) (by rfl) T.z_min (by decide +kernel) (pa_cons (pe_callB call_len_seq (by rfl) T.z_len (by decide +kernel) (pa_cons (pv 1) pa_nil)) (pa_cons pe_int pa_nil))) (fun _ _ => rfl)) pa_nil))) pa_nil)))))
    (pss_cons (ps_set (i := 3) sc_law_box.nd rfl (Or.inl rfl) (pe_disp (pps_cons pe_str (pv 1) (pps_cons pe_str (C8.pe_c C_law_words hr (by decide) rfl (pa_cons (pv 0) (pa_cons (pe_op op_add pe_int (C8.pe_c C_law_take hr (by decide) rfl (pa_cons (pv 0) (pa_cons pe_int pa_nil)))) pa_nil))) pps_nil)) (by rfl) (by rfl) (fun z => by cases z) (by decide)))
    (pss_cons (ps_dput (hu_of hr) (pv 3) pe_str (C8.pe_c C_law_rows hr (by decide) rfl (pa_cons (pv 0) (pa_cons (pv 3) pa_nil))) rfl)
    (pss_one (ps_ret (pv 3))))))), ?_⟩
  refine ⟨Nat.zero_le _, fun ph hph => ?_⟩
  have x1 := (Ext.refl P0).new (o := .lst []) P0 hph
  have nh := (P0.ne hph).1
  refine ⟨_, rfl, vTake rfl x1.pool (by decide) (by decide) fun m H2 m0 m1 x2 => ⟨_, _, rfl, rfl, ?_⟩⟩
  obtain ⟨m, rfl⟩ : ∃ k : Nat, m = k := ⟨m.toNat, by omega⟩
  refine ⟨l, c, 1 + m, by rw [Int.natCast_add]; rfl, x2.pool, by omega, fun H3 pw ws x3 hpw0 hpw lws ndw wdw => ?_⟩
  have nw := (x2.pool.ne hpw0).1
  have npw : ph ≠ pw := fun z => by
    have := x2.keep _ _ nh (upd_same (H := H) (a := ph) (o := .lst []))
    rw [z, hpw0] at this; cases this
  have x13 := (x1.trans x2).trans x3
  refine ⟨pw, rfl, ⟨_, SqL.of hpw⟩, for_it (walk_list (K := K) (xs := ws.map V.str)) (fun i σ H' => ∃ (hs : Hds) (hv : List V) (o2 : Option V), σ = [some (.ref l), some (.ref ph), o2, none] ∧ Ext l c H H' ∧ H' pw = some (.lst (ws.map V.str)) ∧ H' ph = some (.lst hv) ∧ DtAll K H' hv (hs.map hdD) ∧ hs.map Prod.fst = ws.take i ∧ (∀ h ∈ hs, h.2 ≤ 2) ∧ ∀ h : 0 < hs.length, hs[0].2 = 2) ?_ ?_ ?_ ?_⟩
  · exact ⟨[], [], _, rfl, x13, hpw, (x2.trans x3).keep _ _ nh upd_same, .nil, rfl, fun h z => absurd z List.not_mem_nil, fun z => absurd z (by decide)⟩
  · rintro i σ H' _ ⟨_, _, _, _, _, h, _⟩
    exact SqL.of h
  · rintro i x σ H4 H4 hi ⟨hs, hv, o2, rfl, x4, hpw4, hph4, dh, en, ha, h2⟩ ⟨rfl, gx⟩
    rw [List.length_map] at hi
    rw [List.getElem?_map, List.getElem?_eq_getElem hi] at gx
    cases gx
    have lh : hs.length = i := by have := congrArg List.length en; rw [List.length_map, List.length_take] at this; omega
    have lhv : hv.length = hs.length := by rw [dh.lenD, List.length_map]
    refine ⟨_, rfl, .inl ⟨rfl, _, SqL.of hph4⟩, ⟨_, rfl, ?_⟩⟩
    refine vTake rfl x4.pool (by decide) (by decide) fun e H5 e0 e1 x5 => ⟨small (by show 2 ≤ _; decide), fun p5 hp5 => ?_⟩
    have x6 := x5.new (o := .tup [.int 2, .int e]) x4.pool hp5
    have hph6 := x6.keep _ _ nh hph4
    have s6 := same_new (o := .tup [.int 2, .int e]) hp5
    refine ⟨_, rfl, ph, _, rfl, .inl (SqL.of hph6), ?_⟩
    obtain ⟨ar, har, hl2, h20⟩ : ∃ ar : Nat, atI [V.int 2, V.int e] (if (1 : Int) < ((hv.length : Nat) : Int) then 1 else ((hv.length : Nat) : Int)) = some (.int (ar : Nat)) ∧ ar ≤ 2 ∧ (hs.length = 0 → ar = 2) := by
      by_cases z : hv.length = 0
      · rw [if_neg (by omega), z]
        exact ⟨2, atI_nat (j := 0) rfl, Nat.le_refl _, fun _ => rfl⟩
      · have : (if (1 : Int) < ((hv.length : Nat) : Int) then 1 else ((hv.length : Nat) : Int)) = ((1 : Nat) : Int) := by split <;> omega
        rw [this]
        exact ⟨e.toNat, by rw [show ((e.toNat : Nat) : Int) = e by omega]; exact atI_nat (j := 1) rfl, by omega, fun z' => by omega⟩
    refine ⟨_, _, rfl, p5, _, _, _, rfl, rfl, SqT.of upd_same, har, small (by show 2 ≤ _; decide), fun p6 hp6 => ?_⟩
    have s7 := s6.trans (same_new (o := .tup [.str ws[i], .int (ar : Nat)]) hp6)
    have hph7 := same_new (o := .tup [.str ws[i], .int (ar : Nat)]) hp6 _ _ hph6
    have x7 := x5.same s7
    refine ⟨ph, hv, _, rfl, rfl, hph7, smallL (by omega), hs ++ [(ws[i], ar)], hv ++ [.ref p6], _, rfl, (x4.trans x7).upd P0 hph, ?_, upd_same, ?_, ?_, fun h hh => ?_, fun hz => ?_⟩
    · rw [upd_ne npw.symm]; exact x7.keep _ _ nw hpw4
    · rw [List.map_append]
      exact ((dh.ext x4.pool x7).append (.cons (Dt.mk2 hp6 (.str _) (.int _)) .nil)).upd hph7
    · rw [List.map_append, en, List.take_add_one, List.getElem?_eq_getElem hi]; rfl
    · rcases List.mem_append.mp hh with z | z
      · exact ha h z
      · rw [List.mem_singleton.mp z]; exact hl2
    · by_cases z : hs.length = 0
      · have : hs = [] := List.length_eq_zero_iff.mp z
        subst this
        exact h20 rfl
      · rw [List.getElem_append_left (by omega)]
        exact h2 (by omega)
  rintro σ H4 ⟨hs, hv, o2, rfl, x4, hpw4, hph4, dh, en, ha, h2⟩
  rw [List.length_map, List.take_length] at en
  have lh : hs.length = ws.length := by have := congrArg List.length en; rw [List.length_map] at this; exact this
  have HS : HsOk hs := ⟨⟨by rw [en]; exact ndw, fun h hh => (wdw h.1 (by rw [← en]; exact List.mem_map.mpr ⟨h, hh, rfl⟩)).1, fun h hh => by have := ha h hh; omega⟩, by omega, by omega, h2⟩
  refine fun bx hbx => ?_
  have x4' := (Ext.refl x4.pool).new (o := .dK []) x4.pool hbx
  have hbx0 := x4.free P0 hbx
  have nbx := (x4.pool.ne hbx).1
  refine ⟨_, rfl, _, rfl, vTake rfl x4'.pool (by decide) (by decide) fun m5 H5 m50 m51 x5 => ⟨_, _, rfl, rfl, ?_⟩⟩
  obtain ⟨m5, rfl⟩ : ∃ k : Nat, m5 = k := ⟨m5.toNat, by omega⟩
  refine ⟨l, c, 1 + m5, by rw [Int.natCast_add]; rfl, x5.pool, by omega, fun H6 pn ns x6 hpn0 hpn lns ndn wdn => ?_⟩
  have nn := (x5.pool.ne hpn0).1
  have hbx6 : H6 bx = some (.dK []) := (x5.trans x6).keep _ _ nbx upd_same
  refine ⟨hbx6, [(Sum.inr "heads", .ref ph), (Sum.inr "names", .ref pn)], rfl, by show 2 ≤ 15; decide, ?_⟩
  have nph : ph ≠ bx := ne_of_none hph4 hbx
  have x7 : Ext l c H (upd H6 bx (.dK (mergeK [] [(Sum.inr "heads", .ref ph), (Sum.inr "names", .ref pn)]))) := (((x4.trans x4').trans x5).trans x6).upd P0 hbx0
  have hph7 : (upd H6 bx (.dK (mergeK [] [(Sum.inr "heads", .ref ph), (Sum.inr "names", .ref pn)]))) ph = some (.lst hv) := by
    rw [upd_ne nph]
    exact ((x4'.trans x5).trans x6).keep _ _ nh hph4
  have npb : pn ≠ bx := fun z => by rw [z, hbx6] at hpn; cases hpn
  have hpn7 : (upd H6 bx (.dK (mergeK [] [(Sum.inr "heads", .ref ph), (Sum.inr "names", .ref pn)]))) pn = some (.lst (ns.map V.str)) := by
    rw [upd_ne npb]; exact hpn
  have dh7 : DtAll K (upd H6 bx (.dK (mergeK [] [(Sum.inr "heads", .ref ph), (Sum.inr "names", .ref pn)]))) hv (hs.map hdD) := DtAll.mono (fun _ _ z => seqT_updK z hbx6) _ _ (dh.ext x4.pool ((x4'.trans x5).trans x6))
  have hbx7 : (upd H6 bx (.dK (mergeK [] [(Sum.inr "heads", .ref ph), (Sum.inr "names", .ref pn)]))) bx = some (.dK [(Sum.inr "heads", .ref ph), (Sum.inr "names", .ref pn)]) := upd_same
  generalize upd H6 bx (.dK (mergeK [] [(Sum.inr "heads", .ref ph), (Sum.inr "names", .ref pn)])) = H7 at x7 hph7 hpn7 dh7 hbx7 ⊢
  have N7 : Nm H7 l pn ns := ⟨hpn7, nn, by omega, fun z => by rw [z] at lns; simp at lns; omega, fun x hx => (wdn x hx).1⟩
  have B7 : Box K H7 l bx ph pn hs ns := ⟨nbx, ⟨_, hbx7, rfl, rfl, by show 2 ≤ 10; decide⟩, nh, ⟨hv, hph7, dh7⟩, N7⟩
  refine ⟨_, rfl, _, rfl, l, c, bx, ph, pn, hs, ns, rfl, x7.pool, B7, HS, fun H8 v8 R x8 dv8 rok lR2 lR6 => ?_⟩
  have hbx8 := x8.keep _ _ nbx hbx7
  refine ⟨_, rfl, bx, _, rfl, DPut.k (k := Sum.inr "rows") hbx8 (smallL (by show 2 < _; decide)), ?_⟩
  have kD : ∀ v d, Dt K H8 v d → Dt K (upd H8 bx (.dK (putK [(Sum.inr "heads", .ref ph), (Sum.inr "names", .ref pn)] (Sum.inr "rows") v8))) v d := fun v d z => Dt.mono (fun _ _ y => seqT_updK y hbx8) _ _ z
  have N8 := N7.ext x8
  have hn8 : (upd H8 bx (.dK (putK [(Sum.inr "heads", .ref ph), (Sum.inr "names", .ref pn)] (Sum.inr "rows") v8))) pn = some (.lst (ns.map V.str)) := by rw [upd_ne npb]; exact N8.at_
  have hh8 : (upd H8 bx (.dK (putK [(Sum.inr "heads", .ref ph), (Sum.inr "names", .ref pn)] (Sum.inr "rows") v8))) ph = some (.lst hv) := by rw [upd_ne nph]; exact x8.keep _ _ nh hph7
  have N9 : Nm (upd H8 bx (.dK (putK [(Sum.inr "heads", .ref ph), (Sum.inr "names", .ref pn)] (Sum.inr "rows") v8))) l pn ns := ⟨hn8, N8.ne, N8.le, N8.nn, N8.wd⟩
  exact ⟨_, rfl, q _ bx ph pn hs ns R ((x7.trans x8).upd P0 hbx0) hbx0 ⟨nbx, ⟨_, upd_same, rfl, rfl, by show 3 ≤ 10; decide⟩, nh, ⟨hv, hh8, DtAll.mono (fun _ _ z => seqT_updK z hbx8) _ _ (dh7.ext x7.pool x8)⟩, N9⟩ HS ⟨nbx, ⟨_, v8, upd_same, rfl, rfl, kD _ _ dv8⟩, N9⟩ rok lR2 lR6 (by omega) ndn (by omega)⟩
theorem ok_over {n : Nat} {f : Addr} {fd : FuncData} (F : Fun K "_law_over" "_law_over" s_law_over f fd) (T : Txt K mg) (C_law_take : C8.Cal P w K mg base 2 "_law_take" (spTake 2) []) (C_law_small : C8.Cal P w K mg base 3 "_law_small" (spSmall K) []) (C_law_pick : C8.Cal P w K mg base 3 "_law_pick" (spPick K) [])
    (C_law_over : C8.Cal P w K mg base (n + 3) "_law_over" (spOver K n) []) : FnOk P w K mg base CX0 (n + 4) f fd ["pool", "heads", "names", "depth"] (spOver K (n + 1)) := by
  refine F.ok sc_law_over (fun vs H Q E h => ?_) (fun cdv A outer s H vs Q E hr h => ?_)
  · obtain ⟨_, _, _, _, _, _, _, _, rfl, _⟩ := h
    rfl
  obtain ⟨l, c, ph, pn, hv, hs, ws, d, rfl, hd, P0, nh, hph, dh, hok, h0, h100, N, lws, ndw, q⟩ := h
  refine ⟨_, (pss_cons (ps_set (i := 4) sc_law_over.nd rfl (Or.inl rfl) (C8.pe_c C_law_take hr (by omega) rfl (pa_cons (pv 0) (pa_cons pe_int pa_nil))))
    (pss_cons (ps_if (PW.pt (pw_or (pt_cmpR op_lt (pv 3) pe_int (nomark _)) (pw_or1 (pt_cmpR op_eq (pv 4) pe_int (nomark _))))) (pss_one (ps_ret (C8.pe_c C_law_small hr (by omega) rfl (pa_cons (pv 0) (pa_cons (pv 2) pa_nil))))) pss_nil)
    (pss_cons (ps_if (pt_cmpR op_eq (pv 4) pe_int (nomark _)) (pss_cons (ps_setLc (i := 5) (own := [("name", 7)]) (g := (gName 7)) (by rfl) sc_law_over.nd rfl rfl (sw_true rfl rfl rfl (by decide +kernel)) (pi_list (pe_callB PKS.cr_sortedSA (by rfl) T.z_sorted (by decide +kernel) (pa_cons (pv 2) pa_nil))) (blkOk_by (N := ["pool", "heads", "names", "depth", "kind", "told", "head", "name", "place"]) (sc := defScope s_law_over) (by decide +kernel)) (fun _ _ _ _ _ => (pg_name (i := 7) sc_law_over.nd rfl (Or.inl rfl))) (fun _ _ _ _ _ => pts_one (pt_cmpR op_eq (C8.pe_c C_law_take hr (by omega) rfl (pa_cons (pv 0) (pa_cons pe_int pa_nil))) pe_int (nomark _))) (fun _ _ _ _ _ => (pv 7)))
    (pss_one (ps_ret (pe_tup (pa_cons pe_str (pa_cons (pe_callTy call_tuple_of (by rfl) T.z_tuple (by decide +kernel) (pa_cons (pe_lc (own := [("name", 7)]) (g := (gName 7)) (tt := tYes) (by rfl) sc_law_over.nd (pi_list (pv 5)) (blkOk_by (N := ["pool", "heads", "names", "depth", "kind", "told", "head", "name", "place"]) (sc := defScope s_law_over) (by decide +kernel)) (fun _ _ _ _ _ => (pg_name (i := 7) sc_law_over.nd rfl (Or.inl rfl))) (fun _ _ _ _ _ => pts_nil) (fun _ _ _ _ _ => (pe_tup (pa_cons (pv 7) (pa_cons (C8.pe_c C_law_over hr (by omega) rfl (pa_cons (pv 0) (pa_cons (pv 1) (pa_cons (pv 2) (pa_cons (pe_op op_sub (pv 3) pe_int) pa_nil))))) pa_nil))))) pa_nil)) pa_nil)))))) pss_nil)
    (pss_cons (ps_set (i := 6) sc_law_over.nd rfl (Or.inl rfl) (C8.pe_c C_law_pick hr (by omega) rfl (pa_cons (pv 0) (pa_cons (pv 1) pa_nil))))
    (pss_one (ps_ret (pe_tup (pa_cons pe_str (pa_cons (pe_ix ix_tup (pv 6) pe_int (fun _ _ => rfl)) (pa_cons (pe_callTy call_tuple_of (by rfl) T.z_tuple (by decide +kernel) (pa_cons (pe_lc (own := [("place", 8)]) (g := (gName 8)) (tt := tYes) (by rfl) sc_law_over.nd (pi_range1 (by rfl) T.z_range (pa_cons (pe_ix ix_tup (pv 6) pe_int (fun _ _ => rfl)) pa_nil)) (blkOk_by (N := ["pool", "heads", "names", "depth", "kind", "told", "head", "name", "place"]) (sc := defScope s_law_over) (by decide +kernel)) (fun _ _ _ _ _ => (pg_name (i := 8) sc_law_over.nd rfl (Or.inl rfl))) (fun _ _ _ _ _ => pts_nil) (fun _ _ _ _ _ => (C8.pe_c C_law_over hr (by omega) rfl (pa_cons (pv 0) (pa_cons (pv 1) (pa_cons (pv 2) (pa_cons (pe_op op_sub (pv 3) pe_int) pa_nil))))))) pa_nil)) pa_nil)))))))))), ?_⟩
  have lhv : hv.length = hs.length := by rw [dh.lenD, List.length_map]
  refine vTake rfl P0 (by decide) (by decide) fun k H1 k0 k1 x1 => ?_
  have N1 := N.ext x1
  have leafQ : ∀ H2 v t, Ext l c H1 H2 → Dt K H2 v t.d → t.atom → (∀ hs ps, tN hs ps t) → Q v H2 := fun H2 v t x2 dv at_ tn => q H2 v t (x1.trans x2) dv (TT.leaf (tn hs []) (atom_kids at_)) (by
    have : t.ht ≤ 0 + 1 := Tm.ht_le fun k hk => by rw [atom_kids at_] at hk; cases hk
    omega) (by rw [Tm.size_eq, atom_kids at_]; have := gs_pos d; show 1 + 0 ≤ _; omega)
  refine ⟨_, rfl, _, _, rfl, rfl, _, rfl, ite2 (fun _ => ?_) (fun e => ?_)⟩
  · exact iteT ⟨_, rfl, _, rfl, l, c, pn, ws, rfl, x1.pool, N1, leafQ⟩
  have hd1 : 1 ≤ d := by
    by_cases z : (d : Int) < 1
    · exact absurd (decide_eq_true z) e
    · omega
  obtain ⟨d, rfl⟩ : ∃ j, d = j + 1 := ⟨d - 1, by omega⟩
  refine ⟨_, rfl, rfl, _, rfl, ite2 (fun _ => ?_) (fun _ => ?_)⟩
  · exact ⟨_, rfl, _, rfl, l, c, pn, ws, rfl, x1.pool, N1, leafQ⟩
  refine ⟨_, rfl, rfl, _, rfl, ite2 (fun _ => ?_) (fun _ => ?_)⟩
  · -- a map
    refine ⟨_, rfl, pn, ws, rfl, SqL.of N1.at_, small (by have := N.le; omega), fun ys py pm so hpy => ?_⟩
    have lys : ys.length = ws.length := pm.length_eq
    have x2 := (Ext.refl x1.pool).new (o := .lst (ys.map V.str)) x1.pool hpy
    have npy := (x1.pool.ne hpy).1
    have wys : ∀ x ∈ ys, Wd x := fun x hx => N.wd x (pm.mem_iff.mp hx)
    have nys : ys.Nodup := pm.nodup_iff.mpr ndw
    have N2 := N1.ext x2
    have hpy2 : (upd H1 py (.lst (ys.map V.str))) py = some (.lst (ys.map V.str)) := upd_same
    generalize upd H1 py (.lst (ys.map V.str)) = H2 at x2 N2 hpy2 ⊢
    refine ⟨py, rfl, ⟨_, SqL.of hpy2⟩, fun D hD => ?_⟩
    have nD := (x2.pool.ne hD).1
    have nDp : D ≠ py := (ne_of_none hpy2 hD).symm
    refine lc_it (walk_list (K := K) (xs := ys.map V.str)) (fun i H' => ∃ zs : List Str, Ext l c H2 H' ∧ H' py = some (.lst (ys.map V.str)) ∧ H' D = some (.lst (zs.map V.str)) ∧ zs.Sublist (ys.take i)) ?_ ?_ ?_ ?_
    · exact ⟨[], (Ext.refl x2.pool).new x2.pool hD, by rw [upd_ne nDp.symm]; exact hpy2, upd_same, List.Sublist.refl _⟩
    · rintro i H' _ ⟨_, _, h, _⟩
      exact SqL.of h
    · rintro i x H3 H3 hi ⟨zs, x3, hpy3, hD3, sl⟩ ⟨rfl, gx⟩
      rw [List.length_map] at hi
      rw [List.getElem?_map, List.getElem?_eq_getElem hi] at gx
      cases gx
      have lz : zs.length ≤ i := by have := sl.length_le; rw [List.length_take] at this; omega
      refine ⟨rfl, vTake rfl x3.pool (by decide) (by decide) fun e H4 e0 e1 x4 => ⟨rfl, _, rfl, ite2 (fun _ => ?_) (fun _ => ?_)⟩⟩
      · have hD4 := x4.keep _ _ nD hD3
        refine ⟨_, rfl, _, hD4, smallL (by rw [List.length_map]; have := N.le; omega), zs ++ [ys[i]], (x3.trans x4).upd x2.pool hD, ?_, by rw [upd_same, List.map_append]; rfl, ?_⟩
        · rw [upd_ne nDp.symm]; exact x4.keep _ _ npy hpy3
        · rw [List.take_add_one, List.getElem?_eq_getElem hi]
          exact sl.append (List.Sublist.refl _)
      · refine ⟨zs, x3.trans x4, x4.keep _ _ npy hpy3, x4.keep _ _ nD hD3, ?_⟩
        rw [List.take_add_one]
        exact sl.trans (List.sublist_append_left _ _)
    rintro H3 ⟨zs, x3, hpy3, hD3, sl⟩
    rw [List.length_map, List.take_length] at sl
    have wzs : ∀ x ∈ zs, Wd x := fun x hx => wys x (sl.subset hx)
    have nzs : zs.Nodup := sl.nodup nys
    have lzs : zs.length ≤ 2 := by have := sl.length_le; omega
    have x13 := (x1.trans x2).trans x3
    -- the entries
    refine ⟨_, rfl, D, rfl, ⟨_, SqL.of hD3⟩, fun D2 hD2 => lcX (K := K) (walk_list (xs := zs.map V.str)) x3.pool hD2 (by rw [List.length_map]; omega) (fun ds => ∃ es : List (Str × Tm), ds = es.map Tm.ent ∧ es.map Prod.fst = zs.take ds.length ∧ ∀ e ∈ es, TT hs [] e.2 ∧ e.2.ht ≤ d + 1 ∧ e.2.size ≤ gs d) ⟨[], rfl, rfl, fun e h => absurd h List.not_mem_nil⟩ (fun H' x => SqL.of (x.keep _ _ nD hD3)) ?_ ?_⟩
    · rintro i x H4 H4 ds R hi x4 ⟨rfl, gx⟩ ⟨es, rfl, en, ok⟩ len r
      rw [List.length_map] at hi len
      rw [List.getElem?_map, List.getElem?_eq_getElem hi] at gx
      cases gx
      have x14 := x13.trans x4
      refine ⟨rfl, _, rfl, _, rfl, _, rfl, _, rfl, _, rfl, _, _, rfl, rfl, ?_⟩
      refine ⟨l, c, ph, pn, hv, hs, ws, d, by show [V.ref l, V.ref ph, V.ref pn, V.int (((d + 1 : Nat) : Int) - 1)] = _; rw [show ((d + 1 : Nat) : Int) - 1 = (d : Nat) by omega], by omega, x4.pool, nh, x14.keep _ _ nh hph, dh.ext P0 x14, hok, h0, h100, N.ext x14, lws, ndw, fun H5 v5 t5 x5 dv5 ok5 ht5 sz5 => ?_⟩
      refine ⟨small (by show 2 ≤ _; decide), fun p hp => r (Tm.ent (zs[i], t5)) _ _ (x5.new x4.pool hp) ?_ ⟨es ++ [(zs[i], t5)], by rw [List.map_append]; rfl, ?_, fun e he => ?_⟩⟩
      · unfold Tm.ent
        exact Dt.mk2 hp (.str _) dv5
      · rw [List.length_append, List.length_map, List.map_append, len]
        show _ ++ [zs[i]] = zs.take (i + 1)
        rw [List.length_map, len] at en
        rw [en, List.take_add_one, List.getElem?_eq_getElem hi]; rfl
      · rcases List.mem_append.mp he with h | h
        · exact ok e h
        · rw [List.mem_singleton.mp h]; exact ⟨ok5, ht5, sz5⟩
    rintro H4 wv ds x4 hwv da len ⟨es, rfl, en, ok⟩
    have les : es.length = zs.length := by rw [List.length_map, List.length_map] at len; exact len
    rw [List.length_map, les, List.take_length] at en
    refine ⟨D2, _, rfl, .inl ⟨SqL.of hwv, fun p1 hp1 => ⟨small (by show 2 ≤ _; decide), fun p2 hp2 => ?_⟩⟩⟩
    have s4 := (same_new (o := .tup wv) hp1).trans (same_new (o := .tup [.str "map", .ref p1]) hp2)
    refine q _ _ (.map es) ((x13.trans x4).same s4) ?_ (.mk ⟨by omega, fun e he => ?_, by rw [en]; exact nzs⟩ fun k hk => ?_) (Tm.ht_le fun k hk => ?_) ?_
    · unfold Tm.d
      rw [Tm.es_map]
      exact Dt.mk2 hp2 (.str _) (.tup (SqT.of upd_same) (da.same (same_new hp1)))
    · exact wzs e.1 (by rw [← en]; exact List.mem_map.mpr ⟨e, he, rfl⟩)
    · obtain ⟨e, he, rfl⟩ := List.mem_map.mp hk
      exact (ok e he).1
    · obtain ⟨e, he, rfl⟩ := List.mem_map.mp hk
      exact (ok e he).2.1
    · rw [Tm.size_eq]
      show 1 + ((es.map Prod.snd).map Tm.size).sum ≤ 1 + 3 * gs d
      have : ∀ es : List (Str × Tm), (∀ e ∈ es, e.2.size ≤ gs d) → ((es.map Prod.snd).map Tm.size).sum ≤ es.length * gs d := fun es => by
        induction es with
        | nil => intro _; exact Nat.zero_le _
        | cons e es ih =>
          intro h
          have h1 := h e List.mem_cons_self
          have h2 := ih fun z hz => h z (List.mem_cons_of_mem _ hz)
          rw [List.map_cons, List.map_cons, List.sum_cons, List.length_cons, Nat.succ_mul]; omega
      have h1 := this es fun e he => (ok e he).2.2
      have h2 := Nat.mul_le_mul_right (gs d) (show es.length ≤ 3 by omega)
      omega
  · -- a node
    refine ⟨_, rfl, _, rfl, l, c, ph, hv, rfl, x1.pool, nh, x1.keep _ _ nh hph, fun z => by rw [z] at lhv; simp at lhv; omega, by omega, fun H2 j y x2 gy => ?_⟩
    obtain ⟨dd, gd, dy⟩ := dh.getX gy
    rw [List.getElem?_map] at gd
    cases e0 : hs[j]? with
    | none => rw [e0] at gd; cases gd
    | some z =>
    rw [e0] at gd
    cases gd
    have hz : z ∈ hs := List.mem_of_getElem? e0
    have x12 := x1.trans x2
    have dy2 := dy.ext P0 x12
    unfold hdD at dy2
    obtain ⟨a, y1, y2, rfl, ha, j1, j2⟩ := Dt.t2 dy2
    obtain rfl := j1.s
    obtain rfl := j2.i
    have lz := hok.ar z hz
    refine vTx rfl ha rfl (vTx rfl ha rfl ⟨(z.2 : Nat), rfl, by omega, by omega, fun D hD => lcX (K := K) (walk_range (lo := 0) (n := ((z.2 : Nat) : Int).toNat)) x2.pool hD (by omega) (fun ds => ∃ ks : List Tm, ds = ks.map Tm.d ∧ ∀ k ∈ ks, TT hs [] k ∧ k.ht ≤ d + 1 ∧ k.size ≤ gs d) ⟨[], rfl, fun e h => absurd h List.not_mem_nil⟩ (fun _ _ => trivial) ?_ ?_⟩)
    · rintro i x H4 H4 ds R hi x4 ⟨rfl, rfl⟩ ⟨ks, rfl, ok⟩ len r
      have x14 := x12.trans x4
      refine ⟨rfl, _, rfl, _, rfl, _, rfl, _, rfl, _, _, rfl, rfl, ?_⟩
      refine ⟨l, c, ph, pn, hv, hs, ws, d, by show [V.ref l, V.ref ph, V.ref pn, V.int (((d + 1 : Nat) : Int) - 1)] = _; rw [show ((d + 1 : Nat) : Int) - 1 = (d : Nat) by omega], by omega, x4.pool, nh, x14.keep _ _ nh hph, dh.ext P0 x14, hok, h0, h100, N.ext x14, lws, ndw, fun H5 v5 t5 x5 dv5 ok5 ht5 sz5 => ?_⟩
      refine r t5.d _ _ x5 dv5 ⟨ks ++ [t5], by rw [List.map_append]; rfl, fun e he => ?_⟩
      rcases List.mem_append.mp he with h | h
      · exact ok e h
      · rw [List.mem_singleton.mp h]; exact ⟨ok5, ht5, sz5⟩
    rintro H4 wv ds x4 hwv da len ⟨ks, rfl, ok⟩
    rw [List.length_map] at len
    have lk : ks.length = z.2 := by omega
    refine ⟨D, _, rfl, .inl ⟨SqL.of hwv, fun p1 hp1 => ⟨small (by show 3 ≤ _; decide), fun p2 hp2 => ?_⟩⟩⟩
    have s4 := (same_new (o := .tup wv) hp1).trans (same_new (o := .tup [.str "node", .str z.1, .ref p1]) hp2)
    refine q _ _ (.node z.1 ks) ((x12.trans x4).same s4) ?_ (.mk ⟨by rw [lk]; exact hz, hok.wd z hz, by omega⟩ fun k hk => (ok k hk).1) (Tm.ht_le fun k hk => (ok k hk).2.1) ?_
    · unfold Tm.d
      rw [Tm.ds_map]
      exact Dt.mk3 hp2 (.str _) (.str _) (.tup (SqT.of upd_same) (da.same (same_new hp1)))
    · rw [Tm.size_eq]
      show 1 + (ks.map Tm.size).sum ≤ 1 + 3 * gs d
      have : ∀ ks : List Tm, (∀ k ∈ ks, k.size ≤ gs d) → (ks.map Tm.size).sum ≤ ks.length * gs d := fun ks => by
        induction ks with
        | nil => intro _; exact Nat.zero_le _
        | cons e es ih =>
          intro h
          have h1 := h e List.mem_cons_self
          have h2 := ih fun z hz => h z (List.mem_cons_of_mem _ hz)
          rw [List.map_cons, List.sum_cons, List.length_cons, Nat.succ_mul]; omega
      have h1 := this ks fun e he => (ok e he).2.2
      have h2 := Nat.mul_le_mul_right (gs d) (show ks.length ≤ 3 by omega)
      omega
theorem ok_source {f : Addr} {fd : FuncData} (F : Fun K "_law_source" "_law_source" s_law_source f fd) (T : Txt K mg) (C_law_over : C8.Cal P w K mg base 8 "_law_over" (spOver K 5) []) : FnOk P w K mg base CX0 9 f fd ["pool", "box", "depth"] (spSource K) := by
  refine F.ok sc_law_source (fun vs H Q E h => ?_) (fun cdv A outer s H vs Q E hr h => ?_)
  · obtain ⟨_, _, _, _, _, _, _, rfl, _⟩ := h
    rfl
  obtain ⟨l, c, bx, pn, ws, R, d, rfl, hd, P0, B, hok, h0, h100, lws, ndw, q⟩ := h
  refine ⟨_, (pss_one (ps_ret (C8.pe_c C_law_over hr (by decide) rfl (pa_cons (pv 0) (pa_cons (pe_lc (own := [("row", 3)]) (g := (gName 3)) (tt := tYes) (by rfl) sc_law_source.nd (pi_tup (pe_dget (hu_of hr) (pv 1) pe_str (fun _ _ => rfl))) (blkOk_by (N := ["pool", "box", "depth", "row"]) (sc := defScope s_law_source) (by decide +kernel)) (fun _ _ _ _ _ => (pg_name (i := 3) sc_law_source.nd rfl (Or.inl rfl))) (fun _ _ _ _ _ => pts_nil) (fun _ _ _ _ _ => (pe_tup (pa_cons (pe_ix (r := rIxT K) ix_tup (pv 3) pe_int (fun _ _ => rfl)) (pa_cons (pe_callB (id := "len") (r := rLenS K) call_lenS (by rfl) T.z_len (by decide +kernel) (pa_cons (pe_ix (r := rIxT K) ix_tup (pv 3) pe_int (fun _ _ => rfl)) pa_nil)) pa_nil))))) (pa_cons (pe_dget (hu_of hr) (pv 1) pe_str (fun _ _ => rfl)) (pa_cons (pv 2) pa_nil))))))), ?_⟩
  obtain ⟨kvs, rv, hb, e1, e2, drv⟩ := B.at_
  obtain ⟨ra, rw_, rfl, hra, dra⟩ := Dt.tn drv
  have lrw : rw_.length = R.length := by rw [dra.lenD, List.length_map]
  refine ⟨_, rfl, _, rfl, bx, .ref ra, rfl, by rw [← e2]; exact DGet.k (k := Sum.inr "rows") hb, ra, rfl, ⟨_, hra⟩, fun D hD => lcS (K := K) (walk_tup (xs := rw_)) hD (by omega) (fun ds => ds = ((rHds R).take ds.length).map hdD) rfl (fun H' s => Same.seqT s hra) ?_ ?_⟩
  · rintro i x H1 H1 ds R' hi s1 ⟨rfl, gx⟩ jd len r
    obtain ⟨dd, gd, dx⟩ := dra.getX gx
    rw [List.getElem?_map] at gd
    cases e0 : R[i]? with
    | none => rw [e0] at gd; cases gd
    | some z =>
    rw [e0] at gd
    cases gd
    have dx' := dx.same s1
    unfold Rw.d at dx'
    obtain ⟨b, x1, y1, z1, rfl, hb', h1, h2, h3⟩ := Dt.t3 dx'
    obtain rfl := h1.s
    obtain ⟨a2, ps', rfl, hs2, dps⟩ := Dt.tn h2
    obtain rfl := dps.strsE
    refine ⟨rfl, vTx rfl hb' rfl (vTx rfl hb' rfl ?_)⟩
    refine ⟨a2, _, rfl, .inr hs2, small (by show 2 ≤ _; decide), fun p hp => r (hdD (z.nm, z.ps.length)) _ _ (same_new hp) ?_ ?_⟩
    · unfold hdD
      have : (z.ps.map V.str).length = z.ps.length := List.length_map ..
      rw [this]
      exact Dt.mk2 hp (.str _) (.int _)
    · have ec : (rHds R)[i]? = some (z.nm, z.ps.length) := by unfold rHds; rw [List.getElem?_map, e0]; rfl
      rw [List.length_append, len, show i + [hdD (z.nm, z.ps.length)].length = i + 1 from rfl, List.take_add_one, ec, List.map_append]
      rw [len] at jd
      rw [← jd]; rfl
  rintro H1 hv ds s1 hhv dhv len jd
  have lc2 : (rHds R).length = R.length := by unfold rHds; rw [List.length_map]
  rw [len, lrw, ← lc2, List.take_length] at jd
  rw [jd] at dhv
  have x1 := (Ext.refl P0).same s1
  have B1 := B.ext P0 x1
  obtain ⟨kvs1, v1, hb1, e11, e12, _⟩ := B1.at_
  refine ⟨_, rfl, bx, .ref pn, rfl, by rw [← e11]; exact DGet.k (k := Sum.inr "names") hb1, _, rfl, ?_⟩
  exact ⟨l, c, D, pn, hv, rHds R, ws, d, rfl, by omega, x1.pool, (P0.ne hD).1, hhv, dhv, hok, by omega, by omega, B1.nm, lws, ndw, fun H2 v2 t2 x2 => q H2 v2 t2 (x1.trans x2)⟩
end
end PK
namespace PK
open PySem L2
/-! the law's translation -/
def spTempl (K : PySem.W.Frag) : Sp := fun vs H Q _ => ∃ (rv : V) (pp : Addr) (pw : List V) (hs : Hds) (R : List Rw) (r : Rw) (ks : List Tm), vs = [rv, .str r.nm, .ref pp] ∧ Dt K H rv (.tuple (R.map Rw.d)) ∧ RwsOk hs R ∧ R.length ≤ 1000 ∧ r ∈ R ∧ H pp = some (.lst pw) ∧ DtAll K H pw (ks.map Tm.d) ∧ ks.length = r.ps.length ∧
  ∀ (H' : Hp) (v : V), Same H H' → Dt K H' v (r.t.fill (r.ps.zip ks)).d → Q v H'
def spTrl (K : PySem.W.Frag) (n : Nat) : Sp := fun vs H Q _ => ∃ (rv x : V) (hs : Hds) (R : List Rw), vs = [rv, x] ∧ Dt K H rv (.tuple (R.map Rw.d)) ∧ RwsOk hs R ∧ R.length ≤ 1000 ∧
  ((∃ t : Tm, t.ht < n ∧ TT (rHds R) [] t ∧ Dt K H x t.d ∧ ∀ (H' : Hp) (v : V), Same H H' → Dt K H' v (t.trans R).d → Q v H') ∨ (((∃ s, x = .str s) ∨ ∃ i, x = .int i) ∧ 1 ≤ n ∧ Q x H))
theorem trans_atom (R : List Rw) {t : Tm} (h : t.atom) : t.trans R = t := by
  cases t <;> first | exact h.elim | (rw [Tm.trans_eq]; rfl)
theorem atom_d {t : Tm} (h : t.atom) : ∃ (g : Str) (x : V), t.d = .tuple [.str g, (match x with | .str s => .str s | .int i => .int i | _ => .none)] ∧ g ≠ "map" ∧ g ≠ "node" ∧ ((∃ s, x = .str s) ∨ ∃ i, x = .int i) := by
  cases t with
  | int n => exact ⟨_, .int n, by unfold Tm.d; rfl, by decide +kernel, by decide +kernel, .inr ⟨_, rfl⟩⟩
  | addr n => exact ⟨_, .int n, by unfold Tm.d; rfl, by decide +kernel, by decide +kernel, .inr ⟨_, rfl⟩⟩
  | name n => exact ⟨_, .str n, by unfold Tm.d; rfl, by decide +kernel, by decide +kernel, .inl ⟨_, rfl⟩⟩
  | _ => exact h.elim
theorem atom_dt {K : PySem.W.Frag} {H : Hp} {v : V} {t : Tm} (h : t.atom) (hv : Dt K H v t.d) : ∃ (a : Addr) (g : Str) (x : V), v = .ref a ∧ SqT K H a [.str g, x] ∧ g ≠ "map" ∧ g ≠ "node" ∧ ((∃ s, x = .str s) ∨ ∃ i, x = .int i) ∧ ∀ H' b, SqT K H' b [.str g, x] → Dt K H' (.ref b) t.d := by
  obtain ⟨g, x, e, g1, g2, hx⟩ := atom_d h
  rw [e] at hv ⊢
  obtain ⟨a, x1, y1, rfl, hs, h1, h2⟩ := Dt.t2 hv
  obtain rfl := h1.s
  rcases hx with ⟨s, rfl⟩ | ⟨s, rfl⟩
  · obtain rfl := h2.s
    exact ⟨a, g, _, rfl, hs, g1, g2, .inl ⟨s, rfl⟩, fun H' b z => .tup z (.cons (.str _) (.cons (.str _) .nil))⟩
  · cases h2
    exact ⟨a, g, _, rfl, hs, g1, g2, .inr ⟨s, rfl⟩, fun H' b z => .tup z (.cons (.str _) (.cons (.int _) .nil))⟩
section
variable {P : Program} {w : World} {K : PySem.W.Frag} {mg : Str → Option Value} {base : Heap}
abbrev s_law_templated : Stmt := topS 18
theorem sc_law_templated : FnScope ["rows", "name", "parts", "row", "bindings", "k", "one"] ["rows", "name", "parts"] (defScope s_law_templated) := ⟨rfl, rfl, rfl, by decide +kernel, rfl, by decide +kernel, by decide +kernel⟩
-- slots: 0:rows 1:name(cell) 2:parts 3:row 4:bindings 5:k 6:one(comp)
abbrev s_law_translate : Stmt := topS 19
theorem sc_law_translate : FnScope ["rows", "form", "part", "entry"] ["rows", "form"] (defScope s_law_translate) := ⟨rfl, rfl, rfl, by decide +kernel, rfl, by decide +kernel, by decide +kernel⟩
-- slots: 0:rows(cell) 1:form 2:part(comp) 3:entry(comp)
theorem ok_templ {f : Addr} {fd : FuncData} (F : Fun K "_law_templated" "_law_templated" s_law_templated f fd) (T : Txt K mg) (C_law_put : C8.Cal P w K mg base 9 "_law_put" (spPut K 9) []) : FnOk P w K mg base CX0 10 f fd ["rows", "name", "parts"] (spTempl K) := by
  refine F.ok sc_law_templated (fun vs H Q E h => ?_) (fun cdv A outer s H vs Q E hr h => ?_)
  · obtain ⟨_, _, _, _, _, _, _, rfl, _⟩ := h
    rfl
  obtain ⟨rv, pp, pw, hs, R, r, ks, rfl, drv, rok, hl, hr', hpp, dpp, lks, q⟩ := h
  refine ⟨_, (pss_cons (ps_set (i := 3) sc_law_templated.nd rfl (Or.inl rfl) (pe_ix ix_list (pe_lc (own := [("one", 6)]) (g := (gName 6)) (by rfl) sc_law_templated.nd (pi_tup (pv 0)) (blkOk_by (N := ["rows", "name", "parts", "row", "bindings", "k", "one"]) (sc := defScope s_law_templated) (by decide +kernel)) (fun _ _ _ _ _ => (pg_name (i := 6) sc_law_templated.nd rfl (Or.inl rfl))) (fun _ _ _ _ _ => pts_one (pt_cmpR op_eq (pe_ix (r := rIxT K) ix_tup (pv 6) pe_int (fun _ _ => rfl)) (pv 1) (nomark _))) (fun _ _ _ _ _ => (pv 6))) pe_int (fun _ _ => rfl)))
    (pss_cons (ps_set (i := 4) sc_law_templated.nd rfl (Or.inl rfl) pe_dnewK)
    (pss_cons (ps_for PassesOwn.never rfl (pi_range1 (by rfl) T.z_range (pa_cons (pe_callB call_lenS (by rfl) T.z_len (by decide +kernel) (pa_cons (pv 2) pa_nil)) pa_nil)) (pg_name (i := 5) sc_law_templated.nd rfl (Or.inl rfl)) (pss_one (ps_dput (hu_of hr) (pv 4) (pe_ix ix_tup (pe_ix ix_tup (pv 3) pe_int (fun _ _ => rfl)) (pv 5) (fun _ _ => rfl)) (pe_ix ix_list (pv 2) (pv 5) (fun _ _ => rfl)) rfl)))
    (pss_one (ps_ret (C8.pe_c C_law_put hr (by decide) rfl (pa_cons (pe_ix ix_tup (pv 3) pe_int (fun _ _ => rfl)) (pa_cons (pv 4) pa_nil)))))))), ?_⟩
  obtain ⟨ra, rw_, rfl, hra, dra⟩ := Dt.tn drv
  have lrw : rw_.length = R.length := by rw [dra.lenD, List.length_map]
  have lpv : pw.length = ks.length := by rw [dpp.lenD, List.length_map]
  have l3 : r.ps.length ≤ 3 := rok.hd.ar _ (List.mem_map.mpr ⟨r, hr', rfl⟩)
  refine ⟨_, rfl, ra, rfl, ⟨_, hra⟩, fun D hD => lc_it (walk_tup (K := K) (xs := rw_)) (fun i H' => ∃ vs, Same H H' ∧ H' D = some (.lst vs) ∧ vs.length ≤ i ∧ DtAll K H' vs (((R.take i).filter fun z => decide (z.nm = r.nm)).map Rw.d)) ?_ ?_ ?_ ?_⟩
  · exact ⟨[], same_new hD, upd_same, Nat.le_refl _, .nil⟩
  · rintro i H' _ ⟨_, s, _⟩
    exact Same.seqT s hra
  · rintro i x H1 H1 hi ⟨vs, s1, hv, lv, dv⟩ ⟨rfl, gx⟩
    obtain ⟨dd, gd, dx⟩ := dra.getX gx
    rw [List.getElem?_map] at gd
    cases e0 : R[i]? with
    | none => rw [e0] at gd; cases gd
    | some z =>
    rw [e0] at gd
    cases gd
    have dx' := dx.same s1
    have dx2 := dx'
    unfold Rw.d at dx'
    obtain ⟨b, x1, y1, z1, rfl, hb', h1, h2, h3⟩ := Dt.t3 dx'
    obtain rfl := h1.s
    have et : ((R.take (i + 1)).filter fun z => decide (z.nm = r.nm)) = ((R.take i).filter fun z => decide (z.nm = r.nm)) ++ (if z.nm = r.nm then [z] else []) := by
      rw [List.take_add_one, e0, List.filter_append]
      by_cases h : z.nm = r.nm <;> simp [h]
    rw [et]
    refine ⟨rfl, vTx rfl hb' rfl ⟨_, rfl, rfl, _, rfl, ?_⟩⟩
    by_cases h : z.nm = r.nm
    · rw [if_pos h, decide_eq_true (show V.str z.nm = V.str r.nm by rw [h])]
      refine iteT ⟨_, rfl, vs, hv, smallL (by omega), vs ++ [.ref b], Same.upd s1 hD, upd_same, by rw [List.length_append]; show vs.length + 1 ≤ _; omega, ?_⟩
      rw [List.map_append]
      exact (dv.append (.cons dx2 .nil)).upd hv
    · rw [if_neg h, List.append_nil, decide_eq_false (show ¬ V.str z.nm = V.str r.nm from fun e => h (V.str.inj e))]
      exact iteF ⟨vs, s1, hv, by omega, dv⟩
  rintro H1 ⟨vs, s1, hv, lv, dv⟩
  rw [lrw, List.take_length] at dv
  have hd : (R.filter fun z => decide (z.nm = r.nm)).head? = some r := by
    rw [List.head?_filter]
    exact rowOf_mem rok.ok.1 hr'
  obtain ⟨tl, etl⟩ : ∃ tl, (R.filter fun z => decide (z.nm = r.nm)) = r :: tl := by
    cases e : R.filter fun z => decide (z.nm = r.nm) with
    | nil => rw [e] at hd; cases hd
    | cons a b => rw [e] at hd; cases hd; exact ⟨b, rfl⟩
  rw [etl] at dv
  cases dv with
  | @cons v0 vr _ _ d0 dr =>
  have d0' := d0
  unfold Rw.d at d0
  obtain ⟨b, x1, y1, z1, rfl, hb, h1, h2, h3⟩ := Dt.t3 d0
  obtain ⟨a2, ps', rfl, hs2, dps⟩ := Dt.tn h2
  obtain rfl := dps.strsE
  refine ⟨D, _, _, _, rfl, rfl, SqL.of hv, atI_nat (j := 0) rfl, fun tb htb => ?_⟩
  have s2 := same_new (o := .dK []) htb
  have s12 := s1.trans s2
  have hpp2 := s12 _ _ hpp
  refine ⟨_, rfl, pp, _, rfl, .inl (SqL.of hpp2), ((pw.length : Nat) : Int), rfl, by omega, by omega, for_range (lo := 0) (n := ((pw.length : Nat) : Int).toNat) (fun k σ H2 => ∃ (kvs : List (Key × V)) (o5 : Option V), σ = [some (.ref ra), some (.str r.nm), some (.ref pp), some (.ref b), some (.ref tb), o5, none] ∧ Same H1 H2 ∧ H2 tb = some (.dK kvs) ∧ kvs.length ≤ k ∧ BindE K H2 kvs ((r.ps.zip ks).take k)) ?_ ?_ ?_⟩
  · exact ⟨[], _, rfl, s2, upd_same, Nat.le_refl _, BindE.nil⟩
  · rintro k σ H2 hk ⟨kvs, o5, rfl, s3, h3', lk, hbd⟩
    have hkp : k < r.ps.length := by omega
    have hkt : k < ks.length := by omega
    have ek : (0 : Int) + (k : Int) = (k : Nat) := Int.zero_add _
    obtain ⟨yk, gy, dy⟩ := dpp.getD (i := k) (d := ks[k].d) (by rw [List.getElem?_map, List.getElem?_eq_getElem hkt]; rfl)
    have s13 := s1.trans s3
    refine ⟨_, rfl, _, rfl, pp, pw, _, yk, rfl, rfl, SqL.of (s13 _ _ hpp), by rw [ek]; exact atI_nat gy, _, rfl, vTx rfl (Same.seqT s3 hb) rfl ⟨_, rfl, a2, _, _, .str r.ps[k], rfl, rfl, Same.seqT s3 hs2, by rw [ek]; exact atI_nat (by rw [List.getElem?_map, List.getElem?_eq_getElem hkp]; rfl), tb, _, rfl, DPut.k (k := Sum.inr r.ps[k]) h3' (smallL (by omega)), ?_⟩⟩
    have lz' := length_putK kvs (Sum.inr r.ps[k]) yk
    refine ⟨_, _, rfl, Same.upd s3 htb, upd_same, by omega, ?_⟩
    have lz : (r.ps.zip ks).length = r.ps.length := by rw [List.length_zip]; omega
    have ez : (r.ps.zip ks).take (k + 1) = (r.ps.zip ks).take k ++ [(r.ps[k], ks[k])] := by
      rw [List.take_add_one]
      have : (r.ps.zip ks)[k]? = some (r.ps[k], ks[k]) := by
        rw [List.getElem?_eq_getElem (by rw [lz]; exact hkp), List.getElem_zip]
      rw [this]; rfl
    rw [ez]
    exact (hbd.put (dy.same s13)).mono fun v d z => Dt.mono (fun _ _ y => seqT_updK y h3') _ _ z
  · rintro σ H2 ⟨kvs, o5, rfl, s3, h3', lk, hbd⟩
    have lz : (r.ps.zip ks).length = r.ps.length := by rw [List.length_zip]; omega
    rw [show ((pw.length : Nat) : Int).toNat = (r.ps.zip ks).length by omega, List.take_length] at hbd
    have tok := rok.ok.2 r hr'
    refine vTx rfl (Same.seqT s3 hb) rfl ⟨_, rfl, z1, tb, r.t, kvs, _, rfl, h3.same s3, h3', hbd, tok.pl, (rok.b r hr').2, fun H3 v' s4 dv => q H3 v' ((s1.trans s3).trans s4) dv⟩
theorem ok_trl {n : Nat} {f : Addr} {fd : FuncData} (F : Fun K "_law_translate" "_law_translate" s_law_translate f fd) (T : Txt K mg) (C_law_templated : C8.Cal P w K mg base 10 "_law_templated" (spTempl K) []) (C_law_translate : C8.Cal P w K mg base (n + 10) "_law_translate" (spTrl K n) []) :
    FnOk P w K mg base CX0 (n + 11) f fd ["rows", "form"] (spTrl K (n + 1)) := by
  refine F.ok sc_law_translate (fun vs H Q E h => ?_) (fun cdv A outer s H vs Q E hr h => ?_)
  · obtain ⟨_, _, _, _, rfl, _⟩ := h
    rfl
  obtain ⟨rv, x, hs, R, rfl, drv, rok, hl, alt⟩ := h
  refine ⟨_, (pss_cons (ps_if (pt_not (pt_val (pe_callB call_isi (by rfl) T.z_isinstance (by decide +kernel) (pa_cons (pv 1) (pa_cons (pe_bltn (v := .ty "tuple") (by rfl) T.z_tuple (by decide +kernel) rfl) pa_nil))))) (pss_one (ps_ret (pv 1))) pss_nil)
    (pss_cons (ps_if (pt_cmpR op_eq (pe_ix ix_tup (pv 1) pe_int (fun _ _ => rfl)) pe_str (nomark _)) (pss_one (ps_ret (pe_tup (pa_cons pe_str (pa_cons (pe_callTy call_tuple_of (by rfl) T.z_tuple (by decide +kernel) (pa_cons (pe_lc (own := [("entry", 3)]) (g := (gName 3)) (tt := tYes) (by rfl) sc_law_translate.nd (pi_tup (pe_ix ix_tup (pv 1) pe_int (fun _ _ => rfl))) (blkOk_by (N := ["rows", "form", "part", "entry"]) (sc := defScope s_law_translate) (by decide +kernel)) (fun _ _ _ _ _ => (pg_name (i := 3) sc_law_translate.nd rfl (Or.inl rfl))) (fun _ _ _ _ _ => pts_nil) (fun _ _ _ _ _ => (pe_tup (pa_cons (pe_ix (r := rIxT K) ix_tup (pv 3) pe_int (fun _ _ => rfl)) (pa_cons (C8.pe_c C_law_translate hr (by omega) rfl (pa_cons (pv 0) (pa_cons (pe_ix (r := rIxT K) ix_tup (pv 3) pe_int (fun _ _ => rfl)) pa_nil))) pa_nil))))) pa_nil)) pa_nil))))) pss_nil)
    (pss_cons (ps_if (pt_cmpR op_eq (pe_ix ix_tup (pv 1) pe_int (fun _ _ => rfl)) pe_str (nomark _)) (pss_one (ps_ret (C8.pe_c C_law_templated hr (by omega) rfl (pa_cons (pv 0) (pa_cons (pe_ix ix_tup (pv 1) pe_int (fun _ _ => rfl)) (pa_cons (pe_lc (own := [("part", 2)]) (g := (gName 2)) (tt := tYes) (by rfl) sc_law_translate.nd (pi_tup (pe_ix ix_tup (pv 1) pe_int (fun _ _ => rfl))) (blkOk_by (N := ["rows", "form", "part", "entry"]) (sc := defScope s_law_translate) (by decide +kernel)) (fun _ _ _ _ _ => (pg_name (i := 2) sc_law_translate.nd rfl (Or.inl rfl))) (fun _ _ _ _ _ => pts_nil) (fun _ _ _ _ _ => (C8.pe_c C_law_translate hr (by omega) rfl (pa_cons (pv 0) (pa_cons (pv 2) pa_nil))))) pa_nil)))))) pss_nil)
    (pss_one (ps_ret (pe_callTy call_tuple_of (by rfl) T.z_tuple (by decide +kernel) (pa_cons (pe_lc (own := [("part", 2)]) (g := (gName 2)) (tt := tYes) (by rfl) sc_law_translate.nd (pi_tup (pv 1)) (blkOk_by (N := ["rows", "form", "part", "entry"]) (sc := defScope s_law_translate) (by decide +kernel)) (fun _ _ _ _ _ => (pg_name (i := 2) sc_law_translate.nd rfl (Or.inl rfl))) (fun _ _ _ _ _ => pts_nil) (fun _ _ _ _ _ => (C8.pe_c C_law_translate hr (by omega) rfl (pa_cons (pv 0) (pa_cons (pv 2) pa_nil))))) pa_nil))))))), ?_⟩
  rcases alt with ⟨t, hh, tt, hv, q⟩ | ⟨hx, _, q⟩
  rotate_left
  · rcases hx with ⟨s, rfl⟩ | ⟨i, rfl⟩
    · exact vIsi rfl (TyX.base (.str s)) (b := false) (by decide +kernel) ⟨_, rfl, iteT ⟨_, rfl, q⟩⟩
    · exact vIsi rfl (TyX.base (.int i)) (b := false) (by decide +kernel) ⟨_, rfl, iteT ⟨_, rfl, q⟩⟩
  obtain ⟨a0, xs0, rfl, hs0, _⟩ : ∃ a xs, x = .ref a ∧ SqT K H a xs ∧ True := by
    cases e : t.d with
    | tuple ds => rw [e] at hv; obtain ⟨a, xs, h1, h2, _⟩ := Dt.tn hv; exact ⟨a, xs, h1, h2, trivial⟩
    | _ => cases t <;> (unfold Tm.d at e; cases e)
  refine vIsi rfl (ty_tup hs0) (b := true) (by decide +kernel) ⟨_, rfl, iteF ?_⟩
  by_cases hat : t.atom
  · rw [trans_atom R hat] at q
    obtain ⟨a, g, y, e, hsq, g1, g2, hy, mk⟩ := atom_dt hat hv
    cases e
    refine vTx rfl hsq rfl ⟨rfl, _, rfl, sF g1 (vTx rfl hsq rfl ⟨rfl, _, rfl, sF g2 ?_⟩)⟩
    refine ⟨_, rfl, a0, rfl, ⟨_, hsq⟩, fun D hD => lc_it (walk_tup (K := K) (xs := [V.str g, y])) (fun i H' => Same H H' ∧ H' D = some (.lst ([V.str g, y].take i))) ?_ ?_ ?_ ?_⟩
    · exact ⟨same_new hD, upd_same⟩
    · rintro i H' _ ⟨s, _⟩
      exact Same.seqT s hsq
    · rintro i z H1 H1 hi ⟨s1, hd1⟩ ⟨rfl, gx⟩
      have hz : (∃ s, z = .str s) ∨ ∃ i, z = .int i := by
        match i, gx with
        | 0, e => cases e; exact .inl ⟨_, rfl⟩
        | 1, e => cases e; exact hy
      refine ⟨rfl, _, rfl, _, rfl, rv, z, hs, R, rfl, drv.same s1, rok, hl, .inr ⟨hz, by have := t.ht_pos; omega, ?_⟩⟩
      refine ⟨_, hd1, smallL (by rw [List.length_take]; show min i 2 < _; have := Nat.min_le_right i 2; omega), Same.upd s1 hD, ?_⟩
      rw [upd_same, List.take_add_one, gx]; rfl
    rintro H1 ⟨s1, hd1⟩
    refine ⟨D, _, rfl, .inl ⟨SqL.of hd1, fun p hp => q _ _ (s1.trans (same_new hp)) (mk _ _ (SqT.of upd_same))⟩⟩
  cases t with
  | var s => exact absurd tt.at_.1 List.not_mem_nil
  | form f ts => exact tt.at_.elim
  | int m => exact absurd trivial hat
  | name m => exact absurd trivial hat
  | addr m => exact absurd trivial hat
  | node c ts =>
    unfold Tm.d at hv
    obtain ⟨a, x, y, z, e, hsq, h1, h2, h3⟩ := Dt.t3 hv
    cases e
    obtain rfl := h1.s
    obtain rfl := h2.s
    obtain ⟨b, ys, rfl, hb2, hys⟩ := Dt.tn h3
    rw [Tm.ds_map] at hys
    have ly : ys.length = ts.length := by rw [hys.lenD, List.length_map]
    have lk : ts.length ≤ 3 := tt.len
    obtain ⟨r, hr', er, hlr, en⟩ := row_of rok.ok.1 tt.at_.1
    rw [trans_node er] at q
    refine vTx rfl hsq rfl ⟨rfl, _, rfl, sF (by decide +kernel) (vTx rfl hsq rfl ⟨rfl, _, rfl, sT rfl ?_⟩)⟩
    refine ⟨_, rfl, vTx rfl hsq rfl (vTx rfl hsq rfl ?_)⟩
    refine ⟨b, rfl, ⟨_, hb2⟩, fun D hD => lcS (K := K) (walk_tup (xs := ys)) hD (by omega) (fun ds => ds = ((ts.take ds.length).map (Tm.trans R)).map Tm.d) rfl (fun H' s => Same.seqT s hb2) ?_ ?_⟩
    · rintro i x H1 H1 ds R' hi s1 ⟨rfl, gx⟩ jd len r'
      obtain ⟨d, gd, dx⟩ := DtAll.getX hys gx
      rw [List.getElem?_map] at gd
      cases e0 : ts[i]? with
      | none => rw [e0] at gd; cases gd
      | some k =>
      rw [e0] at gd
      cases gd
      have hk : k ∈ (Tm.node c ts).kids := List.mem_of_getElem? e0
      have := Tm.ht_kid hk
      refine ⟨rfl, _, rfl, _, rfl, rv, x, hs, R, rfl, drv.same s1, rok, hl, .inl ⟨k, by omega, tt.kid hk, dx.same s1, fun H2 v' s2 dv => r' (k.trans R).d v' H2 s2 dv ?_⟩⟩
      rw [List.length_append, len, show i + [(k.trans R).d].length = i + 1 from rfl, List.take_add_one, e0, List.map_append, List.map_append]
      rw [len] at jd
      rw [← jd]; rfl
    rintro H1 ws ds s1 hws da len jd
    rw [len, ly, List.take_length] at jd
    rw [jd] at da
    exact ⟨rv, D, ws, hs, R, r, ts.map (Tm.trans R), by rw [en]; rfl, drv.same s1, rok, hl, hr', hws, da, by rw [List.length_map]; omega, fun H2 v s2 dv => q H2 v (s1.trans s2) dv⟩
  | map es =>
    unfold Tm.d at hv
    obtain ⟨a, x, y, e, hsq, h1, h2⟩ := Dt.t2 hv
    cases e
    obtain rfl := h1.s
    obtain ⟨b, ys, rfl, hb2, hys⟩ := Dt.tn h2
    rw [Tm.es_map] at hys
    have ly : ys.length = es.length := by rw [hys.lenD, List.length_map]
    have lk : es.length ≤ 3 := tt.at_.1
    rw [trans_map] at q
    refine vTx rfl hsq rfl ⟨rfl, _, rfl, sT rfl ?_⟩
    refine vTx rfl hsq rfl ?_
    refine ⟨b, rfl, ⟨_, hb2⟩, fun D hD => lcS (K := K) (walk_tup (xs := ys)) hD (by omega) (fun ds => ds = ((es.take ds.length).map fun e => (e.1, e.2.trans R)).map Tm.ent) rfl (fun H' s => Same.seqT s hb2) ?_ ?_⟩
    · rintro i x H1 H1 ds R' hi s1 ⟨rfl, gx⟩ jd len r'
      obtain ⟨d, gd, dx⟩ := DtAll.getX hys gx
      rw [List.getElem?_map] at gd
      cases e0 : es[i]? with
      | none => rw [e0] at gd; cases gd
      | some k =>
      rw [e0] at gd
      cases gd
      have hk : k.2 ∈ (Tm.map es).kids := List.mem_map.mpr ⟨k, List.mem_of_getElem? e0, rfl⟩
      have := Tm.ht_kid hk
      unfold Tm.ent at dx
      obtain ⟨a3, x3, y3, rfl, hs3, h31, h32⟩ := Dt.t2 (dx.same s1)
      obtain rfl := h31.s
      refine ⟨rfl, vTx rfl hs3 rfl ⟨_, rfl, vTx rfl hs3 rfl ?_⟩⟩
      refine ⟨rv, y3, hs, R, rfl, drv.same s1, rok, hl, .inl ⟨k.2, by omega, tt.kid hk, h32, fun H2 v' s2 dv => ⟨small (by show 2 ≤ _; decide), fun p hp => r' (Tm.ent (k.1, k.2.trans R)) _ _ (s2.trans (same_new hp)) (by unfold Tm.ent; exact Dt.mk2 hp (.str _) dv) ?_⟩⟩⟩
      rw [List.length_append, len, show i + [Tm.ent (k.1, k.2.trans R)].length = i + 1 from rfl, List.take_add_one, e0, List.map_append, List.map_append]
      rw [len] at jd
      rw [← jd]; rfl
    rintro H1 ws ds s1 hws da len jd
    rw [len, ly, List.take_length] at jd
    rw [jd] at da
    refine ⟨D, _, rfl, .inl ⟨SqL.of hws, fun p1 hp1 => ⟨small (by show 2 ≤ _; decide), fun p2 hp2 => q _ _ ((s1.trans (same_new hp1)).trans (same_new hp2)) ?_⟩⟩⟩
    show Dt K _ _ (Tm.map (es.map fun e => (e.1, e.2.trans R))).d
    unfold Tm.d
    rw [Tm.es_map]
    exact Dt.mk2 hp2 (.str _) (.tup (SqT.of upd_same) (da.same (same_new hp1)))
end
end PK
namespace PK
open PySem L2
/-! comparing, showing and returning terms -/
theorem eqU {k : Nat} {A : Around} (hr : Room k A) : A.units + 190 < cLine := by have := hr.un; omega
theorem rpU {k : Nat} {A : Around} (hr : Room k A) : A.units + (190 + 1) < cLine := by have := hr.un; omega
abbrev SOk (x : Str) : Prop := PyData.strOk x = true
theorem Wd.sok {x : Str} (h : Wd x) : SOk x := by
  have key : ∀ s ∈ OTH.cps.toList, s < 0x110000 := by decide +kernel
  show x.cps.all (· < 0x110000) = true
  rw [← Array.all_toList, List.all_eq_true]
  exact fun s hs => decide_eq_true (key s (h.al s hs))
abbrev WOk (x : Str) : Prop := SOk x ∧ x.length ≤ 12
theorem Wd.wok {x : Str} (h : Wd x) : WOk x := ⟨h.sok, h.hi⟩
theorem Al.imp {p q : Tm → Prop} (h : ∀ t, p t → q t) {t : Tm} (a : Al p t) : Al q t := by
  induction t using Tm.ind with
  | h t ih => exact .mk (h t a.at_) fun k hk => ih k hk (a.kid hk)
theorem depth_all : ∀ {ds : List PyData} {n : Nat}, (∀ d ∈ ds, d.depth ≤ n) → PyData.depthAll ds ≤ n
  | [], _, _ => Nat.zero_le _
  | d :: r, n, h => by
    show max _ _ ≤ n
    have h1 := h d List.mem_cons_self
    have h2 := depth_all (ds := r) fun x hx => h x (List.mem_cons_of_mem _ hx)
    omega
theorem slim_all : ∀ {ds : List PyData}, (∀ d ∈ ds, slim d = true) → slimAll ds = true
  | [], _ => by unfold slimAll; rfl
  | d :: r, h => by
    unfold slimAll
    rw [h d List.mem_cons_self, slim_all fun x hx => h x (List.mem_cons_of_mem _ hx)]; rfl
theorem slim_str (x : Str) : slim (.str x) = true := by unfold slim; rfl
theorem slim_int (x : Int) : slim (.int x) = true := by unfold slim; rfl
theorem slim_tup {ds : List PyData} (h1 : ds.length ≤ 1000) (h : ∀ d ∈ ds, slim d = true) : slim (.tuple ds) = true := by
  unfold slim
  rw [decide_eq_true h1, slim_all h]; rfl
theorem slim_two {a b : PyData} (h1 : slim a = true) (h2 : slim b = true) : slim (.tuple [a, b]) = true := slim_tup (by show 2 ≤ 1000; decide) fun d hd => by
  rcases List.mem_cons.mp hd with rfl | hd
  · exact h1
  · rw [List.mem_singleton.mp hd]; exact h2
theorem lay_all : ∀ {ds : List PyData}, (∀ d ∈ ds, d.canLay0 = true) → PyData.canLayAll0 ds = true
  | [], _ => rfl
  | d :: r, h => by
    show (d.canLay0 && PyData.canLayAll0 r) = true
    rw [h d List.mem_cons_self, lay_all fun x hx => h x (List.mem_cons_of_mem _ hx)]; rfl
theorem lay_tup {ds : List PyData} (h : ∀ d ∈ ds, d.canLay0 = true) : (PyData.tuple ds).canLay0 = true := lay_all h
def lN (t : Tm) : Prop := match t with
  | .node c _ => SOk c
  | .map es => ∀ e ∈ es, SOk e.1
  | .name s => SOk s
  | .var s => SOk s
  | _ => True
theorem lay_tm {t : Tm} (h : Al lN t) : t.d.canLay0 = true := by
  have w : ∀ x ∈ (["int", "name", "addr", "meta", "node", "map", "get", "set", "plus", "minus"] : List Str), SOk x := by decide +kernel
  induction t using Tm.ind with
  | h t ih =>
    have hl := h.at_
    have two : ∀ (a : Str) (x : PyData), SOk a → x.canLay0 = true → (PyData.tuple [.str a, x]).canLay0 = true := fun a x ha hx => lay_tup fun d hd => by
      rcases List.mem_cons.mp hd with rfl | hd
      · exact ha
      · rw [List.mem_singleton.mp hd]; exact hx
    cases t with
    | node c ts =>
      unfold Tm.d
      rw [Tm.ds_map]
      refine lay_tup fun d hd => ?_
      rcases List.mem_cons.mp hd with rfl | hd
      · exact w "node" (by decide)
      rcases List.mem_cons.mp hd with rfl | hd
      · exact hl
      rw [List.mem_singleton.mp hd]
      refine lay_tup fun d hd => ?_
      obtain ⟨k, hk, rfl⟩ := List.mem_map.mp hd
      exact ih k hk (h.kid hk)
    | map es =>
      unfold Tm.d
      rw [Tm.es_map]
      refine two _ _ (w _ (by decide)) (lay_tup fun d hd => ?_)
      obtain ⟨e, he, rfl⟩ := List.mem_map.mp hd
      have hk : e.2 ∈ (Tm.map es).kids := List.mem_map.mpr ⟨e, he, rfl⟩
      exact two _ _ (hl e he) (ih e.2 hk (h.kid hk))
    | form f ts =>
      unfold Tm.d
      rw [Tm.ds_map]
      refine lay_tup fun d hd => ?_
      rcases List.mem_cons.mp hd with rfl | hd
      · exact w _ (by cases f <;> decide)
      obtain ⟨k, hk, rfl⟩ := List.mem_map.mp hd
      exact ih k hk (h.kid hk)
    | int n => unfold Tm.d; exact two _ _ (w _ (by decide)) rfl
    | name n => unfold Tm.d; exact two _ _ (w _ (by decide)) hl
    | addr n => unfold Tm.d; exact two _ _ (w _ (by decide)) rfl
    | var n => unfold Tm.d; exact two _ _ (w _ (by decide)) hl
theorem tm_depthF {t : Tm} : t.d.depth ≤ 3 * t.ht := by
  induction t using Tm.ind with
  | h t ih =>
    have hpos := t.ht_pos
    cases t with
    | node c ts =>
      unfold Tm.d
      rw [Tm.ds_map]
      have : PyData.depthAll (ts.map Tm.d) ≤ 3 * (Tm.node c ts).ht - 3 := depth_all fun d hd => by
        obtain ⟨k, hk, rfl⟩ := List.mem_map.mp hd
        have h1 := ih k hk
        have h2 := Tm.ht_kid (t := .node c ts) hk
        omega
      show max 0 (max 0 (max (PyData.depthAll (ts.map Tm.d) + 1) 0)) + 1 ≤ _
      omega
    | map es =>
      unfold Tm.d
      rw [Tm.es_map]
      have : PyData.depthAll (es.map Tm.ent) ≤ 3 * (Tm.map es).ht - 2 := depth_all fun d hd => by
        obtain ⟨e, he, rfl⟩ := List.mem_map.mp hd
        have hk : e.2 ∈ (Tm.map es).kids := List.mem_map.mpr ⟨e, he, rfl⟩
        have h1 := ih e.2 hk
        have h2 := Tm.ht_kid hk
        unfold Tm.ent
        show max 0 (max e.2.d.depth 0) + 1 ≤ _
        omega
      show max 0 (max (PyData.depthAll (es.map Tm.ent) + 1) 0) + 1 ≤ _
      omega
    | form f ts =>
      unfold Tm.d
      rw [Tm.ds_map]
      have : PyData.depthAll (ts.map Tm.d) ≤ 3 * (Tm.form f ts).ht - 3 := depth_all fun d hd => by
        obtain ⟨k, hk, rfl⟩ := List.mem_map.mp hd
        have h1 := ih k hk
        have h2 := Tm.ht_kid (t := .form f ts) hk
        omega
      show max 0 (PyData.depthAll (ts.map Tm.d)) + 1 ≤ _
      omega
    | int n => unfold Tm.d; show max 0 (max 0 0) + 1 ≤ _; omega
    | name n => unfold Tm.d; show max 0 (max 0 0) + 1 ≤ _; omega
    | addr n => unfold Tm.d; show max 0 (max 0 0) + 1 ≤ _; omega
    | var n => unfold Tm.d; show max 0 (max 0 0) + 1 ≤ _; omega
theorem size_map (es : List (Str × Tm)) : (Tm.map es).size = 1 + (es.map fun e => e.2.size).sum := by
  rw [Tm.size_eq]
  show 1 + ((es.map Prod.snd).map Tm.size).sum = _
  rw [List.map_map]; rfl
def rN (t : Tm) : Prop := match t with
  | .node c _ => WOk c
  | .map es => ∀ e ∈ es, WOk e.1
  | .name s => WOk s
  | .var s => WOk s
  | .int n => n.natAbs < 10000000000000000
  | .addr n => n.natAbs < 10000000000000000
  | .form _ _ => True
def kN (t : Tm) : Prop := t.kids.length ≤ 8
theorem words_wok : ∀ x ∈ (["int", "name", "addr", "meta", "node", "map", "get", "set", "plus", "minus"] : List Str), WOk x := by decide +kernel
theorem tm_all {p : PyData → Prop} (hs : ∀ x, WOk x → p (.str x)) (hi : ∀ n : Int, n.natAbs < 10000000000000000 → p (.int n)) (ht : ∀ ds : List PyData, (∀ d ∈ ds, p d) → p (.tuple ds)) {t : Tm} (h : Al rN t) : p t.d := by
  induction t using Tm.ind with
  | h t ih =>
    have hl := h.at_
    have w := fun x hx => hs x (words_wok x hx)
    have two : ∀ {a b : PyData}, p a → p b → p (.tuple [a, b]) := fun ha hb => ht _ fun d hd => by
      rcases List.mem_cons.mp hd with rfl | hd
      · exact ha
      · rw [List.mem_singleton.mp hd]; exact hb
    cases t with
    | node c ts =>
      unfold Tm.d
      rw [Tm.ds_map]
      refine ht _ fun d hd => ?_
      rcases List.mem_cons.mp hd with rfl | hd
      · exact w "node" (by decide)
      rcases List.mem_cons.mp hd with rfl | hd
      · exact hs c hl
      rw [List.mem_singleton.mp hd]
      refine ht _ fun d hd => ?_
      obtain ⟨k, hk, rfl⟩ := List.mem_map.mp hd
      exact ih k hk (h.kid hk)
    | map es =>
      unfold Tm.d
      rw [Tm.es_map]
      refine two (w _ (by decide)) (ht _ fun d hd => ?_)
      obtain ⟨e, he, rfl⟩ := List.mem_map.mp hd
      have hk : e.2 ∈ (Tm.map es).kids := List.mem_map.mpr ⟨e, he, rfl⟩
      exact two (hs _ (hl e he)) (ih e.2 hk (h.kid hk))
    | form f ts =>
      unfold Tm.d
      rw [Tm.ds_map]
      refine ht _ fun d hd => ?_
      rcases List.mem_cons.mp hd with rfl | hd
      · exact w _ (by cases f <;> decide)
      obtain ⟨k, hk, rfl⟩ := List.mem_map.mp hd
      exact ih k hk (h.kid hk)
    | int n => unfold Tm.d; exact two (w _ (by decide)) (hi n hl)
    | name n => unfold Tm.d; exact two (w _ (by decide)) (hs n hl)
    | addr n => unfold Tm.d; exact two (w _ (by decide)) (hi n hl)
    | var n => unfold Tm.d; exact two (w _ (by decide)) (hs n hl)
structure Rep (d : PyData) : Prop where
  tup : d.hasDict = false
  show_ : d.showable = true
  short : d.leavesShort 17 = true
theorem rep_str {x : Str} (h : WOk x) : Rep (.str x) := ⟨by unfold PyData.hasDict; rfl, by unfold PyData.showable; rfl, by
  have h1 : x.cps.all (· < 0x110000) = true := h.1
  unfold PyData.leavesShort
  rw [List.all_eq_true]
  intro c hc
  have := Array.all_eq_true_iff_forall_mem.mp h1 c (Array.mem_toList_iff.mp hc)
  have h2 : c < 0x110000 := by simpa using this
  exact decide_eq_true (Nat.lt_trans h2 (by decide))⟩
theorem rep_int {n : Int} (h : n.natAbs < 10000000000000000) : Rep (.int n) := ⟨by unfold PyData.hasDict; rfl, by
  unfold PyData.showable
  exact decide_eq_true (Nat.lt_of_lt_of_le (PySem.Flt.log2_lt_of (k := 64) (by decide) (Nat.lt_of_lt_of_le h (by decide))) (by decide)), by
  unfold PyData.leavesShort
  refine decide_eq_true ?_
  have e := PySem.int_text_length_le10 (a := n) (k := 16) (by decide) (Nat.lt_of_lt_of_le h (by decide))
  show (Str.ofString (toString n)).length ≤ 17
  rw [PySem.ofString_length]; exact e⟩
theorem rep_tup : ∀ {ds : List PyData}, (∀ d ∈ ds, Rep d) → Rep (.tuple ds) := fun {ds} h => by
  have key : PyData.hasDictAll ds = false ∧ PyData.showableAll ds = true ∧ PyData.leavesShortAll 17 ds = true := by
    induction ds with
    | nil => exact ⟨by unfold PyData.hasDictAll; rfl, by unfold PyData.showableAll; rfl, by unfold PyData.leavesShortAll; rfl⟩
    | cons d r ih =>
      obtain ⟨i1, i2, i3⟩ := ih fun x hx => h x (List.mem_cons_of_mem _ hx)
      have hd := h d List.mem_cons_self
      refine ⟨?_, ?_, ?_⟩
      · unfold PyData.hasDictAll; rw [hd.tup, i1]; rfl
      · unfold PyData.showableAll; rw [hd.show_, i2]; rfl
      · unfold PyData.leavesShortAll; rw [hd.short, i3]; rfl
  exact ⟨by unfold PyData.hasDict; exact key.1, by unfold PyData.showable; exact key.2.1, by unfold PyData.leavesShort; exact key.2.2⟩
theorem tm_rep {t : Tm} (h : Al rN t) : Rep t.d := tm_all (fun _ h => rep_str h) (fun _ h => rep_int h) (fun _ h => rep_tup h) h
theorem bulk_all : ∀ ds : List PyData, PyData.bulkAll ds = (ds.map fun d => d.bulk + 1).sum
  | [] => by unfold PyData.bulkAll; rfl
  | d :: r => by unfold PyData.bulkAll; rw [bulk_all r, List.map_cons, List.sum_cons]
theorem bulk_tup (ds : List PyData) : (PyData.tuple ds).bulk = (ds.map fun d => d.bulk + 1).sum := by rw [← bulk_all]; unfold PyData.bulk; rfl
theorem bulk_str (x : Str) : (PyData.str x).bulk = x.length := by unfold PyData.bulk; rfl
theorem bulk_int (n : Int) : (PyData.int n).bulk = 0 := by unfold PyData.bulk; rfl
theorem sum_le2 {α : Type} (f g : α → Nat) (m : Nat) : ∀ l : List α, (∀ x ∈ l, f x + m ≤ g x) → (l.map f).sum + l.length * m ≤ (l.map g).sum
  | [], _ => by simp
  | a :: l, h => by
    have h1 := h a List.mem_cons_self
    have h2 := sum_le2 f g m l fun x hx => h x (List.mem_cons_of_mem _ hx)
    rw [List.map_cons, List.map_cons, List.sum_cons, List.sum_cons, List.length_cons, Nat.succ_mul]
    omega
theorem sum_mul (f : Tm → Nat) (m : Nat) : ∀ l : List Tm, (l.map fun x => m * f x).sum = m * (l.map f).sum
  | [] => by simp
  | a :: l => by rw [List.map_cons, List.map_cons, List.sum_cons, List.sum_cons, sum_mul f m l, Nat.mul_add]
theorem tm_bulk {t : Tm} (h : Al rN t) : t.d.bulk + 19 ≤ 40 * t.size := by
  have wl : ∀ x ∈ (["int", "name", "addr", "meta", "node", "map", "get", "set", "plus", "minus"] : List Str), x.length ≤ 5 := by decide +kernel
  induction t using Tm.ind with
  | h t ih =>
    have hl := h.at_
    have hsz := Tm.size_eq t
    have two : ∀ {a b : PyData}, (PyData.tuple [a, b]).bulk = a.bulk + 1 + (b.bulk + 1) := fun {a b} => by rw [bulk_tup]; simp only [List.map_cons, List.map_nil, List.sum_cons, List.sum_nil]; omega
    have ks : ∀ ts : List Tm, (∀ k ∈ ts, k ∈ t.kids) → ((ts.map Tm.d).map fun d => d.bulk + 1).sum ≤ 40 * (ts.map Tm.size).sum := fun ts hk => by
      rw [List.map_map, ← sum_mul]
      have := sum_le2 ((fun d : PyData => d.bulk + 1) ∘ Tm.d) (fun x => 40 * x.size) 0 ts fun x hx => by
        have := ih x (hk x hx) (h.kid (hk x hx))
        show x.d.bulk + 1 + 0 ≤ _
        omega
      omega
    cases t with
    | node c ts =>
      have hl : WOk c := hl
      have := ks ts fun k hk => hk
      have e : (Tm.node c ts).size = 1 + (ts.map Tm.size).sum := hsz
      unfold Tm.d
      rw [Tm.ds_map, bulk_tup]
      simp only [List.map_cons, List.map_nil, List.sum_cons, List.sum_nil]
      rw [bulk_str, bulk_str, bulk_tup]
      have w := wl "node" (by decide)
      have := hl.2
      omega
    | map es =>
      have hl : ∀ e ∈ es, WOk e.1 := hl
      unfold Tm.d
      rw [Tm.es_map, two, bulk_str, bulk_tup, size_map]
      have w := wl "map" (by decide)
      have := sum_le2 ((fun d : PyData => d.bulk + 1) ∘ Tm.ent) (fun e => 40 * e.2.size) 0 es fun e he => by
        have hk : e.2 ∈ (Tm.map es).kids := List.mem_map.mpr ⟨e, he, rfl⟩
        have h1 := ih e.2 hk (h.kid hk)
        have h2 := (hl e he).2
        show (Tm.ent e).bulk + 1 + 0 ≤ _
        unfold Tm.ent
        rw [two, bulk_str]
        omega
      rw [List.map_map]
      have e2 : (es.map fun e => 40 * e.2.size).sum = 40 * (es.map fun e => e.2.size).sum := by
        have := sum_mul Tm.size 40 (es.map Prod.snd)
        rw [List.map_map, List.map_map] at this
        exact this
      omega
    | form f ts =>
      have := ks ts fun k hk => hk
      have e : (Tm.form f ts).size = 1 + (ts.map Tm.size).sum := hsz
      unfold Tm.d
      rw [Tm.ds_map, bulk_tup, List.map_cons, List.sum_cons, bulk_str]
      have w := wl f.s (by cases f <;> decide)
      omega
    | int n =>
      unfold Tm.d; rw [two, bulk_str, bulk_int]
      have w := wl "int" (by decide)
      have := (Tm.int n).size_pos
      omega
    | name n =>
      have hl : WOk n := hl
      unfold Tm.d; rw [two, bulk_str, bulk_str]
      have w := wl "name" (by decide)
      have := hl.2
      have := (Tm.name n).size_pos
      omega
    | addr n =>
      unfold Tm.d; rw [two, bulk_str, bulk_int]
      have w := wl "addr" (by decide)
      have := (Tm.addr n).size_pos
      omega
    | var n =>
      have hl : WOk n := hl
      unfold Tm.d; rw [two, bulk_str, bulk_str]
      have w := wl "meta" (by decide)
      have := hl.2
      have := (Tm.var n).size_pos
      omega
theorem slim_kn {t : Tm} (h : Al kN t) : slim t.d = true := by
  induction t using Tm.ind with
  | h t ih =>
    have hl := h.at_
    cases t with
    | node c ts =>
      have hl : ts.length ≤ 8 := hl
      unfold Tm.d
      rw [Tm.ds_map]
      refine slim_tup (by show 3 ≤ 1000; decide) fun d hd => ?_
      rcases List.mem_cons.mp hd with rfl | hd
      · exact slim_str _
      rcases List.mem_cons.mp hd with rfl | hd
      · exact slim_str _
      rw [List.mem_singleton.mp hd]
      refine slim_tup (by rw [List.length_map]; omega) fun d hd => ?_
      obtain ⟨k, hk, rfl⟩ := List.mem_map.mp hd
      exact ih k hk (h.kid hk)
    | map es =>
      unfold Tm.d
      rw [Tm.es_map]
      have lk : es.length ≤ 8 := by have hl : (es.map Prod.snd).length ≤ 8 := hl; rw [List.length_map] at hl; exact hl
      refine slim_two (slim_str _) (slim_tup (by rw [List.length_map]; omega) fun d hd => ?_)
      obtain ⟨e, he, rfl⟩ := List.mem_map.mp hd
      have hk : e.2 ∈ (Tm.map es).kids := List.mem_map.mpr ⟨e, he, rfl⟩
      exact slim_two (slim_str _) (ih e.2 hk (h.kid hk))
    | form f ts =>
      have hl : ts.length ≤ 8 := hl
      unfold Tm.d
      rw [Tm.ds_map]
      refine slim_tup (by rw [List.length_cons, List.length_map]; omega) fun d hd => ?_
      rcases List.mem_cons.mp hd with rfl | hd
      · exact slim_str _
      obtain ⟨k, hk, rfl⟩ := List.mem_map.mp hd
      exact ih k hk (h.kid hk)
    | int n => unfold Tm.d; exact slim_two (slim_str _) (slim_int _)
    | name n => unfold Tm.d; exact slim_two (slim_str _) (slim_str _)
    | addr n => unfold Tm.d; exact slim_two (slim_str _) (slim_int _)
    | var n => unfold Tm.d; exact slim_two (slim_str _) (slim_str _)
theorem TT.rn {hs : Hds} {ps : List Str} {t : Tm} (h : TT hs ps t) : Al rN t := Al.imp (fun t h => by
  cases t with
  | node c ts => exact h.2.1.wok
  | map es => exact fun e he => (h.2.1 e he).wok
  | form f ts => exact h.elim
  | var s => exact h.2.wok
  | name s => exact h.wok
  | int n => have h : 0 ≤ n ∧ n < 1000 := h; show n.natAbs < _; omega
  | addr n => have h : 0 ≤ n ∧ n < 1000 := h; show n.natAbs < _; omega) h
theorem TT.lay {hs : Hds} {ps : List Str} {t : Tm} (h : TT hs ps t) : t.d.canLay0 = true := lay_tm (Al.imp (fun t h => by
  cases t with
  | node c ts => exact h.2.1.sok
  | map es => exact fun e he => (h.2.1 e he).sok
  | form f ts => exact h.elim
  | var s => exact h.2.sok
  | name s => exact h.sok
  | int n => trivial
  | addr n => trivial) h)
theorem TT.slim {hs : Hds} {ps : List Str} {t : Tm} (h : TT hs ps t) : slim t.d = true := slim_kn (Al.imp (fun t h => by
  cases t with
  | node c ts => have := h.2.2; show ts.length ≤ 8; omega
  | map es => have := h.1; show (es.map Prod.snd).length ≤ 8; rw [List.length_map]; omega
  | form f ts => exact h.elim
  | _ => exact Nat.zero_le _) h)
theorem TT.shown {hs : Hds} {ps : List Str} {t : Tm} (h : TT hs ps t) (hz : t.size ≤ 1000) : t.d.shown.length ≤ sizeLine := by
  have h1 := tm_rep h.rn
  have h2 := tm_bulk h.rn
  have := PyData.shown_le_bulk 17 (by decide) _ h1.short
  refine small ?_
  omega
theorem TT.rp {hs : Hds} {ps : List Str} {t : Tm} (h : TT hs ps t) : Rp t.d := by
  have wl : ∀ x ∈ (["int", "name", "addr", "meta", "node", "map"] : List Str), Rp (.str x) := fun x hx => .str (by
    have key : ∀ x ∈ (["int", "name", "addr", "meta", "node", "map"] : List Str), ∀ c ∈ x.cps.toList, c ∈ OTH.cps.toList := by decide +kernel
    exact key x hx)
  have two : ∀ {a b : PyData}, Rp a → Rp b → Rp (.tuple [a, b]) := fun ha hb => .tup fun d hd => by
    rcases List.mem_cons.mp hd with rfl | hd
    · exact ha
    · rw [List.mem_singleton.mp hd]; exact hb
  induction t using Tm.ind with
  | h t ih =>
    have hl := h.at_
    cases t with
    | node c ts =>
      unfold Tm.d
      rw [Tm.ds_map]
      refine .tup fun d hd => ?_
      rcases List.mem_cons.mp hd with rfl | hd
      · exact wl "node" (by decide)
      rcases List.mem_cons.mp hd with rfl | hd
      · exact .str hl.2.1.al
      rw [List.mem_singleton.mp hd]
      refine .tup fun d hd => ?_
      obtain ⟨k, hk, rfl⟩ := List.mem_map.mp hd
      exact ih k hk (h.kid hk)
    | map es =>
      unfold Tm.d
      rw [Tm.es_map]
      refine two (wl _ (by decide)) (.tup fun d hd => ?_)
      obtain ⟨e, he, rfl⟩ := List.mem_map.mp hd
      have hk : e.2 ∈ (Tm.map es).kids := List.mem_map.mpr ⟨e, he, rfl⟩
      exact two (.str (hl.2.1 e he).al) (ih e.2 hk (h.kid hk))
    | form f ts => exact hl.elim
    | int n => unfold Tm.d; exact two (wl _ (by decide)) (.int hl.1)
    | name n => unfold Tm.d; exact two (wl _ (by decide)) (.str hl.al)
    | addr n => unfold Tm.d; exact two (wl _ (by decide)) (.int hl.1)
    | var n => unfold Tm.d; exact two (wl _ (by decide)) (.str hl.2.al)
end PK
namespace PK
open PySem L2
/-! matching -/
def Off (f : Addr) (H H' : Hp) : Prop := (∃ k, H f = some (.dK k)) ∧ (∃ k, H' f = some (.dK k)) ∧ ∀ b o, b ≠ f → H b = some o → H' b = some o
section
variable {f : Addr} {K : PySem.W.Frag} {H H1 H2 : Hp}
theorem Off.refl {k} (h : H f = some (.dK k)) : Off f H H := ⟨⟨_, h⟩, ⟨_, h⟩, fun _ _ _ h => h⟩
theorem Off.trans (a : Off f H H1) (b : Off f H1 H2) : Off f H H2 := ⟨a.1, b.2.1, fun x o n h => b.2.2 x o n (a.2.2 x o n h)⟩
theorem Off.upd {k} (a : Off f H H1) : Off f H (L2.upd H1 f (.dK k)) := ⟨a.1, ⟨_, upd_same⟩, fun x o n h => by rw [upd_ne n]; exact a.2.2 x o n h⟩
theorem Off.seqT {a : Addr} {xs : List V} (x : Off f H H1) (h : SqT K H a xs) : SqT K H1 a xs := by
  obtain ⟨k, hk⟩ := x.1
  have nl : ∀ {o : HO}, H a = some o → (∀ y, o ≠ .dK y) → a ≠ f := fun e d z => by
    rw [z, hk] at e; cases e; exact d _ rfl
  rcases h with (h | ⟨o, h⟩) | h
  · exact .inl (.inl (x.2.2 _ _ (nl h (fun _ => HO.noConfusion)) h))
  · exact .inl (.inr ⟨o, x.2.2 _ _ (nl h (fun _ => HO.noConfusion)) h⟩)
  · exact .inr h
theorem Dt.off {v : V} {d : PyData} (h : Dt K H v d) (x : Off f H H1) : Dt K H1 v d := Dt.mono (fun _ _ z => x.seqT z) _ _ h
theorem DtAll.off {v : List V} {d : List PyData} (h : DtAll K H v d) (x : Off f H H1) : DtAll K H1 v d := DtAll.mono (fun _ _ z => x.seqT z) _ _ h
theorem Off.same (a : Off f H H1) (s : Same H1 H2) : Off f H H2 := ⟨a.1, a.2.1.elim fun k h => ⟨k, s _ _ h⟩, fun x o n h => s _ _ (a.2.2 x o n h)⟩
theorem Same.off (s : Same H H1) (k : ∃ k, H f = some (.dK k)) (a : Off f H1 H2) : Off f H H2 := ⟨k, a.2.1, fun x o n h => a.2.2 x o n (s _ _ h)⟩
end
theorem BindE.off {K : PySem.W.Frag} {f : Addr} {H H' : Hp} {kvs : List (Key × V)} {tab : Tab} (h : BindE K H kvs tab) (x : Off f H H') : BindE K H' kvs tab := h.mono fun _ _ z => z.off x
theorem tm_hd {K : PySem.W.Frag} {H : Hp} {v : V} {t : Tm} (h : Dt K H v t.d) (nf : ∀ f ts, t ≠ .form f ts) : ∃ (a : Addr) (g : Str) (r : List V), v = .ref a ∧ SqT K H a (.str g :: r) ∧ ((g = "node" ∧ ∃ c ts, t = .node c ts) ∨ (g ≠ "node" ∧ ∀ c ts, t ≠ .node c ts)) := by
  cases t with
  | node c ts =>
    unfold Tm.d at h
    obtain ⟨a, x, y, z, rfl, hs, h1, _⟩ := Dt.t3 h
    obtain rfl := h1.s
    exact ⟨a, _, _, rfl, hs, .inl ⟨rfl, c, ts, rfl⟩⟩
  | form f ts => exact absurd rfl (nf f ts)
  | _ =>
    unfold Tm.d at h
    obtain ⟨a, x, y, rfl, hs, h1, _⟩ := Dt.t2 h
    obtain rfl := h1.s
    exact ⟨a, _, _, rfl, hs, .inr ⟨by decide +kernel, fun _ _ z => nomatch z⟩⟩
theorem BindE.app {K : PySem.W.Frag} {H : Hp} {kvs : List (Key × V)} {tab : Tab} (h : BindE K H kvs tab) {w : Str} {v : V} {t : Tm} (dv : Dt K H v t.d) : BindE K H (putK kvs (.inr w) v) (tab ++ [(w, t)]) := h.put dv
def spMatch (K : PySem.W.Frag) (n : Nat) : Sp := fun vs H Q _ => ∃ (vp vt : V) (fa : Addr) (p t : Tm) (kvs : List (Key × V)) (tab0 : Tab) (hs : Hds) (ps qs : List Str), vs = [vp, vt, .ref fa] ∧ Dt K H vp p.d ∧ Dt K H vt t.d ∧ H fa = some (.dK kvs) ∧ BindE K H kvs tab0 ∧ HdOk hs ∧ TT hs ps p ∧ Al noM p ∧ TT hs qs t ∧ t.ht ≤ 60 ∧ kvs.length + p.size ≤ 1000 ∧ p.ht ≤ n ∧
  ∀ (H' : Hp) (kvs' : List (Key × V)) (b : Bool), Off fa H H' → H' fa = some (.dK kvs') → kvs'.length ≤ kvs.length + p.size → (b = true → ∃ tab, mch p t = some tab ∧ BindE K H' kvs' (tab0 ++ tab)) → (b = false → mch p t = none) → Q (.bl b) H'
section
variable {P : Program} {w : World} {K : PySem.W.Frag} {mg : Str → Option Value} {base : Heap}
abbrev s_law_match : Stmt := topS 15
theorem sc_law_match : FnScope ["pattern", "term", "found", "k"] ["pattern", "term", "found"] (defScope s_law_match) := ⟨rfl, rfl, rfl, by decide +kernel, rfl, by decide +kernel, by decide +kernel⟩
-- slots: 0:pattern 1:term 2:found 3:k
theorem ok_match {n : Nat} {f : Addr} {fd : FuncData} (F : Fun K "_law_match" "_law_match" s_law_match f fd) (T : Txt K mg) (C_law_match : C8.Cal P w K mg base n "_law_match" (spMatch K n) []) :
    FnOk P w K mg base CX0 (n + 1) f fd ["pattern", "term", "found"] (spMatch K (n + 1)) := by
  refine F.ok sc_law_match (fun vs H Q E h => ?_) (fun cdv A outer s H vs Q E hr h => ?_)
  · obtain ⟨_, _, _, _, _, _, _, _, _, _, rfl, _⟩ := h
    rfl
  obtain ⟨vp, vt, fa, p, t, kvs, tab0, hs, ps, qs, rfl, hp, ht, hfa, hb, hok, tp, mp, tt, htt, hl, hh, q⟩ := h
  refine ⟨_, (pss_cons (ps_if (pt_cmpR op_eq (pe_ix ix_tup (pv 0) pe_int (fun _ _ => rfl)) pe_str (nomark _)) (pss_cons (ps_dput (hu_of hr) (pv 2) (pe_ix ix_tup (pv 0) pe_int (fun _ _ => rfl)) (pv 1) rfl)
    (pss_one (ps_ret pe_bl))) pss_nil)
    (pss_cons (ps_if (pt_cmpR op_ne (pe_ix ix_tup (pv 0) pe_int (fun _ _ => rfl)) pe_str (nomark _)) (pss_one (ps_ret (pe_cmpR (PKE.op_eqN (n := 190) (eqU hr)) (pv 0) (pv 1) (nomark _)))) pss_nil)
    (pss_cons (ps_if (PW.pt (pw_or (pt_cmpR op_ne (pe_ix ix_tup (pv 1) pe_int (fun _ _ => rfl)) pe_str (nomark _)) (pw_or1 (pt_cmpR op_ne (pe_ix ix_tup (pv 1) pe_int (fun _ _ => rfl)) (pe_ix ix_tup (pv 0) pe_int (fun _ _ => rfl)) (nomark _))))) (pss_one (ps_ret pe_bl)) pss_nil)
    (pss_cons (ps_for PassesOwn.never rfl (pi_range1 (by rfl) T.z_range (pa_cons (pe_callB call_len_seq (by rfl) T.z_len (by decide +kernel) (pa_cons (pe_ix ix_tup (pv 0) pe_int (fun _ _ => rfl)) pa_nil)) pa_nil)) (pg_name (i := 3) sc_law_match.nd rfl (Or.inl rfl)) (pss_one (ps_if (pt_not (pt_val (C8.pe_c C_law_match hr (by omega) rfl (pa_cons (pe_ix ix_tup (pe_ix ix_tup (pv 0) pe_int (fun _ _ => rfl)) (pv 3) (fun _ _ => rfl)) (pa_cons (pe_ix ix_tup (pe_ix ix_tup (pv 1) pe_int (fun _ _ => rfl)) (pv 3) (fun _ _ => rfl)) (pa_cons (pv 2) pa_nil)))))) (pss_one (ps_ret pe_bl)) pss_nil)))
    (pss_one (ps_ret pe_bl)))))), ?_⟩
  have nfP : ∀ f ts, p ≠ .form f ts := fun f ts e => by rw [e] at tp; exact tp.at_.elim
  have nfT : ∀ f ts, t ≠ .form f ts := fun f ts e => by rw [e] at tt; exact tt.at_.elim
  have psz := p.size_pos
  -- what is no node and no word
  have leaf : p.atom → PKE.rEqN K 190 vp vt H Q := fun ha => by
    refine ⟨_, _, Dt.dp _ _ hp, Dt.dp _ _ ht, tp.lay, tt.lay, .inr (by have := tm_depthF (t := t); omega), ?_⟩
    refine q H kvs _ (Off.refl hfa) hfa (by omega) (fun e => ⟨[], ?_, by rw [List.append_nil]; exact hb⟩) fun e => ?_
    · rw [mch_atom ha, if_pos e]
    · rw [mch_atom ha, if_neg (by rw [e]; exact Bool.false_ne_true)]
  cases p with
  | form f ts => exact absurd rfl (nfP f ts)
  | map es => exact absurd rfl (mp.at_ es)
  | int m =>
    obtain ⟨a, g, y, rfl, hsq, g1, g2, _⟩ := atom_dt (t := .int m) trivial hp
    unfold Tm.d at hp
    obtain ⟨a', x, y', e, hsq, h1, h2⟩ := Dt.t2 hp
    cases e
    obtain rfl := h1.s
    exact vTx rfl hsq rfl ⟨rfl, _, rfl, sF (by decide +kernel) (vTx rfl hsq rfl ⟨rfl, _, rfl, nT (by decide +kernel) ⟨_, rfl, _, rfl, leaf trivial⟩⟩)⟩
  | addr m =>
    unfold Tm.d at hp
    obtain ⟨a', x, y', rfl, hsq, h1, h2⟩ := Dt.t2 hp
    obtain rfl := h1.s
    exact vTx rfl hsq rfl ⟨rfl, _, rfl, sF (by decide +kernel) (vTx rfl hsq rfl ⟨rfl, _, rfl, nT (by decide +kernel) ⟨_, rfl, _, rfl, leaf trivial⟩⟩)⟩
  | name m =>
    unfold Tm.d at hp
    obtain ⟨a', x, y', rfl, hsq, h1, h2⟩ := Dt.t2 hp
    obtain rfl := h1.s
    exact vTx rfl hsq rfl ⟨rfl, _, rfl, sF (by decide +kernel) (vTx rfl hsq rfl ⟨rfl, _, rfl, nT (by decide +kernel) ⟨_, rfl, _, rfl, leaf trivial⟩⟩)⟩
  | var s =>
    unfold Tm.d at hp
    obtain ⟨a', x, y', rfl, hsq, h1, h2⟩ := Dt.t2 hp
    obtain rfl := h1.s
    obtain rfl := h2.s
    refine vTx rfl hsq rfl ⟨rfl, _, rfl, sT rfl ⟨_, rfl, _, rfl, vTx rfl hsq rfl ⟨fa, _, rfl, DPut.k (k := Sum.inr s) hfa (smallL (by omega)), ?_⟩⟩⟩
    have lz := length_putK kvs (Sum.inr s) vt
    have o := (Off.refl (f := fa) hfa).upd (k := putK kvs (Sum.inr s) vt)
    refine q _ _ true o upd_same (by omega) (fun _ => ⟨_, mch_var s t, (hb.put ht).off o⟩) fun e => nomatch e
  | node c ps' =>
    have hp0 := hp
    unfold Tm.d at hp
    obtain ⟨a, x, y, z, rfl, hsq, h1, h2, h3⟩ := Dt.t3 hp
    obtain rfl := h1.s
    obtain rfl := h2.s
    refine vTx rfl hsq rfl ⟨rfl, _, rfl, sF (by decide +kernel) (vTx rfl hsq rfl ⟨rfl, _, rfl, nF rfl ?_⟩)⟩
    obtain ⟨b, g, r2, rfl, hs2, alt⟩ := tm_hd ht nfT
    rcases alt with ⟨rfl, d, ts, rfl⟩ | ⟨hg, hn⟩
    rotate_left
    · refine vTx rfl hs2 (atI_nat (j := 0) rfl) ⟨rfl, _, rfl, nT hg (q H kvs false (Off.refl hfa) hfa (by omega) (fun e => nomatch e) fun _ => mch_nn c ps' hn)⟩
    unfold Tm.d at ht
    obtain ⟨b', x2, y2, z2, e2, hs2, k1, k2, k3⟩ := Dt.t3 ht
    cases e2
    obtain rfl := k1.s
    obtain rfl := k2.s
    obtain ⟨pa, us, rfl, ha, hus⟩ := Dt.tn h3
    obtain ⟨pb, ws, rfl, hbw, hws⟩ := Dt.tn k3
    rw [Tm.ds_map] at hus hws
    have lu := hus.lenD
    have lw := hws.lenD
    rw [List.length_map] at lu lw
    refine vTx rfl hs2 rfl ⟨rfl, _, rfl, nF rfl ?_⟩
    refine vTx rfl hs2 rfl (vTx rfl hsq rfl ⟨rfl, _, rfl, ?_⟩)
    by_cases ec : d = c
    rotate_left
    · refine nT ec (q H kvs false (Off.refl hfa) hfa (by omega) (fun e => nomatch e) fun _ => ?_)
      rw [mch_node, if_neg ec]
    subst ec
    refine nF rfl ?_
    have hl2 : ps'.length = ts.length := hd_one hok tp.at_.1 tt.at_.1
    have hszp : (Tm.node d ps').size = 1 + (ps'.map Tm.size).sum := Tm.size_eq _
    have l3 : ps'.length ≤ 3 := tp.len
    have ez : (List.zipWith mch ps' ts).length = ps'.length := by rw [List.length_zipWith]; omega
    refine vTx rfl hsq rfl ⟨pa, _, rfl, .inr ha, ?_⟩
    refine ⟨_, rfl, by omega, by omega, for_range (lo := 0) (n := ((us.length : Nat) : Int).toNat) (fun i σ H' => ∃ (l : List Tab) (kv : List (Key × V)) (o : Option V), σ = [some (.ref a), some (.ref b), some (.ref fa), o] ∧ Off fa H H' ∧ H' fa = some (.dK kv) ∧ kv.length ≤ kvs.length + ((ps'.take i).map Tm.size).sum ∧ (List.zipWith mch ps' ts).take i = l.map some ∧ BindE K H' kv (tab0 ++ l.flatten)) ?_ ?_ ?_⟩
    · exact ⟨[], kvs, _, rfl, Off.refl hfa, hfa, Nat.le_refl _, rfl, by rw [List.flatten_nil, List.append_nil]; exact hb⟩
    · rintro i σ H1 hi ⟨l, kv, o, rfl, of1, hfa1, lkv, hz, hb1⟩
      have hi2 : i < ps'.length := by omega
      have hi3 : i < ts.length := by omega
      have e0 : (0 : Int) + (i : Int) = (i : Nat) := Int.zero_add _
      have g1 : ps'[i]? = some ps'[i] := List.getElem?_eq_getElem hi2
      have g2 : ts[i]? = some ts[i] := List.getElem?_eq_getElem hi3
      obtain ⟨x1, gx, dx⟩ := DtAll.getD hus (show (ps'.map Tm.d)[i]? = some ps'[i].d by rw [List.getElem?_map, g1]; rfl)
      obtain ⟨y1, gy, dy⟩ := DtAll.getD hws (show (ts.map Tm.d)[i]? = some ts[i].d by rw [List.getElem?_map, g2]; rfl)
      have m1 : ps'[i] ∈ (Tm.node d ps').kids := List.getElem_mem hi2
      have m2 : ts[i] ∈ (Tm.node d ts).kids := List.getElem_mem hi3
      have hk := Tm.ht_kid m1
      have hk2 := Tm.ht_kid m2
      have gp : ((ps'.take (i + 1)).map Tm.size).sum = ((ps'.take i).map Tm.size).sum + ps'[i].size := by
        rw [List.take_add_one, g1, List.map_append, List.sum_append]
        show _ + (ps'[i].size + 0) = _
        omega
      have gle : ((ps'.take i).map Tm.size).sum + ps'[i].size ≤ (ps'.map Tm.size).sum := by
        rw [← gp]
        have := List.take_append_drop (i + 1) ps'
        conv => rhs; rw [← this, List.map_append, List.sum_append]
        omega
      have gz : (List.zipWith mch ps' ts)[i]? = some (mch ps'[i] ts[i]) := by
        rw [List.getElem?_zipWith, g1, g2]
      refine vTx rfl (of1.seqT hsq) rfl ⟨_, rfl, pa, us, _, x1, rfl, rfl, of1.seqT ha, by rw [e0]; exact atI_nat gx, ?_⟩
      refine vTx rfl (of1.seqT hs2) rfl ⟨_, rfl, pb, ws, _, y1, rfl, rfl, of1.seqT hbw, by rw [e0]; exact atI_nat gy, _, rfl, ?_⟩
      refine ⟨x1, y1, fa, ps'[i], ts[i], kv, tab0 ++ l.flatten, hs, ps, qs, rfl, dx.off of1, dy.off of1, hfa1, hb1, hok, tp.kid m1, mp.kid m1, tt.kid m2, by omega, by omega, by omega, fun H2 kv2 bb of2 hfa2 lkv2 ht1 hf1 => ?_⟩
      refine ⟨_, rfl, ?_⟩
      cases bb with
      | true =>
        obtain ⟨tab, em, bd⟩ := ht1 rfl
        refine iteF ⟨l ++ [tab], kv2, _, rfl, of1.trans of2, hfa2, by rw [gp]; omega, ?_, ?_⟩
        · rw [List.take_add_one, gz, hz, em, List.map_append]; rfl
        · rw [List.flatten_append, List.flatten_singleton, ← List.append_assoc]; exact bd
      | false =>
        refine iteT (q H2 kv2 false (of1.trans of2) hfa2 (by omega) (fun e => nomatch e) fun _ => ?_)
        rw [mch_node, if_pos rfl]
        have : seqO (List.zipWith mch ps' ts) = none := seqO_none.mpr (List.mem_of_getElem? (by rw [gz, hf1 rfl]))
        rw [this]; rfl
    · rintro σ H1 ⟨l, kv, o, rfl, of1, hfa1, lkv, hz, hb1⟩
      rw [show ((us.length : Nat) : Int).toNat = ps'.length by omega, List.take_length] at lkv
      rw [show ((us.length : Nat) : Int).toNat = (List.zipWith mch ps' ts).length by omega, List.take_length] at hz
      refine q H1 kv true of1 hfa1 (by omega) (fun _ => ⟨l.flatten, ?_, hb1⟩) fun e => nomatch e
      rw [mch_node, if_pos rfl, hz, seqO_iff.mpr rfl]; rfl
end
end PK
namespace PK
open PySem PySem.Spec PyProof.Rows L2
/-! defs that are called where no repr is under way, called by their names -/
structure CalG (P : Program) (w : World) (K : PySem.W.Frag) (mg : Str → Option Value) (base : Heap) (k : Nat) (x : Str) (sp : Sp) (dvs : List V) : Prop where
  ex : ∃ (f : Addr) (fd : FuncData) (ps : List Str) (ds : List Value), FnG.FnG P w K mg base CX0 k f fd ps sp ∧ mg x = some (.ref f) ∧ PySem.W.keepIn K (.ref f) = true ∧ Binds K fd ps ds ∧ Vals dvs ds
section
variable {X : Cx} {CX : CXT} {k j : Nat} {f : Addr} {fd : FuncData} {ps : List Str} {sp : Sp} {dvs : List V} {ds : List Value} {E : XK} {x : Str} {p pos : Pos} {e : Expr} {es : List Expr} {t : TA}
theorem run_fnG {pins : List (Addr × Obj)} {σ : L2.St} {H : Hp} {s : Shared} {Q : VK} {us : List Value} {vs : List V} (F : FnG.FnG X.prog X.w X.K X.mg X.base CX k f fd ps sp) (gd : X.A.guards = some []) (hr : Room k X.A) (hb : Binds X.K fd ps ds) (hd : Vals dvs ds) (hx : Passes CX X E)
    (I : Inv X pins σ H s) (r : Vals vs us) (h : sp (vs ++ dvs) H Q E) : wpAny (model X.prog X.w) X.A (call (.ref f) us) (EP X pins σ Q) X.xe s := by
  have r2 : Vals (vs ++ dvs) (us ++ ds) := r.append hd
  have hl : (us ++ ds).length = ps.length := by rw [← r2.length]; exact F.len _ _ _ _ h
  refine wpAny_call (codeAny_mono (F.run X.A gd X.stack s H ⟨us, []⟩ (us ++ ds) (vs ++ dvs) Q E hr I.env0 (hb s us I.kIn hl) r2 h) fun r s' hq => ?_)
  cases r with
  | error e => exact hx pins σ H s e s' I hq
  | ok fl =>
    cases fl with
    | ret u => exact I.after hq
    | next => exact False.elim hq
    | brk => exact False.elim hq
    | cont => exact False.elim hq
theorem pe_callG (F : FnG.FnG X.prog X.w X.K X.mg X.base CX k f fd ps sp) (gd : X.A.guards = some []) (hr : Room k X.A) (hg : Gl X x) (hm : X.mg x = some (.ref f)) (hk : PySem.W.keepIn X.K (.ref f) = true) (hb : Binds X.K fd ps ds) (hd : Vals dvs ds) (hx : Passes CX X E)
    (ha : PA X (e :: es) t) (hdb : (x == ("__debug__" : Str)) = false := by decide) (he : starEach (e :: es) X.env = (false, eval e X.env) :: starEach es X.env := by rfl) (hpl : (backTo pos (starEach es X.env)).any (·.1) = false := by rfl) :
    PE X (.Call (.Name x p) (e :: es) [] pos) (tCall sp dvs E t) := by
  refine ⟨fun pins s σ H Q I h => ?_⟩
  refine wpAny_Call_Name_kw (ld_glob I hg hm ?_ hdb)
  refine PySem.W.callWith_K (h₀ := X.base) I.ok.mod.kin hk (thn (ha.run pos pins s σ H _ I h) fun us s1 ⟨vs, H1, I1, r, q⟩ => ⟨I1.kIn, ?_⟩) he hpl
  exact run_fnG F gd hr hb hd hx I1 r q
theorem pe_cG (c : CalG X.prog X.w X.K X.mg X.base k x sp dvs) (gd : X.A.guards = some []) (hr : Room j X.A) (hk : k ≤ j) (hg : Gl X x) (ha : PA X (e :: es) t)
    (hdb : (x == ("__debug__" : Str)) = false := by decide) (he : starEach (e :: es) X.env = (false, eval e X.env) :: starEach es X.env := by rfl) (hpl : (backTo pos (starEach es X.env)).any (·.1) = false := by rfl) :
    PE X (.Call (.Name x p) (e :: es) [] pos) (tCall sp dvs C8.E0 t) := by
  obtain ⟨f, fd, ps, ds, F, hm, kp, b, d⟩ := c.ex
  exact pe_callG F gd (hr.mono hk) hg hm kp b d C8.pass0 ha hdb he hpl
end
end PK
namespace PK
open PySem L2
/-! what the law's dict knows -/
theorem nd_le {α : Type} [DecidableEq α] : ∀ {l m : List α}, l.Nodup → (∀ x ∈ l, x ∈ m) → l.length ≤ m.length
  | [], _, _, _ => Nat.zero_le _
  | x :: l, m, nd, h => by
    obtain ⟨hx, nl⟩ := List.nodup_cons.mp nd
    have := nd_le (l := l) (m := m.erase x) nl fun y hy => (List.mem_erase_of_ne (fun e => hx (by rw [← e]; exact hy))).mpr (h y (List.mem_cons_of_mem _ hy))
    have hm := h x List.mem_cons_self
    rw [List.length_erase_of_mem hm] at this
    have := List.length_pos_of_mem hm
    rw [List.length_cons]; omega
theorem valV_memK : ∀ {kvs : List (Key × V)} {k : Key} {v : V}, valV kvs k = some v → (k, v) ∈ kvs
  | [], _, _, h => by cases h
  | p :: r, k, v, h => by
    by_cases e : p.1 = k
    · rw [valV_pos e] at h
      cases h
      rw [← e]; exact List.mem_cons_self
    · rw [valV_neg e] at h
      exact List.mem_cons_of_mem _ (valV_memK h)
theorem putK_mem {kvs : List (Key × V)} {k : Key} {v : V} {e : Key × V} (h : e ∈ putK kvs k v) : e = (k, v) ∨ e ∈ kvs := by
  unfold putK at h
  split at h
  · obtain ⟨z, hz, rfl⟩ := List.mem_map.mp h
    by_cases c : z.1 = k
    · rw [if_pos c]
      have : z.1 = k := c
      rw [this]; exact .inl rfl
    · rw [if_neg c]; exact .inr hz
  · rcases List.mem_append.mp h with h | h
    · exact .inr h
    · exact .inl (List.mem_singleton.mp h)
theorem putK_nd {kvs : List (Key × V)} {k : Key} {v : V} (h : (kvs.map Prod.fst).Nodup) : ((putK kvs k v).map Prod.fst).Nodup := by
  unfold putK
  split
  · rw [List.map_map]
    have : (Prod.fst ∘ fun kv : Key × V => if kv.1 = k then (kv.1, v) else kv) = Prod.fst := by
      funext kv
      show (if kv.1 = k then (kv.1, v) else kv).1 = kv.1
      split <;> rfl
    rw [this]; exact h
  · rename_i hn
    rw [List.map_append]
    refine List.nodup_append.mpr ⟨h, by simp, fun a ha b hb => ?_⟩
    rw [List.mem_singleton.mp (show b ∈ [k] from hb)]
    rintro rfl
    obtain ⟨z, hz, rfl⟩ := List.mem_map.mp ha
    exact hn (List.any_eq_true.mpr ⟨z, hz, decide_eq_true rfl⟩)
/-- terms are told by their data -/
theorem d_inj {hs hs' : Hds} : ∀ (s : Tm) {t : Tm}, TT hs [] s → TT hs' [] t → s.d = t.d → s = t := by
  intro s
  induction s using Tm.ind with
  | h s ih =>
    intro t h1 h2 e
    cases s with
    | form f ts => exact h1.at_.elim
    | var x => exact absurd h1.at_.1 List.not_mem_nil
    | node c ts =>
      cases t with
      | form f ts => exact h2.at_.elim
      | var x => exact absurd h2.at_.1 List.not_mem_nil
      | node c' ts' =>
        unfold Tm.d at e
        rw [Tm.ds_map, Tm.ds_map] at e
        simp only [PyData.tuple.injEq, List.cons.injEq, PyData.str.injEq, true_and, and_true] at e
        obtain ⟨rfl, e⟩ := e
        have key : ∀ (xs ys : List Tm), xs.map Tm.d = ys.map Tm.d → (∀ x ∈ xs, x ∈ (Tm.node c ts).kids) → (∀ y ∈ ys, y ∈ (Tm.node c ts').kids) → xs = ys := fun xs => by
          induction xs with
          | nil => intro ys h _ _; cases ys with | nil => rfl | cons _ _ => cases h
          | cons x xs ihx =>
            intro ys h a b
            cases ys with
            | nil => cases h
            | cons y ys =>
              rw [List.map_cons, List.map_cons, List.cons.injEq] at h
              rw [ih x (a x List.mem_cons_self) (h1.kid (a x List.mem_cons_self)) (h2.kid (b y List.mem_cons_self)) h.1, ihx ys h.2 (fun z hz => a z (List.mem_cons_of_mem _ hz)) fun z hz => b z (List.mem_cons_of_mem _ hz)]
        rw [key ts ts' e (fun _ h => h) fun _ h => h]
      | _ => unfold Tm.d at e; cases e
    | map es =>
      cases t with
      | form f ts => exact h2.at_.elim
      | var x => exact absurd h2.at_.1 List.not_mem_nil
      | map es' =>
        unfold Tm.d at e
        rw [Tm.es_map, Tm.es_map] at e
        simp only [PyData.tuple.injEq, List.cons.injEq, true_and, and_true] at e
        have key : ∀ (xs ys : List (Str × Tm)), xs.map Tm.ent = ys.map Tm.ent → (∀ x ∈ xs, x.2 ∈ (Tm.map es).kids) → (∀ y ∈ ys, y.2 ∈ (Tm.map es').kids) → xs = ys := fun xs => by
          induction xs with
          | nil => intro ys h _ _; cases ys with | nil => rfl | cons _ _ => cases h
          | cons x xs ihx =>
            intro ys h a b
            cases ys with
            | nil => cases h
            | cons y ys =>
              rw [List.map_cons, List.map_cons, List.cons.injEq] at h
              have h0 := h.1
              unfold Tm.ent at h0
              simp only [PyData.tuple.injEq, List.cons.injEq, PyData.str.injEq, and_true] at h0
              have e2 := ih x.2 (a x List.mem_cons_self) (h1.kid (a x List.mem_cons_self)) (h2.kid (b y List.mem_cons_self)) h0.2
              rw [show x = y from Prod.ext h0.1 e2, ihx ys h.2 (fun z hz => a z (List.mem_cons_of_mem _ hz)) fun z hz => b z (List.mem_cons_of_mem _ hz)]
        rw [key es es' e (fun x hx => List.mem_map.mpr ⟨x, hx, rfl⟩) fun x hx => List.mem_map.mpr ⟨x, hx, rfl⟩]
      | _ => unfold Tm.d at e; cases e
    | int n =>
      cases t with
      | form f ts => exact h2.at_.elim
      | var x => exact absurd h2.at_.1 List.not_mem_nil
      | int m => unfold Tm.d at e; cases e; rfl
      | addr m => unfold Tm.d at e; simp only [PyData.tuple.injEq, List.cons.injEq, PyData.str.injEq] at e; exact absurd e.1 (by decide +kernel)
      | _ => unfold Tm.d at e; cases e
    | addr n =>
      cases t with
      | form f ts => exact h2.at_.elim
      | var x => exact absurd h2.at_.1 List.not_mem_nil
      | addr m => unfold Tm.d at e; cases e; rfl
      | int m => unfold Tm.d at e; simp only [PyData.tuple.injEq, List.cons.injEq, PyData.str.injEq] at e; exact absurd e.1 (by decide +kernel)
      | _ => unfold Tm.d at e; cases e
    | name n =>
      cases t with
      | form f ts => exact h2.at_.elim
      | var x => exact absurd h2.at_.1 List.not_mem_nil
      | name m => unfold Tm.d at e; cases e; rfl
      | _ => unfold Tm.d at e; cases e
def VOk (K : PySem.W.Frag) (H : Hp) (v : V) : Option Tm → Prop
  | none => v = .non
  | some u => Dt K H v u.d
theorem VOk.mono {K : PySem.W.Frag} {H H' : Hp} {v : V} {o : Option Tm} (h : VOk K H v o) (k : ∀ v d, Dt K H v d → Dt K H' v d) : VOk K H' v o := by
  cases o with
  | none => exact h
  | some u => exact k _ _ h
/-- what the dict knows -/
structure Kn (K : PySem.W.Frag) (H : Hp) (kd : Addr) (T : Tm) (R : List Rw) (kvs : List (Key × V)) : Prop where
  at_ : H kd = some (.dK kvs)
  nd : (kvs.map Prod.fst).Nodup
  ok : ∀ e ∈ kvs, ∃ s ∈ T.parts, e.1 = Sum.inr s.d.shown ∧ VOk K H e.2 (src R s)
section
variable {K : PySem.W.Frag} {H H' : Hp} {kd : Addr} {T t : Tm} {R : List Rw} {kvs : List (Key × V)}
theorem Kn.len (k : Kn K H kd T R kvs) : kvs.length ≤ T.size := by
  have := nd_le (m := T.parts.map fun s => (Sum.inr s.d.shown : Key)) k.nd fun a ha => by
    obtain ⟨e, he, rfl⟩ := List.mem_map.mp ha
    obtain ⟨s, hs, h, _⟩ := k.ok e he
    exact List.mem_map.mpr ⟨s, hs, h.symm⟩
  rw [List.length_map, List.length_map, Tm.parts_len] at this
  exact this
theorem Kn.same (k : Kn K H kd T R kvs) (s : Same H H') : Kn K H' kd T R kvs := ⟨s _ _ k.at_, k.nd, fun e he => by
  obtain ⟨t, h1, h2, h3⟩ := k.ok e he
  exact ⟨t, h1, h2, h3.mono fun _ _ z => z.same s⟩⟩
theorem Kn.look {hs : Hds} (k : Kn K H kd T R kvs) (tt : TT hs [] T) (hp : t ∈ T.parts) {v : V} (h : valV kvs (Sum.inr t.d.shown) = some v) : VOk K H v (src R t) := by
  obtain ⟨s, h1, h2, h3⟩ := k.ok _ (valV_memK h)
  have ts : TT hs [] s := al_parts tt h1
  have t2 : TT hs [] t := al_parts tt hp
  have e := shown_inj t2.rp ts.rp (Sum.inr.inj h2)
  rw [d_inj t t2 ts e]
  exact h3
theorem Kn.put (k : Kn K H kd T R kvs) (hp : t ∈ T.parts) {v : V} (h : VOk K H v (src R t)) : Kn K (upd H kd (.dK (putK kvs (Sum.inr t.d.shown) v))) kd T R (putK kvs (Sum.inr t.d.shown) v) := by
  have o := (Off.refl (f := kd) k.at_).upd (k := putK kvs (Sum.inr t.d.shown) v)
  refine ⟨upd_same, putK_nd k.nd, fun e he => ?_⟩
  rcases putK_mem he with rfl | he
  · exact ⟨t, hp, rfl, h.mono fun _ _ z => z.off o⟩
  · obtain ⟨s, h1, h2, h3⟩ := k.ok e he
    exact ⟨s, h1, h2, h3.mono fun _ _ z => z.off o⟩
end
end PK
namespace PK
open PySem L2
/-! the law's first sources -/
def spOrigin (K : PySem.W.Frag) (n : Nat) : Sp := fun vs H Q _ => ∃ (rv v : V) (kd : Addr) (T t : Tm) (R : List Rw) (hs : Hds) (kvs : List (Key × V)), vs = [rv, v, .ref kd] ∧ Dt K H rv (.tuple (R.map Rw.d)) ∧ RwsOk hs R ∧ HdOk hs ∧ R.length ≤ 100 ∧ Dt K H v t.d ∧ t ∈ T.parts ∧ TT hs [] T ∧ T.size ≤ 1000 ∧ T.ht ≤ 60 ∧ Kn K H kd T R kvs ∧ t.ht ≤ n ∧
  ∀ (H' : Hp) (kvs' : List (Key × V)) (v' : V), Off kd H H' → Kn K H' kd T R kvs' → VOk K H' v' (src R t) → Q v' H'
def spLooked (K : PySem.W.Frag) (n : Nat) : Sp := fun vs H Q _ => ∃ (rv v : V) (kd : Addr) (T t : Tm) (R : List Rw) (hs : Hds) (kvs : List (Key × V)), vs = [rv, v, .ref kd] ∧ Dt K H rv (.tuple (R.map Rw.d)) ∧ RwsOk hs R ∧ HdOk hs ∧ R.length ≤ 100 ∧ Dt K H v t.d ∧ t ∈ T.parts ∧ TT hs [] T ∧ T.size ≤ 1000 ∧ T.ht ≤ 60 ∧ Kn K H kd T R kvs ∧ t.ht ≤ n ∧ ¬ t.atom ∧
  ∀ (H' : Hp) (kvs' : List (Key × V)) (v' : V), Off kd H H' → Kn K H' kd T R kvs' → VOk K H' v' (src R t) → Q v' H'
theorem src_atom {hs : Hds} {R : List Rw} (ok : RowsOk hs R) {t : Tm} (h : t.atom) : src R t = some t := by
  rw [src_eq ok]
  cases t <;> first | exact h.elim | rfl
def All2 {α : Type} (p : V → α → Prop) : List V → List α → Prop
  | [], [] => True
  | v :: vs, a :: r => p v a ∧ All2 p vs r
  | _, _ => False
theorem All2.mono {α : Type} {p q : V → α → Prop} (h : ∀ v a, p v a → q v a) : ∀ {vs : List V} {r : List α}, All2 p vs r → All2 q vs r
  | [], [], _ => trivial
  | _ :: _, _ :: _, ⟨a, b⟩ => ⟨h _ _ a, All2.mono h b⟩
theorem All2.snoc {α : Type} {p : V → α → Prop} {v : V} {a : α} (h : p v a) : ∀ {vs : List V} {r : List α}, All2 p vs r → All2 p (vs ++ [v]) (r ++ [a])
  | [], [], _ => ⟨h, trivial⟩
  | _ :: _, _ :: _, ⟨a, b⟩ => ⟨a, All2.snoc h b⟩
theorem All2.len {α : Type} {p : V → α → Prop} : ∀ {vs : List V} {r : List α}, All2 p vs r → vs.length = r.length
  | [], [], _ => rfl
  | _ :: _, _ :: _, ⟨_, b⟩ => by rw [List.length_cons, List.length_cons, b.len]
theorem All2.get {α : Type} {p : V → α → Prop} : ∀ {vs : List V} {r : List α} {i : Nat} {v : V}, All2 p vs r → vs[i]? = some v → ∃ a, r[i]? = some a ∧ p v a
  | [], [], _, _, _, e => by simp at e
  | _ :: _, a :: _, 0, _, ⟨h, _⟩, e => by simp at e; subst e; exact ⟨a, rfl, h⟩
  | _ :: _, _ :: _, i + 1, _, ⟨_, b⟩, e => by
    obtain ⟨a, h1, h2⟩ := b.get (i := i) (by simpa using e)
    exact ⟨a, by simpa using h1, h2⟩
theorem any_none : ∀ l : List (Option Tm), (l.map Option.isNone).any id = (seqO l).isNone
  | [] => rfl
  | none :: l => rfl
  | some a :: l => by
    rw [List.map_cons, List.any_cons, any_none l, seqO_cons]
    cases seqO l <;> rfl
theorem VOk.dec {K : PySem.W.Frag} {H : Hp} {v : V} {o : Option Tm} (h : VOk K H v o) : decide (v = .non) = o.isNone := by
  cases o with
  | none => rw [show v = .non from h]; rfl
  | some u =>
    have h : Dt K H v u.d := h
    cases e : u.d with
    | tuple ds => rw [e] at h; obtain ⟨a, xs, rfl, _⟩ := Dt.tn h; rfl
    | _ => cases u <;> (unfold Tm.d at e; cases e)
theorem dt_some {K : PySem.W.Frag} {H : Hp} : ∀ {vs : List V} {ks : List Tm}, All2 (VOk K H) vs (ks.map some) → DtAll K H vs (ks.map Tm.d)
  | [], [], _ => .nil
  | _ :: _, _ :: _, ⟨a, b⟩ => .cons a (dt_some b)
/-- an entry and its source -/
def VE (K : PySem.W.Frag) (H : Hp) (v : V) (e : Str × Option Tm) : Prop := ∃ (b : Addr) (x : V), v = .ref b ∧ SqT K H b [.str e.1, x] ∧ VOk K H x e.2
theorem dt_ents {K : PySem.W.Frag} {H : Hp} {S : Tm → Option Tm} (es : List (Str × Tm)) : ∀ (vs : List V) (ks : List Tm), All2 (VE K H) vs (es.map fun e => (e.1, S e.2)) → (es.map fun e => S e.2) = ks.map some → DtAll K H vs ((List.zipWith (fun e k => (e.1, k)) es ks).map Tm.ent) := by
  induction es with
  | nil =>
    intro vs ks a _
    cases vs with
    | nil => rw [List.zipWith_nil_left]; exact .nil
    | cons v vs => exact a.elim
  | cons e es ih =>
    intro vs ks a h
    cases ks with
    | nil => cases h
    | cons k ks =>
      cases vs with
      | nil => exact a.elim
      | cons v vs =>
        rw [List.map_cons, List.map_cons, List.cons.injEq] at h
        obtain ⟨⟨b, x, rfl, hs, ho⟩, r⟩ := a
        have ho : VOk K H x (S e.2) := ho
        rw [h.1] at ho
        rw [List.zipWith_cons_cons, List.map_cons]
        refine .cons ?_ (ih vs ks r h.2)
        unfold Tm.ent
        exact .tup hs (.cons (.str _) (.cons ho .nil))
theorem Off.updN {f D : Addr} {H H1 : Hp} {o : HO} (a : Off f H H1) (h : H D = none) : Off f H (L2.upd H1 D o) := by
  obtain ⟨k, hk⟩ := a.1
  obtain ⟨k1, hk1⟩ := a.2.1
  have nf : f ≠ D := fun e => by rw [← e, hk] at h; cases h
  exact ⟨a.1, ⟨k1, by rw [upd_ne nf]; exact hk1⟩, fun b u n e => by
    rw [upd_ne (fun z => by rw [z, h] at e; cases e)]
    exact a.2.2 b u n e⟩
theorem Kn.updL {K : PySem.W.Frag} {H : Hp} {kd D : Addr} {T : Tm} {R : List Rw} {kvs : List (Key × V)} {vs ws : List V} (k : Kn K H kd T R kvs) (h : H D = some (.lst vs)) : Kn K (L2.upd H D (.lst ws)) kd T R kvs := ⟨by
  rw [upd_ne (fun e => by rw [← e, k.at_] at h; cases h)]; exact k.at_, k.nd, fun e he => by
  obtain ⟨t, h1, h2, h3⟩ := k.ok e he
  exact ⟨t, h1, h2, h3.mono fun v d z => Dt.mono (fun _ _ y => seqT_upd y h) _ _ z⟩⟩
theorem find_add {f : Rw → Option Tm} {R : List Rw} {i : Nat} {r : Rw} (e : R[i]? = some r) (h : (R.take i).findSome? f = none) : (f r = none → (R.take (i + 1)).findSome? f = none) ∧ ∀ u, f r = some u → R.findSome? f = some u := by
  refine ⟨fun h2 => ?_, fun u h2 => ?_⟩
  · rw [List.take_add_one, e, List.findSome?_append, h]
    show (List.findSome? f [r]) = none
    rw [List.findSome?_cons, h2]; rfl
  · have : R = R.take i ++ r :: R.drop (i + 1) := by
      obtain ⟨hi, rfl⟩ := List.getElem?_eq_some_iff.mp e
      rw [← List.drop_eq_getElem_cons hi, List.take_append_drop]
    rw [this, List.findSome?_append, h]
    show List.findSome? f (r :: _) = _
    rw [List.findSome?_cons, h2]
theorem sub_len {t : Tm} : ∀ {s : Tm}, s ∈ t.parts → s.size ≤ t.size := by
  induction t using Tm.ind with
  | h t ih =>
    intro s h
    rw [Tm.parts_eq] at h
    rcases List.mem_cons.mp h with rfl | h
    · exact Nat.le_refl _
    · obtain ⟨l, hl, hk⟩ := List.mem_flatten.mp h
      obtain ⟨z, hz, rfl⟩ := List.mem_map.mp hl
      have h1 := ih z hz hk
      have h2 := le_sum_of (f := Tm.size) hz
      rw [Tm.size_eq t]; omega
theorem tag_in {hs : Hds} {K : PySem.W.Frag} {H : Hp} {v : V} {t : Tm} (h : Dt K H v t.d) (tt : TT hs [] t) : ∃ (a : Addr) (g : Str) (r : List V), v = .ref a ∧ SqT K H a (.str g :: r) ∧ ((t.atom ∧ inV (.str g) [.str "node", .str "map"] = false) ∨ (¬ t.atom ∧ inV (.str g) [.str "node", .str "map"] = true)) := by
  cases t with
  | form f ts => exact tt.at_.elim
  | var x => exact absurd tt.at_.1 List.not_mem_nil
  | node c ts =>
    unfold Tm.d at h
    obtain ⟨a, x, y, z, rfl, hs, h1, _⟩ := Dt.t3 h
    obtain rfl := h1.s
    exact ⟨a, _, _, rfl, hs, .inr ⟨id, by decide +kernel⟩⟩
  | map es =>
    unfold Tm.d at h
    obtain ⟨a, x, y, rfl, hs, h1, _⟩ := Dt.t2 h
    obtain rfl := h1.s
    exact ⟨a, _, _, rfl, hs, .inr ⟨id, by decide +kernel⟩⟩
  | _ =>
    unfold Tm.d at h
    obtain ⟨a, x, y, rfl, hs, h1, _⟩ := Dt.t2 h
    obtain rfl := h1.s
    exact ⟨a, _, _, rfl, hs, .inl ⟨trivial, by decide +kernel⟩⟩
section
variable {P : Program} {w : World} {K : PySem.W.Frag} {mg : Str → Option Value} {base : Heap}
abbrev s_law_origin : Stmt := topS 28
theorem sc_law_origin : FnScope ["rows", "term", "known", "key"] ["rows", "term", "known"] (defScope s_law_origin) := ⟨rfl, rfl, rfl, by decide +kernel, rfl, by decide +kernel, by decide +kernel⟩
-- slots: 0:rows 1:term 2:known 3:key
abbrev s_law_looked : Stmt := topS 29
theorem sc_law_looked : FnScope ["rows", "term", "known", "inner", "row", "found", "parts", "entry", "word", "part"] ["rows", "term", "known"] (defScope s_law_looked) := ⟨rfl, rfl, rfl, by decide +kernel, rfl, by decide +kernel, by decide +kernel⟩
-- slots: 0:rows(cell) 1:term 2:known(cell) 3:inner 4:row 5:found(cell) 6:parts 7:entry(comp) 8:word(comp) 9:part(comp)
theorem ok_origin {n : Nat} {f : Addr} {fd : FuncData} (F : Fun K "_law_origin" "_law_origin" s_law_origin f fd) (T : Txt K mg) (z_repr : mg "repr" = none) (C_law_looked : CalG P w K mg base (2 * n + 20) "_law_looked" (spLooked K n) []) :
    FnG.FnG P w K mg base CX0 (2 * n + 21) f fd ["rows", "term", "known"] (spOrigin K n) := by
  refine FnG.of_body F sc_law_origin (fun vs H Q E h => ?_) (fun cdv A gd outer s H vs Q E hr h => ?_)
  · obtain ⟨_, _, _, _, _, _, _, _, rfl, _⟩ := h
    rfl
  obtain ⟨rv, v, kd, T0, t, R, hs, kvs, rfl, drv, rok, hok, hl, hv, hp, tt, hsz, hht, kn, hh, q⟩ := h
  refine ⟨_, (pss_cons (ps_if (pt_cmpR op_notIn_seq (pe_ix ix_tup (pv 1) pe_int (fun _ _ => rfl)) (pe_tup (pa_cons pe_str (pa_cons pe_str pa_nil))) rfl) (pss_one (ps_ret (pv 1))) pss_nil)
    (pss_cons (ps_set (i := 3) sc_law_origin.nd rfl (Or.inl rfl) (pe_callB (id := "repr") (r := PKP.rRepr K 190) (PKP.call_reprD gd (rpU hr)) (by rfl) z_repr (by decide +kernel) (pa_cons (pv 1) pa_nil)))
    (pss_cons (ps_if (pt_cmp (pc_dnotin (hu_of hr) (pv 3) (pv 2))) (pss_one (ps_dput (hu_of hr) (pv 2) (pv 3) (pe_cG C_law_looked gd hr (by omega) rfl (pa_cons (pv 0) (pa_cons (pv 1) (pa_cons (pv 2) pa_nil)))) rfl)) pss_nil)
    (pss_one (ps_ret (pe_dget (hu_of hr) (pv 2) (pv 3) (fun _ _ => rfl))))))), ?_⟩
  have t0 : TT hs [] t := al_parts tt hp
  obtain ⟨a, g, r, rfl, hsq, alt⟩ := tag_in hv t0
  refine vTx rfl hsq (atI_nat (j := 0) rfl) ⟨small (by show 2 ≤ _; decide), fun p hp1 => ?_⟩
  have s1 := same_new (o := .tup [.str "node", .str "map"]) hp1
  have kn1 := kn.same s1
  refine ⟨p, _, rfl, .inr (SqT.of upd_same), rfl, rfl, _, rfl, ?_⟩
  have o1 := (Off.refl (f := kd) kn.at_).same s1
  have hv1 := hv.same s1
  have drv1 := drv.same s1
  generalize upd H p (.tup [.str "node", .str "map"]) = H1 at s1 kn1 o1 hv1 drv1 ⊢
  rcases alt with ⟨ha, e⟩ | ⟨ha, e⟩
  · rw [e]
    exact iteT ⟨_, rfl, q H1 kvs _ o1 kn1 (by rw [src_atom rok.ok ha]; exact hv1)⟩
  rw [e]
  refine iteF ?_
  have hsz2 : t.size ≤ 1000 := by
    have := sub_len hp
    omega
  have dep : t.d.depth ≤ 190 := by
    have := tm_depthF (t := t)
    have := parts_ht hp
    omega
  refine ⟨_, rfl, a, t.d, rfl, Dt.dp _ _ hv1, (tm_rep t0.rn).show_, (tm_rep t0.rn).tup, dep, t0.shown hsz2, ?_⟩
  have fin : ∀ (H2 : Hp) (kv2 : List (Key × V)) (v2 : V), Off kd H1 H2 → Kn K H2 kd T0 R kv2 → valV kv2 (Sum.inr t.d.shown) = some v2 → Q v2 H2 := fun H2 kv2 v2 o2 k2 e2 => q H2 kv2 v2 (o1.trans o2) k2 (k2.look tt hp e2)
  refine ⟨_, rfl, _, rfl, kd, _, rfl, DGet.k (k := Sum.inr t.d.shown) kn1.at_, _, rfl, ?_⟩
  cases e1 : valV kvs (Sum.inr t.d.shown) with
  | some v2 =>
    exact iteF ⟨_, rfl, _, rfl, kd, v2, rfl, by rw [← e1]; exact DGet.k (k := Sum.inr t.d.shown) kn1.at_, fin _ _ _ (Off.refl kn1.at_) kn1 e1⟩
  | none =>
    refine iteT ⟨_, rfl, _, rfl, _, rfl, ?_⟩
    refine ⟨rv, _, kd, T0, t, R, hs, kvs, rfl, drv1, rok, hok, hl, hv1, hp, tt, hsz, hht, kn1, hh, ha, fun H2 kv2 v2 o2 k2 ve => ?_⟩
    have l2 := k2.len
    have k3 := k2.put hp ve
    have e3 : valV (putK kv2 (Sum.inr t.d.shown) v2) (Sum.inr t.d.shown) = some v2 := by rw [valV_put, if_pos rfl]
    exact ⟨_, rfl, _, rfl, kd, _, rfl, DPut.k (k := Sum.inr t.d.shown) k2.at_ (smallL (by omega)), _, rfl, _, rfl, kd, v2, rfl, by rw [← e3]; exact DGet.k (k := Sum.inr t.d.shown) k3.at_, fin _ _ _ (o2.upd) k3 e3⟩
theorem ok_looked {n : Nat} {f : Addr} {fd : FuncData} (F : Fun K "_law_looked" "_law_looked" s_law_looked f fd) (T : Txt K mg) (C_law_match : C8.Cal P w K mg base 20 "_law_match" (spMatch K 20) []) (C_law_origin : CalG P w K mg base (2 * n + 21) "_law_origin" (spOrigin K n) []) :
    FnG.FnG P w K mg base CX0 (2 * n + 22) f fd ["rows", "term", "known"] (spLooked K (n + 1)) := by
  refine FnG.of_body F sc_law_looked (fun vs H Q E h => ?_) (fun cdv A gd outer s H vs Q E hr h => ?_)
  · obtain ⟨_, _, _, _, _, _, _, _, rfl, _⟩ := h
    rfl
  obtain ⟨rv, v, kd, T0, t, R, hs, kvs, rfl, drv, rok, hok, hl, hv, hp, tt, hsz, hht, kn, hh, hat, q⟩ := h
  refine ⟨_, (pss_cons (ps_if (pt_cmpR op_eq (pe_ix ix_tup (pv 1) pe_int (fun _ _ => rfl)) pe_str (nomark _)) (pss_cons (ps_setLc (i := 3) (own := [("entry", 7)]) (g := (gName 7)) (tt := tYes) (by rfl) sc_law_looked.nd rfl rfl (sw_true rfl rfl rfl (by decide +kernel)) (pi_tup (pe_ix ix_tup (pv 1) pe_int (fun _ _ => rfl))) (blkOk_by (N := ["rows", "term", "known", "inner", "row", "found", "parts", "entry", "word", "part"]) (sc := defScope s_law_looked) (by decide +kernel)) (fun _ _ _ _ _ => (pg_name (i := 7) sc_law_looked.nd rfl (Or.inl rfl))) (fun _ _ _ _ _ => pts_nil) (fun _ _ _ _ _ => (pe_tup (pa_cons (pe_ix (r := rIxT K) ix_tup (pv 7) pe_int (fun _ _ => rfl)) (pa_cons (pe_cG C_law_origin gd hr (by omega) rfl (pa_cons (pv 0) (pa_cons (pe_ix (r := rIxT K) ix_tup (pv 7) pe_int (fun _ _ => rfl)) (pa_cons (pv 2) pa_nil)))) pa_nil)))))
    (pss_cons (ps_if (pt_val (pe_callB (cr_any (by rfl)) (by rfl) T.z_any (by decide +kernel) (pa_cons (pe_lc (own := [("entry", 7)]) (g := (gName 7)) (tt := tYes) (by rfl) sc_law_looked.nd (pi_list (pv 3)) (blkOk_by (N := ["rows", "term", "known", "inner", "row", "found", "parts", "entry", "word", "part"]) (sc := defScope s_law_looked) (by decide +kernel)) (fun _ _ _ _ _ => (pg_name (i := 7) sc_law_looked.nd rfl (Or.inl rfl))) (fun _ _ _ _ _ => pts_nil) (fun _ _ _ _ _ => (pe_cmpR op_isN (pe_ix (r := rIxT K) ix_tup (pv 7) pe_int (fun _ _ => rfl)) pe_non (nomark _)))) pa_nil))) (pss_one (ps_ret pe_non)) pss_nil)
    (pss_one (ps_ret (pe_tup (pa_cons pe_str (pa_cons (pe_callTy call_tuple_of (by rfl) T.z_tuple (by decide +kernel) (pa_cons (pv 3) pa_nil)) pa_nil))))))) pss_nil)
    (pss_cons (ps_for (passes_of rfl) rfl (pi_tup (pv 0)) (pg_name (i := 4) sc_law_looked.nd rfl (Or.inl rfl)) (pss_cons (ps_set (i := 5) sc_law_looked.nd rfl (Or.inr rfl) pe_dnewK)
    (pss_one (ps_if (pt_val (C8.pe_c C_law_match hr (by omega) rfl (pa_cons (pe_ix ix_tup (pv 4) pe_int (fun _ _ => rfl)) (pa_cons (pv 1) (pa_cons (pv 5) pa_nil))))) (pss_cons (ps_setLc (i := 6) (own := [("word", 8)]) (g := (gName 8)) (tt := tYes) (by rfl) sc_law_looked.nd rfl rfl (sw_true rfl rfl rfl (by decide +kernel)) (pi_tup (pe_ix ix_tup (pv 4) pe_int (fun _ _ => rfl))) (blkOk_by (N := ["rows", "term", "known", "inner", "row", "found", "parts", "entry", "word", "part"]) (sc := defScope s_law_looked) (by decide +kernel)) (fun _ _ _ _ _ => (pg_name (i := 8) sc_law_looked.nd rfl (Or.inl rfl))) (fun _ _ _ _ _ => pts_nil) (fun _ _ _ _ _ => (pe_cG C_law_origin gd hr (by omega) rfl (pa_cons (pv 0) (pa_cons (pe_dget (hu_of hr) (pv 5) (pv 8) (fun _ _ => rfl)) (pa_cons (pv 2) pa_nil))))))
    (pss_one (ps_if (pt_not (pt_val (pe_callB (cr_any (by rfl)) (by rfl) T.z_any (by decide +kernel) (pa_cons (pe_lc (own := [("part", 9)]) (g := (gName 9)) (tt := tYes) (by rfl) sc_law_looked.nd (pi_list (pv 6)) (blkOk_by (N := ["rows", "term", "known", "inner", "row", "found", "parts", "entry", "word", "part"]) (sc := defScope s_law_looked) (by decide +kernel)) (fun _ _ _ _ _ => (pg_name (i := 9) sc_law_looked.nd rfl (Or.inl rfl))) (fun _ _ _ _ _ => pts_nil) (fun _ _ _ _ _ => (pe_cmpR op_isN (pv 9) pe_non (nomark _)))) pa_nil)))) (pss_one (ps_ret (pe_tup (pa_cons pe_str (pa_cons (pe_ix ix_tup (pv 4) pe_int (fun _ _ => rfl)) (pa_cons (pe_callTy call_tuple_of (by rfl) T.z_tuple (by decide +kernel) (pa_cons (pv 6) pa_nil)) pa_nil)))))) pss_nil))) pss_nil))))
    (pss_one (ps_ret pe_non)))), ?_⟩
  have t0 : TT hs [] t := al_parts tt hp
  have drn : ∀ {x : Tm}, x ∈ t.parts → x ∈ T0.parts := fun h => parts_trans hp h
  have l1000 := kn.len
  cases t with
  | form f ts => exact t0.at_.elim
  | var x => exact absurd t0.at_.1 List.not_mem_nil
  | int m => exact absurd trivial hat
  | name m => exact absurd trivial hat
  | addr m => exact absurd trivial hat
  | map es =>
    have hv0 := hv
    unfold Tm.d at hv
    obtain ⟨a, x, y, rfl, hsq, h1, h2⟩ := Dt.t2 hv
    obtain rfl := h1.s
    obtain ⟨b, ys, rfl, hb2, hys⟩ := Dt.tn h2
    rw [Tm.es_map] at hys
    have ly : ys.length = es.length := by rw [hys.lenD, List.length_map]
    have lk : es.length ≤ 3 := t0.at_.1
    rw [src_eq rok.ok] at q
    refine vTx rfl hsq rfl ⟨rfl, _, rfl, sT rfl (vTx rfl hsq rfl ?_)⟩
    refine ⟨b, rfl, ⟨_, hb2⟩, fun D hD => lc_it (walk_tup (K := K) (xs := ys)) (fun i H' => ∃ (ws : List V) (kv : List (Key × V)), Off kd H H' ∧ Kn K H' kd T0 R kv ∧ H' D = some (.lst ws) ∧ All2 (VE K H') ws ((es.take i).map fun e => (e.1, src R e.2))) ?_ ?_ ?_ ?_⟩
    · exact ⟨[], kvs, (Off.refl kn.at_).same (same_new hD), kn.same (same_new hD), upd_same, trivial⟩
    · rintro i H' _ ⟨_, _, o, _⟩
      exact o.seqT hb2
    · rintro i x H1 H1 hi ⟨ws, kv, o1, k1, hD1, al⟩ ⟨rfl, gx⟩
      obtain ⟨dd, gd, dx⟩ := hys.getX gx
      rw [List.getElem?_map] at gd
      cases e0 : es[i]? with
      | none => rw [e0] at gd; cases gd
      | some e =>
      rw [e0] at gd
      cases gd
      have dx := dx.off o1
      unfold Tm.ent at dx
      obtain ⟨b3, x3, y3, rfl, hs3, g1, g2⟩ := Dt.t2 dx
      obtain rfl := g1.s
      have hk : e.2 ∈ (Tm.map es).kids := List.mem_map.mpr ⟨e, List.mem_of_getElem? e0, rfl⟩
      have hkt := Tm.ht_kid hk
      refine ⟨rfl, vTx rfl hs3 rfl ⟨_, rfl, vTx rfl hs3 rfl ⟨_, rfl, ?_⟩⟩⟩
      refine ⟨rv, y3, kd, T0, e.2, R, hs, kv, rfl, drv.off o1, rok, hok, hl, g2, drn (mem_parts hk (self_parts _)), tt, hsz, hht, k1, by omega, fun H2 kv2 v2 o2 k2 ve => ?_⟩
      refine ⟨small (by show 2 ≤ _; decide), fun p hp3 => ?_⟩
      have s3 := same_new (o := .tup [.str e.1, v2]) hp3
      have hD2 : H2 D = some (.lst ws) := o2.2.2 _ _ (ne_of_none kn.at_ hD).symm hD1
      have hD3 := s3 _ _ hD2
      have l3 := al.len
      rw [List.length_map, List.length_take] at l3
      have up : ∀ v d, Dt K H1 v d → Dt K (upd (upd H2 p (.tup [.str e.1, v2])) D (.lst (ws ++ [.ref p]))) v d := fun v d z => Dt.mono (fun _ _ y => seqT_upd y hD3) _ _ ((z.off o2).same s3)
      refine ⟨ws, hD3, smallL (by omega), ws ++ [.ref p], kv2, ((o1.trans o2).same s3).updN hD, (k2.same s3).updL hD3, upd_same, ?_⟩
      rw [List.take_add_one, e0, List.map_append]
      refine All2.snoc ⟨p, v2, rfl, seqT_upd (SqT.of upd_same) hD3, ve.mono fun v d z => Dt.mono (fun _ _ y => seqT_upd y hD3) _ _ (z.same s3)⟩ (al.mono fun v d => ?_)
      rintro ⟨b4, x4, rfl, hs4, ho4⟩
      exact ⟨b4, x4, rfl, seqT_upd (Same.seqT s3 (o2.seqT hs4)) hD3, ho4.mono up⟩
    rintro H1 ⟨ws, kv, o1, k1, hD1, al⟩
    rw [ly, List.take_length] at al
    have lw := al.len
    rw [List.length_map] at lw
    refine ⟨_, rfl, D, rfl, ⟨_, SqL.of hD1⟩, fun D2 hD2 => lc_it (walk_list (K := K) (xs := ws)) (fun i H' => Same H1 H' ∧ H' D2 = some (.lst (((es.take i).map fun e => src R e.2).map fun o => V.bl o.isNone))) ?_ ?_ ?_ ?_⟩
    · exact ⟨same_new hD2, upd_same⟩
    · rintro i H' _ ⟨s, _⟩
      exact SqL.of (s _ _ hD1)
    · rintro i x H2 H2 hi ⟨s2, hd2⟩ ⟨rfl, gx⟩
      obtain ⟨e, ge, b4, x4, rfl, hs4, ho4⟩ := al.get gx
      rw [List.getElem?_map] at ge
      cases e0 : es[i]? with
      | none => rw [e0] at ge; cases ge
      | some e1 =>
      rw [e0] at ge
      cases ge
      refine ⟨rfl, vTx rfl (Same.seqT s2 hs4) rfl ⟨rfl, ?_⟩⟩
      refine ⟨_, hd2, smallL (by rw [List.length_map, List.length_map, List.length_take]; omega), Same.upd s2 hD2, ?_⟩
      rw [upd_same, List.take_add_one, e0, List.map_append, List.map_append, ho4.dec]; rfl
    rintro H2 ⟨s2, hd2⟩
    rw [lw, List.take_length] at hd2
    refine ⟨D2, (es.map fun e => src R e.2).map Option.isNone, rfl, SqL.of (by rw [hd2]; simp only [List.map_map]; rfl), ?_⟩
    rw [any_none]
    have k2 := k1.same s2
    have o2 := o1.same s2
    cases e : seqO (es.map fun e => src R e.2) with
    | none =>
      exact ⟨_, rfl, iteT (q H2 kv _ o2 k2 (by show VOk _ _ _ ((seqO (es.map fun e => src R e.2)).map _); rw [e]; rfl))⟩
    | some ks =>
      refine ⟨_, rfl, iteF ⟨_, rfl, D, _, rfl, .inl ⟨SqL.of (s2 _ _ hD1), fun p1 hp1 => ⟨small (by show 2 ≤ _; decide), fun p2 hp2 => ?_⟩⟩⟩⟩
      have s4 := (same_new (o := .tup ws) hp1).trans (same_new (o := .tup [.str "map", .ref p1]) hp2)
      refine q _ kv _ (o2.same s4) (k2.same s4) ?_
      show VOk _ _ _ ((seqO (es.map fun e => src R e.2)).map _)
      rw [e]
      show Dt K _ _ (Tm.map (List.zipWith (fun e k => (e.1, k)) es ks)).d
      unfold Tm.d
      rw [Tm.es_map]
      refine Dt.mk2 hp2 (.str _) (.tup (SqT.of upd_same) (DtAll.same (dt_ents es _ _ (al.mono fun v d z => ?_) (seqO_iff.mp e)) (same_new hp1)))
      obtain ⟨b4, x4, rfl, hs4, ho4⟩ := z
      exact ⟨b4, x4, rfl, Same.seqT s2 hs4, ho4.mono fun _ _ z => z.same s2⟩
  | node c ts =>
    have hv0 := hv
    unfold Tm.d at hv
    obtain ⟨a, x, y, z, rfl, hsq, h1, h2, h3⟩ := Dt.t3 hv
    obtain rfl := h1.s
    rw [src_eq rok.ok] at q
    refine vTx rfl hsq rfl ⟨rfl, _, rfl, sF (by decide +kernel) ?_⟩
    obtain ⟨ra, rw_, rfl, hra, dra⟩ := Dt.tn drv
    have lrw : rw_.length = R.length := by rw [dra.lenD, List.length_map]
    refine ⟨_, rfl, ra, rfl, ⟨_, hra⟩, for_it (walk_tup (K := K) (xs := rw_)) (fun i σ H' => ∃ (o4 o5 o6 : Option V) (kv : List (Key × V)), σ = [some (.ref ra), some (.ref a), some (.ref kd), none, o4, o5, o6, none, none, none] ∧ Off kd H H' ∧ Kn K H' kd T0 R kv ∧ (R.take i).findSome? (try1 (src R) (.node c ts)) = none) ?_ ?_ ?_ ?_⟩
    · exact ⟨_, _, _, kvs, rfl, Off.refl kn.at_, kn, rfl⟩
    · rintro i σ H' _ ⟨_, _, _, _, _, o, _⟩
      exact o.seqT hra
    · rintro i x σ H1 H1 hi ⟨o4, o5, o6, kv, rfl, o1, k1, fn⟩ ⟨rfl, gx⟩
      obtain ⟨dd, gd, dx⟩ := dra.getX gx
      rw [List.getElem?_map] at gd
      cases e0 : R[i]? with
      | none => rw [e0] at gd; cases gd
      | some r =>
      rw [e0] at gd
      cases gd
      have hr' : r ∈ R := List.mem_of_getElem? e0
      have tok := rok.ok.2 r hr'
      have tb := rok.b r hr'
      have fa2 := find_add e0 fn
      have dx := dx.off o1
      have dx0 := dx
      unfold Rw.d at dx
      obtain ⟨b, x1, y1, z1, rfl, hb, g1, g2, g3⟩ := Dt.t3 dx
      obtain rfl := g1.s
      obtain ⟨a2, ps', rfl, hs2, dps⟩ := Dt.tn g2
      obtain rfl := dps.strsE
      refine fun fa hfa => ?_
      have s2 := same_new (o := .dK []) hfa
      have k2 := k1.same s2
      have nfk : kd ≠ fa := ne_of_none k1.at_ hfa
      refine vTx rfl (Same.seqT s2 hb) rfl ⟨_, rfl, _, rfl, ?_⟩
      refine ⟨z1, .ref a, fa, r.t, .node c ts, [], [], hs, r.ps, [], rfl, g3.same s2, (hv0.off o1).same s2, upd_same, BindE.nil, hok, tok.tt, tok.nm, t0, by have := parts_ht hp; omega, ?_, ?_, fun H3 kv3 bb o3 hfa3 lkv3 ht1 hf1 => ?_⟩
      · have := tb.1; show 0 + _ ≤ _; omega
      · have := tb.2; omega
      have s3 : Same H1 H3 := fun b' o' h' => o3.2.2 _ _ (ne_of_none h' hfa) (s2 _ _ h')
      have k3 := k1.same s3
      have oa3 := o1.same s3
      refine ⟨_, rfl, ?_⟩
      cases bb with
      | false =>
        refine iteF ⟨_, _, _, kv, rfl, oa3, k3, fa2.1 ?_⟩
        unfold try1
        rw [hf1 rfl]; rfl
      | true =>
        obtain ⟨tab, em, bd⟩ := ht1 rfl
        have bd : BindE K H3 kv3 tab := bd
        have t1 : try1 (src R) (.node c ts) r = (bnd (src R) tab r.ps).map (Tm.node r.nm) := by unfold try1; rw [em]; rfl
        have keys := tok.keys hok t0 em
        have l3 : r.ps.length ≤ 3 := rok.hd.ar _ (List.mem_map.mpr ⟨r, hr', rfl⟩)
        refine iteT (vTx rfl (Same.seqT s3 hb) rfl ?_)
        refine ⟨a2, rfl, ⟨_, Same.seqT s3 hs2⟩, fun D hD => lc_it (walk_tup (K := K) (xs := r.ps.map V.str)) (fun i H' => ∃ (ws : List V) (kv' : List (Key × V)), Off kd H3 H' ∧ Kn K H' kd T0 R kv' ∧ H' D = some (.lst ws) ∧ All2 (VOk K H') ws ((r.ps.take i).map fun p => (lookA tab p).bind (src R))) ?_ ?_ ?_ ?_⟩
        · exact ⟨[], kv, (Off.refl k3.at_).same (same_new hD), k3.same (same_new hD), upd_same, trivial⟩
        · rintro i' H' _ ⟨_, _, o, _⟩
          exact o.seqT (Same.seqT s3 hs2)
        · rintro i' x H4 H4 hi' ⟨ws, kv', o4', k4, hD4, al⟩ ⟨rfl, gx⟩
          rw [List.length_map] at hi'
          rw [List.getElem?_map, List.getElem?_eq_getElem hi'] at gx
          cases gx
          obtain ⟨x, ex⟩ := keys.2.1 r.ps[i'] (List.getElem_mem hi')
          obtain ⟨v, ev, dv⟩ := (bd r.ps[i']).1 x ex
          have hxm := mch_sub em _ (lookA_mem ex)
          obtain ⟨c2, ts2, ec⟩ := tok.nd
          have hxt : x.ht < (Tm.node c ts).ht := by
            rw [ec] at em
            exact mch_sub2 em _ (lookA_mem ex)
          have hfa4 := o4'.2.2 _ _ nfk.symm hfa3
          refine ⟨rfl, _, rfl, _, rfl, _, rfl, fa, v, rfl, by rw [← ev]; exact DGet.k (k := Sum.inr r.ps[i']) hfa4, _, rfl, ?_⟩
          refine ⟨.ref ra, v, kd, T0, x, R, hs, kv', rfl, drv.off (oa3.trans o4'), rok, hok, hl, dv.off o4', drn hxm, tt, hsz, hht, k4, by omega, fun H5 kv5 v5 o5 k5 ve => ?_⟩
          have hD5 : H5 D = some (.lst ws) := o5.2.2 _ _ (ne_of_none k3.at_ hD).symm hD4
          have lw := al.len
          rw [List.length_map, List.length_take] at lw
          refine ⟨ws, hD5, smallL (by omega), ws ++ [v5], kv5, (o4'.trans o5).updN hD, k5.updL hD5, upd_same, ?_⟩
          rw [List.take_add_one, List.getElem?_eq_getElem hi', List.map_append]
          refine All2.snoc ?_ (al.mono fun v d z => z.mono fun v d z => Dt.mono (fun _ _ y => seqT_upd y hD5) _ _ (z.off o5))
          show VOk K _ v5 ((lookA tab r.ps[i']).bind (src R))
          rw [ex]
          exact ve.mono fun v d z => Dt.mono (fun _ _ y => seqT_upd y hD5) _ _ z
        rintro H4 ⟨ws, kv', o4', k4, hD4, al⟩
        rw [List.length_map, List.take_length] at al
        have lw := al.len
        rw [List.length_map] at lw
        refine ⟨_, rfl, D, rfl, ⟨_, SqL.of hD4⟩, fun D2 hD2 => lc_it (walk_list (K := K) (xs := ws)) (fun i H' => Same H4 H' ∧ H' D2 = some (.lst (((r.ps.take i).map fun p => (lookA tab p).bind (src R)).map fun o => V.bl o.isNone))) ?_ ?_ ?_ ?_⟩
        · exact ⟨same_new hD2, upd_same⟩
        · rintro i' H' _ ⟨s, _⟩
          exact SqL.of (s _ _ hD4)
        · rintro i' x H5 H5 hi' ⟨s5, hd5⟩ ⟨rfl, gx⟩
          obtain ⟨o, ge, ho⟩ := al.get gx
          rw [List.getElem?_map] at ge
          cases e1 : r.ps[i']? with
          | none => rw [e1] at ge; cases ge
          | some p =>
          rw [e1] at ge
          cases ge
          refine ⟨rfl, _, rfl, rfl, ?_⟩
          refine ⟨_, hd5, smallL (by rw [List.length_map, List.length_map, List.length_take]; omega), Same.upd s5 hD2, ?_⟩
          rw [upd_same, List.take_add_one, e1, List.map_append, List.map_append, ho.dec]; rfl
        rintro H5 ⟨s5, hd5⟩
        rw [lw, List.take_length] at hd5
        refine ⟨D2, (r.ps.map fun p => (lookA tab p).bind (src R)).map Option.isNone, rfl, SqL.of (by rw [hd5]; simp only [List.map_map]; rfl), ?_⟩
        rw [any_none]
        have k5 := k4.same s5
        have o5 := (oa3.trans o4').same s5
        have eb : bnd (src R) tab r.ps = seqO (r.ps.map fun p => (lookA tab p).bind (src R)) := rfl
        cases e : seqO (r.ps.map fun p => (lookA tab p).bind (src R)) with
        | none => exact ⟨_, rfl, iteF ⟨_, _, _, kv', rfl, o5, k5, fa2.1 (by rw [t1, eb, e]; rfl)⟩⟩
        | some ks =>
          have fnd := fa2.2 (.node r.nm ks) (by rw [t1, eb, e]; rfl)
          refine ⟨_, rfl, iteT (vTx rfl ((o4'.same s5).seqT (Same.seqT s3 hb)) rfl ⟨_, rfl, D, _, rfl, .inl ⟨SqL.of (s5 _ _ hD4), fun p1 hp1 => ⟨small (by show 3 ≤ _; decide), fun p2 hp2 => ?_⟩⟩⟩)⟩
          have s6 := (same_new (o := .tup ws) hp1).trans (same_new (o := .tup [.str "node", .str r.nm, .ref p1]) hp2)
          refine q _ kv' _ (o5.same s6) (k5.same s6) ?_
          show VOk _ _ _ (R.findSome? _)
          rw [fnd]
          show Dt K _ _ (Tm.node r.nm ks).d
          unfold Tm.d
          rw [Tm.ds_map]
          have al2 := al
          rw [seqO_iff.mp e] at al2
          exact Dt.mk3 hp2 (.str _) (.str _) (.tup (SqT.of upd_same) (((dt_some al2).same s5).same (same_new hp1)))
    rintro σ H1 ⟨o4, o5, o6, kv, rfl, o1, k1, fn⟩
    rw [lrw, List.take_length] at fn
    exact q H1 kv _ o1 k1 (by show VOk _ _ _ (R.findSome? _); rw [fn]; rfl)
end
end PK
namespace PK
open PySem L2
/-! matching by a stack; the values of sources -/
theorem zip_mch : ∀ (ps ts : List Tm), List.zipWith mch ps ts = (ps.zip ts).map fun x => mch x.1 x.2
  | [], ts => by rw [List.zipWith_nil_left, List.zip_nil_left]; rfl
  | p :: ps, [] => by rw [List.zipWith_nil_right, List.zip_nil_right]; rfl
  | p :: ps, t :: ts => by rw [List.zipWith_cons_cons, List.zip_cons_cons, List.map_cons, zip_mch ps ts]
theorem seqO_mem {α β : Type} {f : α → Option (List β)} {l : List α} {xs : List (List β)} (h : seqO (l.map f) = some xs) (q : β) : q ∈ xs.flatten ↔ ∃ a ∈ l, ∃ tb, f a = some tb ∧ q ∈ tb := by
  have e := seqO_iff.mp h
  constructor
  · intro hq
    obtain ⟨tb, htb, hq⟩ := List.mem_flatten.mp hq
    have : some tb ∈ l.map f := by rw [e]; exact List.mem_map.mpr ⟨tb, htb, rfl⟩
    obtain ⟨a, ha, ea⟩ := List.mem_map.mp this
    exact ⟨a, ha, tb, ea, hq⟩
  · rintro ⟨a, ha, tb, ea, hq⟩
    have : some tb ∈ xs.map some := by rw [← e]; exact List.mem_map.mpr ⟨a, ha, ea⟩
    obtain ⟨tb', htb, e2⟩ := List.mem_map.mp this
    cases e2
    exact List.mem_flatten.mpr ⟨tb, htb, hq⟩
/-- what stands open and what is done -/
structure Wi (P T : Tm) (W : List (Tm × Tm)) (done : Tab) : Prop where
  nn : (∃ x ∈ W, mch x.1 x.2 = none) → mch P T = none
  so : mch P T = none → ∃ x ∈ W, mch x.1 x.2 = none
  mem : ∀ tab, mch P T = some tab → ∀ q, q ∈ tab ↔ q ∈ done ∨ ∃ x ∈ W, ∃ tb, mch x.1 x.2 = some tb ∧ q ∈ tb
section
variable {P T p t : Tm} {W : List (Tm × Tm)} {done : Tab}
theorem Wi.start (P T : Tm) : Wi P T [(P, T)] [] := ⟨fun ⟨x, hx, h⟩ => by rw [List.mem_singleton.mp hx] at h; exact h, fun h => ⟨_, List.mem_singleton.mpr rfl, h⟩, fun tab h q => ⟨fun hq => .inr ⟨_, List.mem_singleton.mpr rfl, tab, h, hq⟩, fun hq => by
  rcases hq with hq | ⟨x, hx, tb, e, hq⟩
  · cases hq
  · rw [List.mem_singleton.mp hx] at e
    have e : mch P T = some tb := e
    rw [h] at e; cases e; exact hq⟩⟩
theorem Wi.fail (h : Wi P T (W ++ [(p, t)]) done) (e : mch p t = none) : mch P T = none := h.nn ⟨_, List.mem_append_right _ (List.mem_singleton.mpr rfl), e⟩
/-- an open pair goes, what it tells goes to what is done or stays open -/
theorem Wi.step {W' : List (Tm × Tm)} {done' : Tab} (h : Wi P T (W ++ [(p, t)]) done)
    (h1 : mch p t = none ↔ ∃ x ∈ W', mch x.1 x.2 = none) (h2 : ∀ tab, mch p t = some tab → ∀ q, q ∈ tab ↔ q ∈ done' ∨ ∃ x ∈ W', ∃ tb, mch x.1 x.2 = some tb ∧ q ∈ tb) : Wi P T (W ++ W') (done' ++ done) := by
  refine ⟨fun ⟨x, hx, e⟩ => ?_, fun e => ?_, fun tab e q => ?_⟩
  · rcases List.mem_append.mp hx with hx | hx
    · exact h.nn ⟨x, List.mem_append_left _ hx, e⟩
    · exact h.fail (h1.mpr ⟨x, hx, e⟩)
  · obtain ⟨x, hx, e⟩ := h.so e
    rcases List.mem_append.mp hx with hx | hx
    · exact ⟨x, List.mem_append_left _ hx, e⟩
    · rw [List.mem_singleton.mp hx] at e
      obtain ⟨y, hy, e⟩ := h1.mp e
      exact ⟨y, List.mem_append_right _ hy, e⟩
  · obtain ⟨tb, etb⟩ : ∃ tb, mch p t = some tb := by
      cases e2 : mch p t with
      | none => rw [h.fail e2] at e; cases e
      | some tb => exact ⟨tb, rfl⟩
    rw [h.mem tab e q, List.mem_append]
    constructor
    · rintro (hq | ⟨x, hx, tb', e', hq⟩)
      · exact .inl (.inr hq)
      · rcases List.mem_append.mp hx with hx | hx
        · exact .inr ⟨x, List.mem_append_left _ hx, tb', e', hq⟩
        · rw [List.mem_singleton.mp hx] at e'
          rcases (h2 tb' e' q).mp hq with hq | ⟨y, hy, z⟩
          · exact .inl (.inl hq)
          · exact .inr ⟨y, List.mem_append_right _ hy, z⟩
    · rintro ((hq | hq) | ⟨x, hx, tb', e', hq⟩)
      · exact .inr ⟨_, List.mem_append_right _ (List.mem_singleton.mpr rfl), tb, etb, (h2 tb etb q).mpr (.inl hq)⟩
      · exact .inl hq
      · rcases List.mem_append.mp hx with hx | hx
        · exact .inr ⟨x, List.mem_append_left _ hx, tb', e', hq⟩
        · exact .inr ⟨_, List.mem_append_right _ (List.mem_singleton.mpr rfl), tb, etb, (h2 tb etb q).mpr (.inr ⟨x, hx, tb', e', hq⟩)⟩
theorem Wi.var {s : Str} (h : Wi P T (W ++ [(.var s, t)]) done) : Wi P T W ((s, t) :: done) := by
  have := h.step (W' := []) (done' := [(s, t)]) (by rw [mch_var]; exact ⟨(fun z => nomatch z), fun ⟨_, z, _⟩ => (nomatch z)⟩) fun tab e q => by
    rw [mch_var] at e
    cases e
    exact ⟨.inl, fun z => z.elim id fun ⟨_, z, _⟩ => nomatch z⟩
  rw [List.append_nil] at this
  exact this
theorem Wi.atom (e0 : mch p t = some []) (h : Wi P T (W ++ [(p, t)]) done) : Wi P T W done := by
  have := h.step (W' := []) (done' := []) (by rw [e0]; exact ⟨(fun z => nomatch z), fun ⟨_, z, _⟩ => (nomatch z)⟩) fun tab e q => by
    rw [e0] at e
    cases e
    exact ⟨(fun z => nomatch z), fun z => z.elim (fun z => nomatch z) fun ⟨_, z, _⟩ => (nomatch z)⟩
  rw [List.append_nil] at this
  exact this
theorem Wi.node {c : Str} {ps ts : List Tm} (h : Wi P T (W ++ [(.node c ps, .node c ts)]) done) : Wi P T (W ++ ps.zip ts) done := by
  have em : mch (.node c ps) (.node c ts) = (seqO ((ps.zip ts).map fun x => mch x.1 x.2)).map List.flatten := by rw [mch_node, if_pos rfl, zip_mch]
  exact h.step (W' := ps.zip ts) (done' := []) (by
    rw [em]
    constructor
    · intro z
      have : seqO ((ps.zip ts).map fun x => mch x.1 x.2) = none := by
        cases e : seqO ((ps.zip ts).map fun x => mch x.1 x.2) with
        | none => rfl
        | some _ => rw [e] at z; cases z
      obtain ⟨x, hx, e⟩ := List.mem_map.mp (seqO_none.mp this)
      exact ⟨x, hx, e⟩
    · rintro ⟨x, hx, e⟩
      rw [seqO_none.mpr (List.mem_map.mpr ⟨x, hx, e⟩)]; rfl) fun tab e q => by
    rw [em] at e
    cases e2 : seqO ((ps.zip ts).map fun x => mch x.1 x.2) with
    | none => rw [e2] at e; cases e
    | some l =>
      rw [e2] at e
      cases e
      rw [seqO_mem e2]
      exact ⟨.inr, fun z => z.elim (fun z => nomatch z) id⟩
end
/-- a node is no other part -/
theorem eqv_node {c : Str} {ps : List Tm} {t : Tm} (nf : ∀ f ts, t ≠ .form f ts) (h : ∀ ts, t ≠ .node c ts) : PyData.eqv (Tm.node c ps).d t.d = false := by
  cases e : PyData.eqv (Tm.node c ps).d t.d with
  | false => rfl
  | true =>
    exfalso
    cases t with
    | form f ts => exact nf f ts rfl
    | node d ts =>
      unfold Tm.d at e
      have e := (eqvAll_cons.mp (eqvAll_cons.mp e).2).1
      exact h ts (by rw [eqv_str.mp e])
    | _ =>
      unfold Tm.d at e
      exact absurd (eqv_str.mp (eqvAll_cons.mp e).1) (by decide +kernel)
theorem mch_no {c : Str} {ps : List Tm} {t : Tm} (h : ∀ ts, t ≠ .node c ts) : mch (.node c ps) t = none := by
  by_cases hn : ∃ d ts, t = .node d ts
  · obtain ⟨d, ts, rfl⟩ := hn
    rw [mch_node, if_neg (fun e => h ts (by rw [e]))]
  · exact mch_nn c ps fun d ts e => hn ⟨d, ts, e⟩
mutual
/-- a part, what was made of its direct parts, its first source -/
inductive TR (K : PySem.W.Frag) (H : Hp) (R : List Rw) (m : Addr) : V → Tm → Prop
  | mk {p il : Addr} {pv sv : V} {iv : List V} {t : Tm} : SqT K H p [pv, .ref il, sv] → Dt K H pv t.d → H il = some (.lst iv) → il ≠ m → TRs K H R m iv t.kids → VOk K H sv (src R t) → TR K H R m (.ref p) t
inductive TRs (K : PySem.W.Frag) (H : Hp) (R : List Rw) (m : Addr) : List V → List Tm → Prop
  | nil : TRs K H R m [] []
  | cons {v : V} {vs : List V} {t : Tm} {ts : List Tm} : TR K H R m v t → TRs K H R m vs ts → TRs K H R m (v :: vs) (t :: ts)
end
section
variable {K : PySem.W.Frag} {H H' : Hp} {R : List Rw} {m : Addr}
mutual
theorem TR.mono (k1 : ∀ a xs, SqT K H a xs → SqT K H' a xs) (k2 : ∀ a xs, a ≠ m → H a = some (.lst xs) → H' a = some (.lst xs)) : ∀ {v : V} {t : Tm}, TR K H R m v t → TR K H' R m v t
  | _, _, .mk h1 h2 h3 h4 h5 h6 => .mk (k1 _ _ h1) (Dt.mono k1 _ _ h2) (k2 _ _ h4 h3) h4 (TRs.mono k1 k2 h5) (h6.mono fun _ _ z => Dt.mono k1 _ _ z)
theorem TRs.mono (k1 : ∀ a xs, SqT K H a xs → SqT K H' a xs) (k2 : ∀ a xs, a ≠ m → H a = some (.lst xs) → H' a = some (.lst xs)) : ∀ {v : List V} {t : List Tm}, TRs K H R m v t → TRs K H' R m v t
  | _, _, .nil => .nil
  | _, _, .cons a b => .cons (TR.mono k1 k2 a) (TRs.mono k1 k2 b)
end
theorem TR.same {v : V} {t : Tm} (h : TR K H R m v t) (s : Same H H') : TR K H' R m v t := h.mono (fun _ _ z => Same.seqT s z) fun _ _ _ z => s _ _ z
theorem TRs.same {v : List V} {t : List Tm} (h : TRs K H R m v t) (s : Same H H') : TRs K H' R m v t := h.mono (fun _ _ z => Same.seqT s z) fun _ _ _ z => s _ _ z
theorem TRs.len {v : List V} {t : List Tm} (h : TRs K H R m v t) : v.length = t.length := by
  induction v generalizing t with
  | nil => cases h; rfl
  | cons x v ih => cases h with | cons a b => rw [List.length_cons, List.length_cons, ih b]
theorem TRs.get {v : List V} {t : List Tm} (h : TRs K H R m v t) {i : Nat} {x : V} (e : v[i]? = some x) : ∃ k, t[i]? = some k ∧ TR K H R m x k := by
  induction v generalizing t i with
  | nil => simp at e
  | cons y v ih =>
    cases h with
    | cons a b =>
      cases i with
      | zero => simp at e; subst e; exact ⟨_, rfl, a⟩
      | succ i => obtain ⟨k, h1, h2⟩ := ih b (i := i) (by simpa using e); exact ⟨k, by simpa using h1, h2⟩
end
end PK
namespace PK
open PySem L2
/-! the sources of what the words stand for -/
/-- a pair that waits; all but the pair itself stands in the first heap -/
def WP (K : PySem.W.Frag) (H H1 : Hp) (R : List Rw) (m : Addr) (v : V) (x : Tm × Tm) : Prop := ∃ (b tp il : Addr) (pw qv sv : V) (iv : List V), v = .ref b ∧ SqT K H1 b [pw, .ref tp] ∧ Dt K H pw x.1.d ∧ SqT K H tp [qv, .ref il, sv] ∧ Dt K H qv x.2.d ∧ H il = some (.lst iv) ∧ TRs K H R m iv x.2.kids ∧ ((∀ s, x.1 ≠ .var s) ∨ VOk K H sv (src R x.2))
theorem WP.mono {K : PySem.W.Frag} {H H1 H2 : Hp} {R : List Rw} {m : Addr} {v : V} {x : Tm × Tm} (k : ∀ a xs, SqT K H1 a xs → SqT K H2 a xs) : WP K H H1 R m v x → WP K H H2 R m v x := by
  rintro ⟨b, tp, il, pw, qv, sv, iv, e, h, r⟩
  exact ⟨b, tp, il, pw, qv, sv, iv, e, k _ _ h, r⟩
theorem All2.split {α : Type} {p : V → α → Prop} {a : α} : ∀ {vs : List V} {r : List α}, All2 p vs (r ++ [a]) → ∃ us v, vs = us ++ [v] ∧ All2 p us r ∧ p v a
  | [v], [], ⟨h, _⟩ => ⟨[], v, rfl, trivial, h⟩
  | _ :: _ :: _, [], ⟨_, h⟩ => h.elim
  | [], [], h => h.elim
  | v :: vs, b :: r, ⟨h, t⟩ => by
    obtain ⟨us, z, e, h1, h2⟩ := All2.split t
    exact ⟨v :: us, z, by rw [e]; rfl, ⟨h, h1⟩, h2⟩
  | [], _ :: _, h => h.elim
theorem All2.app {α : Type} {p : V → α → Prop} : ∀ {vs ws : List V} {r q : List α}, All2 p vs r → All2 p ws q → All2 p (vs ++ ws) (r ++ q)
  | [], _, [], _, _, h => h
  | _ :: _, _, _ :: _, _, ⟨a, b⟩, h => ⟨a, b.app h⟩
theorem All2.ofGet {α : Type} {p : V → α → Prop} : ∀ {vs : List V} {r : List α}, vs.length = r.length → (∀ (i : Nat) (v : V) (a : α), vs[i]? = some v → r[i]? = some a → p v a) → All2 p vs r
  | [], [], _, _ => trivial
  | [], _ :: _, h, _ => nomatch h
  | _ :: _, [], h, _ => nomatch h
  | v :: vs, a :: r, h, k => ⟨k 0 v a rfl rfl, All2.ofGet (Nat.succ.inj h) fun i v a e1 e2 => k (i + 1) v a (by simpa using e1) (by simpa using e2)⟩
def szs (W : List (Tm × Tm)) : Nat := (W.map fun x => x.1.size).sum
theorem szs_snoc (W : List (Tm × Tm)) (x : Tm × Tm) : szs (W ++ [x]) = szs W + x.1.size := by
  unfold szs
  rw [List.map_append, List.sum_append]
  show _ + (x.1.size + 0) = _
  omega
theorem szs_app (W Z : List (Tm × Tm)) : szs (W ++ Z) = szs W + szs Z := by
  unfold szs
  rw [List.map_append, List.sum_append]
theorem szs_zip : ∀ {ps ts : List Tm}, ps.length = ts.length → szs (ps.zip ts) = (ps.map Tm.size).sum
  | [], _, _ => by rw [List.zip_nil_left]; rfl
  | _ :: _, [], h => nomatch h
  | p :: ps, t :: ts, h => by
    rw [List.zip_cons_cons, List.map_cons, List.sum_cons, ← szs_zip (Nat.succ.inj h)]; rfl
theorem szs_len : ∀ W : List (Tm × Tm), W.length ≤ szs W
  | [] => Nat.zero_le _
  | x :: W => by
    have := szs_len W
    have := x.1.size_pos
    show _ + 1 ≤ x.1.size + szs W
    omega
/-- the dict of what is done -/
structure Dn (K : PySem.W.Frag) (H : Hp) (R : List Rw) (kvs : List (Key × V)) (done : Tab) : Prop where
  of_ : ∀ s v, valV kvs (Sum.inr s) = some v → ∃ x u, (s, x) ∈ done ∧ src R x = some u ∧ Dt K H v u.d
  has : ∀ q ∈ done, (valV kvs (Sum.inr q.1)).isSome = true
theorem Dn.put {K : PySem.W.Frag} {H : Hp} {R : List Rw} {kvs : List (Key × V)} {done : Tab} (h : Dn K H R kvs done) {s : Str} {t u : Tm} {v : V} (e : src R t = some u) (d : Dt K H v u.d) : Dn K H R (putK kvs (Sum.inr s) v) ((s, t) :: done) := by
  refine ⟨fun s' v' e' => ?_, fun q hq => ?_⟩
  · rw [valV_put] at e'
    by_cases c : (Sum.inr s' : Key) = Sum.inr s
    · rw [if_pos c] at e'
      cases e'
      cases c
      exact ⟨t, u, List.mem_cons_self, e, d⟩
    · rw [if_neg c] at e'
      obtain ⟨x, w, h1, h2⟩ := h.of_ s' v' e'
      exact ⟨x, w, List.mem_cons_of_mem _ h1, h2⟩
  · rw [valV_put]
    by_cases c : (Sum.inr q.1 : Key) = Sum.inr s
    · rw [if_pos c]; rfl
    · rw [if_neg c]
      rcases List.mem_cons.mp hq with rfl | hq
      · exact absurd rfl c
      · exact h.has q hq
def spSp (K : PySem.W.Frag) : Sp := fun vs H Q _ => ∃ (pw qv sv : V) (tp il m : Addr) (iv : List V) (p t : Tm) (hs : Hds) (ps : List Str) (R : List Rw), vs = [pw, .ref tp] ∧ Dt K H pw p.d ∧ SqT K H tp [qv, .ref il, sv] ∧ Dt K H qv t.d ∧ H il = some (.lst iv) ∧ TRs K H R m iv t.kids ∧ HdOk hs ∧ TplOk hs ps p ∧ p.size ≤ 24 ∧ TT hs [] t ∧ t.ht ≤ 60 ∧
  (∀ H', Same H H' → (∀ tab, mch p t = some tab → ∃ q ∈ tab, src R q.2 = none) → Q .non H') ∧
  ∀ (H' : Hp) (D : Addr) (kvs : List (Key × V)) (tab : Tab), Same H H' → H' D = some (.dK kvs) → mch p t = some tab → (∀ q ∈ tab, ∃ v u, valV kvs (Sum.inr q.1) = some v ∧ src R q.2 = some u ∧ Dt K H' v u.d) → Q (.ref D) H'
section
variable {P : Program} {w : World} {K : PySem.W.Frag} {mg : Str → Option Value} {base : Heap} {aF : Addr}
abbrev s_sources_of_parameters : Stmt := topS 9
theorem sc_sources_of_parameters : FnScope ["template", "whole", "bindings", "waiting", "wanted", "part", "inner", "source"] ["template", "whole"] (defScope s_sources_of_parameters) := ⟨rfl, rfl, rfl, by decide +kernel, rfl, by decide +kernel, by decide +kernel⟩
-- slots: 0:template 1:whole 2:bindings 3:waiting 4:wanted 5:part 6:inner 7:source
theorem ok_sp {f : Addr} {fd : FuncData} (F : Fun K "_sources_of_parameters" "_sources_of_parameters" s_sources_of_parameters f fd) (T : TxtZ K mg aF) : FnOk P w K mg base CX0 1 f fd ["template", "whole"] (spSp K) := by
  refine F.ok sc_sources_of_parameters (fun vs H Q E h => ?_) (fun cdv A outer s H vs Q E hr h => ?_)
  · obtain ⟨_, _, _, _, _, _, _, _, _, _, _, _, rfl, _⟩ := h
    rfl
  obtain ⟨pw, qv, sv, tp, il, m, iv, p, t, hs, ps, R, rfl, hp, htp, hq, hil, trs, hok, tok, hsz, tt, hht, qn, qd⟩ := h
  refine ⟨_, (pss_cons (ps_set (i := 2) sc_sources_of_parameters.nd rfl (Or.inl rfl) pe_dnewK)
    (pss_cons (ps_set (i := 3) sc_sources_of_parameters.nd rfl (Or.inl rfl) (pe_lst (pa_cons (pe_tup (pa_cons (pv 0) (pa_cons (pv 1) pa_nil))) pa_nil)))
    (pss_cons (ps_while PassesOwn.never (pt_truth (pv 3) (by intro _; rfl)) (pss_cons (ps_asg (pe_bm0 PySem.F.plainAttrs_list PySem.F.slot_list_pop PySem.F.type_list_pop mt_pop (pv 3)) (pg_tup (by rfl) (pgs_cons (pg_name (i := 4) sc_sources_of_parameters.nd rfl (Or.inl rfl)) (pgs_cons (pg_tup (by rfl) (pgs_cons (pg_name (i := 5) sc_sources_of_parameters.nd rfl (Or.inl rfl)) (pgs_cons (pg_name (i := 6) sc_sources_of_parameters.nd rfl (Or.inl rfl)) (pgs_cons (pg_name (i := 7) sc_sources_of_parameters.nd rfl (Or.inl rfl)) pgs_nil)))) pgs_nil))))
    (pss_one (ps_if (pt_cmpR op_eq (pe_ix ix_tup (pv 4) pe_int (fun _ _ => rfl)) pe_str (nomark _)) (pss_cons (ps_if (pt_cmpR op_isN (pv 7) pe_non (nomark _)) (pss_one (ps_ret pe_non)) pss_nil)
    (pss_one (ps_dput (hu_of hr) (pv 2) (pe_ix ix_tup (pv 4) pe_int (fun _ _ => rfl)) (pv 7) rfl))) (pss_one (ps_if (PW.pt (pw_and (pt_cmpR op_eq (pe_ix ix_tup (pv 4) pe_int (fun _ _ => rfl)) pe_str (nomark _)) (pw_and (pt_cmpR op_eq (pe_ix ix_tup (pv 5) pe_int (fun _ _ => rfl)) pe_str (nomark _)) (pw_and1 (pt_cmpR op_eq (pe_ix ix_tup (pv 4) pe_int (fun _ _ => rfl)) (pe_ix ix_tup (pv 5) pe_int (fun _ _ => rfl)) (nomark _)))))) (pss_one (ps_expr (pe_bm PySem.F.plainAttrs_list PySem.F.slot_list_extend PySem.F.type_list_extend mt_extend (pv 3) (pa_cons (PKZ.pe_listZip (by rfl) (by rfl) T.z_list (by decide +kernel) (by rfl) T.z_zip (pa_cons (pe_ix ix_tup (pv 4) pe_int (fun _ _ => rfl)) (pa_cons (pv 6) pa_nil))) pa_nil)))) (pss_one (ps_if (pt_cmpR (PKE.op_neN (n := 190) (eqU hr)) (pv 4) (pv 5) (nomark _)) (pss_one (ps_ret pe_non)) pss_nil))))))))
    (pss_one (ps_ret (pv 2)))))), ?_⟩
  refine fun D hD => ?_
  have s0 := same_new (o := .dK []) hD
  refine ⟨_, rfl, _, rfl, small (by show 2 ≤ _; decide), fun b0 hb0 => ⟨small (by show 1 ≤ _; decide), fun Wa hWa => ?_⟩⟩
  have s1 := s0.trans (same_new (o := .tup [pw, .ref tp]) hb0)
  have hWH : H Wa = none := by
    cases e : H Wa with
    | none => rfl
    | some o => rw [s1 _ _ e] at hWa; cases hWa
  have nDW : D ≠ Wa := ne_of_none (same_new (o := .tup [pw, .ref tp]) hb0 _ _ (upd_same (H := H) (a := D) (o := .dK []))) hWa
  have hD2 := same_new (o := .lst [V.ref b0]) hWa _ _ (same_new (o := .tup [pw, .ref tp]) hb0 _ _ (upd_same (H := H) (a := D) (o := .dK [])))
  refine ⟨fun n σ H' => ∃ (W : List (Tm × Tm)) (done : Tab) (xs : List V) (kvs : List (Key × V)) (o4 o5 o6 o7 : Option V), n = szs W ∧ σ = [some pw, some (.ref tp), some (.ref D), some (.ref Wa), o4, o5, o6, o7] ∧ Same H H' ∧ H' Wa = some (.lst xs) ∧ H' D = some (.dK kvs) ∧ kvs.length + szs W ≤ 24 ∧ All2 (WP K H H' R m) xs W ∧ Dn K H R kvs done ∧ Wi p t W done ∧ ∀ x ∈ W, TT hs ps x.1 ∧ Al noM x.1 ∧ TT hs [] x.2 ∧ x.2.ht ≤ 60, ⟨_, [(p, t)], [], [.ref b0], [], _, _, _, _, rfl, rfl, s1.trans (same_new hWa), upd_same, hD2, ?_, ⟨?_, trivial⟩, ⟨(fun s v e => nomatch e), (fun q h => nomatch h)⟩, Wi.start p t, fun x hx => ?_⟩, ?_⟩
  · show 0 + (p.size + 0) ≤ 24; omega
  · obtain ⟨c, ts, ec⟩ := tok.nd
    refine ⟨b0, tp, il, pw, qv, sv, iv, rfl, Same.seqT (same_new hWa) (SqT.of upd_same), hp, htp, hq, hil, trs, .inl fun s e => ?_⟩
    rw [ec] at e; cases e
  · rw [List.mem_singleton.mp hx]; exact ⟨tok.tt, tok.nm, tt, hht⟩
  rintro n σ H1 ⟨W, done, xs, kvs, o4, o5, o6, o7, rfl, rfl, s, hW1, hD1, lk, al, dn, wi, ok⟩
  refine ⟨_, rfl, !xs.isEmpty, .inl ⟨xs, SqL.of hW1, rfl⟩, ?_⟩
  rcases List.eq_nil_or_concat W with rfl | ⟨r, x, rfl⟩
  · have : xs = [] := by cases xs with | nil => rfl | cons _ _ => exact al.elim
    subst this
    refine iteF ⟨_, rfl, ?_⟩
    cases e : mch p t with
    | none => obtain ⟨x, hx, _⟩ := wi.so e; cases hx
    | some tab =>
      refine qd H1 D kvs tab s hD1 e fun q hq => ?_
      have keys := tok.keys hok tt e
      rcases (wi.mem tab e q).mp hq with h | ⟨x, hx, _⟩
      · obtain ⟨v, ev⟩ := Option.isSome_iff_exists.mp (dn.has q h)
        obtain ⟨x, u, hx, eu, du⟩ := dn.of_ _ _ ev
        have h1 := keys.1 q hq
        have h2 := keys.1 _ ((wi.mem tab e (q.1, x)).mpr (.inl hx))
        rw [h1] at h2
        obtain rfl : q.2 = x := Option.some.inj h2
        exact ⟨v, u, ev, eu, du.same s⟩
      · cases hx
  rw [List.concat_eq_append] at al wi ok lk ⊢
  obtain ⟨us, z, rfl, al1, wp⟩ := al.split
  obtain ⟨p', t'⟩ := x
  obtain ⟨tp', nm', tt', ht'⟩ := ok (p', t') (List.mem_append_right _ (List.mem_singleton.mpr rfl))
  rw [show (!(us ++ [z]).isEmpty) = true by simp]
  rw [szs_snoc] at lk ⊢
  obtain ⟨b, tq, jl, pw', qv', sv', jv, rfl, hb, dp, htq, dq, hjl, trq, hsv⟩ := wp
  have dp : Dt K H pw' p'.d := dp
  have dq : Dt K H qv' t'.d := dq
  have trq : TRs K H R m jv t'.kids := trq
  refine iteT ⟨fun σ' H' => ∃ m', m' < szs r + p'.size ∧ ∃ (W : List (Tm × Tm)) (done : Tab) (xs : List V) (kvs : List (Key × V)) (o4 o5 o6 o7 : Option V), m' = szs W ∧ σ' = [some pw, some (.ref tp), some (.ref D), some (.ref Wa), o4, o5, o6, o7] ∧ Same H H' ∧ H' Wa = some (.lst xs) ∧ H' D = some (.dK kvs) ∧ kvs.length + szs W ≤ 24 ∧ All2 (WP K H H' R m) xs W ∧ Dn K H R kvs done ∧ Wi p t W done ∧ ∀ x ∈ W, TT hs ps x.1 ∧ Al noM x.1 ∧ TT hs [] x.2 ∧ x.2.ht ≤ 60, fun _ _ h => h, ?_⟩
  refine ⟨_, rfl, .inl ⟨rfl, _, SqL.of hW1⟩, Wa, _, .ref b, rfl, rfl, hW1, by rw [List.length_append]; simp, ?_⟩
  rw [List.dropLast_concat]
  have s2 : Same H (upd H1 Wa (.lst us)) := Same.upd s hWH
  have hb2 : SqT K (upd H1 Wa (.lst us)) b [pw', .ref tq] := seqT_upd hb hW1
  have al2 : All2 (WP K H (upd H1 Wa (.lst us)) R m) us r := al1.mono fun v x z => z.mono fun a xs y => seqT_upd y hW1
  have hW2 : (upd H1 Wa (.lst us)) Wa = some (.lst us) := upd_same
  have hD2 : (upd H1 Wa (.lst us)) D = some (.dK kvs) := by rw [upd_ne nDW]; exact hD1
  generalize upd H1 Wa (.lst us) = H2 at s2 hb2 al2 hW2 hD2 ⊢
  have okr : ∀ x ∈ r, TT hs ps x.1 ∧ Al noM x.1 ∧ TT hs [] x.2 ∧ x.2.ht ≤ 60 := fun x hx => ok x (List.mem_append_left _ hx)
  have psz := p'.size_pos
  refine ⟨b, _, rfl, hb2, rfl, _, _, rfl, _, _, rfl, ⟨tq, _, rfl, Same.seqT s2 htq, rfl, _, _, rfl, _, _, rfl, _, _, rfl, rfl, rfl, ?_⟩⟩
  have lk : kvs.length + (szs r + p'.size) ≤ 24 := lk
  have nfT : ∀ f ts, t' ≠ .form f ts := fun f ts e => by rw [e] at tt'; exact tt'.at_.elim
  have dp2 := dp.same s2
  have dq2 := dq.same s2
  -- the end: they differ
  have none_ : mch p' t' = none → Q .non H2 := fun e => qn H2 s2 fun tab et => by rw [wi.fail e] at et; cases et
  have ne_ : ∀ {Q' : VK}, Q' (.bl (!PyData.eqv p'.d t'.d)) H2 → PKE.rNeN K 190 pw' qv' H2 Q' := fun h => ⟨_, _, Dt.dp _ _ dp2, Dt.dp _ _ dq2, tp'.lay, tt'.lay, .inr (by have := tm_depthF (t := t'); have : t'.ht ≤ 60 := ht'; omega), h⟩
  cases p' with
  | form f ts => exact tp'.at_.elim
  | map es => exact absurd rfl (nm'.at_ es)
  | var w =>
    unfold Tm.d at dp2
    obtain ⟨a, x, y, rfl, hsq, h1, h2⟩ := Dt.t2 dp2
    obtain rfl := h1.s
    obtain rfl := h2.s
    refine vTx rfl hsq rfl ⟨rfl, _, rfl, sT rfl ⟨_, rfl, rfl, _, rfl, ?_⟩⟩
    have vo : VOk K H sv' (src R t') := hsv.elim (fun h => absurd rfl (h w)) id
    rw [vo.dec]
    cases e : src R t' with
    | none =>
      refine iteT (qn H2 s2 fun tab et => ⟨(w, t'), (wi.mem tab et _).mpr (.inr ⟨_, List.mem_append_right _ (List.mem_singleton.mpr rfl), _, mch_var w t', List.mem_singleton.mpr rfl⟩), e⟩)
    | some u =>
      rw [e] at vo
      have lz := length_putK kvs (Sum.inr w) sv'
      refine iteF ⟨_, rfl, _, rfl, vTx rfl hsq rfl ⟨D, _, rfl, DPut.k (k := Sum.inr w) hD2 (smallL (by omega)), ?_⟩⟩
      have nWD : Wa ≠ D := fun e => nDW e.symm
      exact ⟨szs r, by omega, r, (w, t') :: done, us, _, _, _, _, _, rfl, rfl, Same.upd s2 hD, by rw [upd_ne nWD]; exact hW2, upd_same, by omega, al2.mono fun v x z => z.mono fun a xs y => seqT_updK y hD2, dn.put e vo, wi.var, okr⟩
  | node c ks =>
    have dp3 := dp
    unfold Tm.d at dp3
    obtain ⟨a, x, y, z, rfl, hsq0, h1, h2, h3⟩ := Dt.t3 dp3
    have hsq := Same.seqT s2 hsq0
    obtain rfl := h1.s
    obtain rfl := h2.s
    obtain ⟨pa, xs, rfl, hpa0, hxs0⟩ := Dt.tn h3
    rw [Tm.ds_map] at hxs0
    have hpa := Same.seqT s2 hpa0
    have hxs := hxs0.same s2
    refine vTx rfl hsq rfl ⟨rfl, _, rfl, sF (by decide +kernel) (vTx rfl hsq rfl ⟨rfl, _, rfl, sT rfl ?_⟩)⟩
    obtain ⟨b2, g, r2, rfl, hs2, alt⟩ := tm_hd dq2 nfT
    have stop : (∀ ts, t' ≠ .node c ts) → PKE.rNeN K 190 (.ref a) (.ref b2) H2 fun v H' => v = .bl true ∧ H' = H2 := fun h => ne_ ⟨by rw [eqv_node nfT h]; rfl, rfl⟩
    rcases alt with ⟨rfl, d, ts, rfl⟩ | ⟨hg, hn⟩
    rotate_left
    · have := fun ts => hn c ts
      refine vTx rfl hs2 (atI_nat (j := 0) rfl) ⟨rfl, _, rfl, sF hg ⟨_, rfl, _, rfl, ne_ ?_⟩⟩
      rw [eqv_node nfT this]
      exact ⟨_, rfl, iteT (none_ (mch_no this))⟩
    unfold Tm.d at dq2
    obtain ⟨b3, x2, y2, z2, e2, hs2, k1, k2, k3⟩ := Dt.t3 dq2
    cases e2
    obtain rfl := k1.s
    obtain rfl := k2.s
    refine vTx rfl hs2 rfl ⟨rfl, _, rfl, sT rfl (vTx rfl hsq rfl (vTx rfl hs2 rfl ⟨rfl, _, rfl, ?_⟩))⟩
    by_cases ec : c = d
    rotate_left
    · have : ∀ ks', Tm.node d ts ≠ .node c ks' := fun ks' e => by cases e; exact ec rfl
      refine sF ec ⟨_, rfl, _, rfl, ne_ ?_⟩
      rw [eqv_node nfT this]
      exact ⟨_, rfl, iteT (none_ (mch_no this))⟩
    subst ec
    have lkt : ks.length = ts.length := hd_one hok tp'.at_.1 tt'.at_.1
    have l3 : ks.length ≤ 3 := tp'.len
    have lx : xs.length = ks.length := by rw [hxs.lenD, List.length_map]
    have lj : jv.length = ts.length := trq.len
    have lr := szs_len r
    have lus := al1.len
    have hszp : (Tm.node c ks).size = 1 + (ks.map Tm.size).sum := Tm.size_eq _
    have hjl2 := s2 _ _ hjl
    refine sT rfl ⟨_, rfl, .inl ⟨rfl, _, SqL.of hW2⟩, vTx rfl hsq rfl ⟨_, rfl, pa, jl, xs, jv, rfl, .inr hpa, .inl (SqL.of hjl2), small (by omega), fun H3 pz zs s3 hpz hzs lzs hpz3 gz => ?_⟩⟩
    have hW3 := s3 _ _ hW2
    refine ⟨Wa, pz, us, zs.map V.ref, rfl, rfl, hW3, hpz3, small (by rw [List.length_map]; omega), ?_⟩
    have up : ∀ a xs, SqT K H3 a xs → SqT K (upd H3 Wa (.lst (us ++ zs.map V.ref))) a xs := fun a xs y => seqT_upd y hW3
    refine ⟨szs (r ++ ks.zip ts), ?_, r ++ ks.zip ts, done, us ++ zs.map V.ref, kvs, _, _, _, _, rfl, rfl, Same.upd (s2.trans s3) hWH, upd_same, by rw [upd_ne nDW]; exact s3 _ _ hD2, ?_, ?_, dn, wi.node, fun x hx => ?_⟩
    · rw [szs_app, szs_zip lkt]; omega
    · rw [szs_app, szs_zip lkt]; omega
    · refine All2.app (al2.mono fun v x z => z.mono fun a xs y => up _ _ (Same.seqT s3 y)) (All2.ofGet (by rw [List.length_map, lzs, List.length_zip]; omega) fun i v x e1 e2 => ?_)
      rw [List.getElem?_map] at e1
      cases e3 : zs[i]? with
      | none => rw [e3] at e1; cases e1
      | some tz =>
      rw [e3] at e1
      cases e1
      obtain ⟨x1, y1, g1, g2, g3⟩ := gz i tz e3
      obtain ⟨k1, k2⟩ := List.getElem?_zip_eq_some.mp e2
      obtain ⟨kk, gk, tr⟩ := trq.get g2
      have gk : ts[i]? = some kk := gk
      rw [k2] at gk
      cases gk
      have dk : Dt K H x1 x.1.d := by
        obtain ⟨d1, gd, dx⟩ := DtAll.getX hxs0 g1
        rw [List.getElem?_map, k1] at gd
        cases gd
        exact dx
      cases tr with
      | mk q1 q2 q3 q4 q5 q6 =>
        exact ⟨tz, _, _, x1, _, _, _, rfl, up _ _ (.inl (.inl g3)), dk, q1, q2, q3, q5, .inr q6⟩
    · rcases List.mem_append.mp hx with hx | hx
      · exact okr x hx
      · have hm := List.of_mem_zip (show (x.1, x.2) ∈ ks.zip ts from hx)
        have h1 : x.1 ∈ (Tm.node c ks).kids := hm.1
        have h2 : x.2 ∈ (Tm.node c ts).kids := hm.2
        have := Tm.ht_kid h2
        have ht' : (Tm.node c ts).ht ≤ 60 := ht'
        exact ⟨tp'.kid h1, nm'.kid h1, tt'.kid h2, by omega⟩
  | int n =>
    have dp3 := dp2
    unfold Tm.d at dp3
    obtain ⟨a, x, y, rfl, hsq, h1, h2⟩ := Dt.t2 dp3
    obtain rfl := h1.s
    refine vTx rfl hsq rfl ⟨rfl, _, rfl, sF (by decide +kernel) (vTx rfl hsq rfl ⟨rfl, _, rfl, sF (by decide +kernel) ⟨_, rfl, _, rfl, ne_ ?_⟩⟩)⟩
    have em := mch_atom (p := .int n) (t := t') trivial
    cases e : PyData.eqv (Tm.int n).d t'.d with
    | true =>
      rw [e, if_pos rfl] at em
      exact ⟨_, rfl, iteF ⟨szs r, by omega, r, done, us, kvs, _, _, _, _, rfl, rfl, s2, hW2, hD2, by omega, al2, dn, wi.atom em, okr⟩⟩
    | false =>
      rw [e, if_neg Bool.false_ne_true] at em
      exact ⟨_, rfl, iteT (none_ em)⟩
  | name n =>
    have dp3 := dp2
    unfold Tm.d at dp3
    obtain ⟨a, x, y, rfl, hsq, h1, h2⟩ := Dt.t2 dp3
    obtain rfl := h1.s
    refine vTx rfl hsq rfl ⟨rfl, _, rfl, sF (by decide +kernel) (vTx rfl hsq rfl ⟨rfl, _, rfl, sF (by decide +kernel) ⟨_, rfl, _, rfl, ne_ ?_⟩⟩)⟩
    have em := mch_atom (p := .name n) (t := t') trivial
    cases e : PyData.eqv (Tm.name n).d t'.d with
    | true =>
      rw [e, if_pos rfl] at em
      exact ⟨_, rfl, iteF ⟨szs r, by omega, r, done, us, kvs, _, _, _, _, rfl, rfl, s2, hW2, hD2, by omega, al2, dn, wi.atom em, okr⟩⟩
    | false =>
      rw [e, if_neg Bool.false_ne_true] at em
      exact ⟨_, rfl, iteT (none_ em)⟩
  | addr n =>
    have dp3 := dp2
    unfold Tm.d at dp3
    obtain ⟨a, x, y, rfl, hsq, h1, h2⟩ := Dt.t2 dp3
    obtain rfl := h1.s
    refine vTx rfl hsq rfl ⟨rfl, _, rfl, sF (by decide +kernel) (vTx rfl hsq rfl ⟨rfl, _, rfl, sF (by decide +kernel) ⟨_, rfl, _, rfl, ne_ ?_⟩⟩)⟩
    have em := mch_atom (p := .addr n) (t := t') trivial
    cases e : PyData.eqv (Tm.addr n).d t'.d with
    | true =>
      rw [e, if_pos rfl] at em
      exact ⟨_, rfl, iteF ⟨szs r, by omega, r, done, us, kvs, _, _, _, _, rfl, rfl, s2, hW2, hD2, by omega, al2, dn, wi.atom em, okr⟩⟩
    | false =>
      rw [e, if_neg Bool.false_ne_true] at em
      exact ⟨_, rfl, iteT (none_ em)⟩
end
end PK
namespace PK
open PySem L2
/-! the first source of a node, of a part -/
theorem seqO_all {α : Type} {l : List (Option α)} (h : ∀ o ∈ l, o.isSome = true) : ∃ ks, seqO l = some ks := by
  cases e : seqO l with
  | some ks => exact ⟨ks, rfl⟩
  | none =>
    have := h _ (seqO_none.mp e)
    cases this
def spFn (K : PySem.W.Frag) : Sp := fun vs H Q _ => ∃ (la il m : Addr) (pw : V) (rs iv : List V) (t : Tm) (hs : Hds) (R RF : List Rw), vs = [.ref la, pw, .ref il] ∧ H la = some (.lst rs) ∧ DtAll K H rs (RF.map Rw.d) ∧ (∀ r ∈ RF, TplOk hs r.ps r.t ∧ r.t.size ≤ 24 ∧ r.ps.length ≤ 3) ∧ Dt K H pw t.d ∧ H il = some (.lst iv) ∧ TRs K H R m iv t.kids ∧ HdOk hs ∧ TT hs [] t ∧ t.ht ≤ 60 ∧
  ∀ (H' : Hp) (v : V), Same H H' → VOk K H' v (RF.findSome? (try1 (src R) t)) → Q v H'
section
variable {P : Program} {w : World} {K : PySem.W.Frag} {mg : Str → Option Value} {base : Heap} {aF : Addr}
abbrev s_first_source_of_node : Stmt := topS 8
theorem sc_first_source_of_node : FnScope ["rows", "part", "inner", "name", "parameters", "template", "bindings", "word"] ["rows", "part", "inner"] (defScope s_first_source_of_node) := ⟨rfl, rfl, rfl, by decide +kernel, rfl, by decide +kernel, by decide +kernel⟩
-- slots: 0:rows 1:part 2:inner 3:name 4:parameters 5:template 6:bindings(cell) 7:word(comp)
theorem ok_fn {f : Addr} {fd : FuncData} (F : Fun K "_first_source_of_node" "_first_source_of_node" s_first_source_of_node f fd) (T : TxtZ K mg aF) (C_sources_of_parameters : C8.Cal P w K mg base 1 "_sources_of_parameters" (spSp K) []) : FnOk P w K mg base CX0 2 f fd ["rows", "part", "inner"] (spFn K) := by
  refine F.ok sc_first_source_of_node (fun vs H Q E h => ?_) (fun cdv A outer s H vs Q E hr h => ?_)
  · obtain ⟨_, _, _, _, _, _, _, _, _, _, rfl, _⟩ := h
    rfl
  obtain ⟨la, il, m, pw, rs, iv, t, hs, R, RF, rfl, hla, drs, ok, hp, hil, trs, hok, tt, hht, q⟩ := h
  refine ⟨_, (pss_cons (ps_for PassesOwn.never rfl (pi_list (pv 0)) (pg_tup (by rfl) (pgs_cons (pg_name (i := 3) sc_first_source_of_node.nd rfl (Or.inl rfl)) (pgs_cons (pg_name (i := 4) sc_first_source_of_node.nd rfl (Or.inl rfl)) (pgs_cons (pg_name (i := 5) sc_first_source_of_node.nd rfl (Or.inl rfl)) pgs_nil)))) (pss_cons (ps_set (i := 6) sc_first_source_of_node.nd rfl (Or.inr rfl) (C8.pe_c C_sources_of_parameters hr (by decide) rfl (pa_cons (pv 5) (pa_cons (pe_tup (pa_cons (pv 1) (pa_cons (pv 2) (pa_cons pe_non pa_nil)))) pa_nil))))
    (pss_one (ps_if (pt_cmpR op_notN (pv 6) pe_non (nomark _)) (pss_one (ps_ret (pe_tup (pa_cons pe_str (pa_cons (pv 3) (pa_cons (pe_callTy call_tuple_of (by rfl) T.z_tuple (by decide +kernel) (pa_cons (pe_lc (own := [("word", 7)]) (g := (gName 7)) (tt := tYes) (by rfl) sc_first_source_of_node.nd (pi_tup (pv 4)) (blkOk_by (N := ["rows", "part", "inner", "name", "parameters", "template", "bindings", "word"]) (sc := defScope s_first_source_of_node) (by decide +kernel)) (fun _ _ _ _ _ => (pg_name (i := 7) sc_first_source_of_node.nd rfl (Or.inl rfl))) (fun _ _ _ _ _ => pts_nil) (fun _ _ _ _ _ => (pe_dget (hu_of hr) (pv 6) (pv 7) (fun _ _ => rfl)))) pa_nil)) pa_nil)))))) pss_nil))))
    (pss_one (ps_ret pe_non))), ?_⟩
  have lrs : rs.length = RF.length := by rw [drs.lenD, List.length_map]
  refine ⟨_, rfl, la, rfl, ⟨_, SqL.of hla⟩, for_it (walk_list (K := K) (xs := rs)) (fun i σ H' => ∃ (o3 o4 o5 o6 : Option V), σ = [some (.ref la), some pw, some (.ref il), o3, o4, o5, o6, none] ∧ Same H H' ∧ (RF.take i).findSome? (try1 (src R) t) = none) ?_ ?_ ?_ ?_⟩
  · exact ⟨_, _, _, _, rfl, Same.refl H, rfl⟩
  · rintro i σ H' _ ⟨_, _, _, _, _, s, _⟩
    exact SqL.of (s _ _ hla)
  · rintro i x σ H1 H1 hi ⟨o3, o4, o5, o6, rfl, s1, fn⟩ ⟨rfl, gx⟩
    obtain ⟨dd, gd, dx⟩ := drs.getX gx
    rw [List.getElem?_map] at gd
    cases e0 : RF[i]? with
    | none => rw [e0] at gd; cases gd
    | some r =>
    rw [e0] at gd
    cases gd
    obtain ⟨tok, rsz, l3⟩ := ok r (List.mem_of_getElem? e0)
    have fa2 := find_add e0 fn
    have dx := dx.same s1
    unfold Rw.d at dx
    obtain ⟨b, x1, y1, z1, rfl, hb, g1, g2, g3⟩ := Dt.t3 dx
    obtain rfl := g1.s
    obtain ⟨a2, ps', rfl, hs2, dps⟩ := Dt.tn g2
    obtain rfl := dps.strsE
    refine ⟨b, _, rfl, hb, rfl, _, _, rfl, _, _, rfl, _, _, rfl, rfl, ?_⟩
    refine ⟨_, rfl, _, rfl, _, rfl, small (by show 3 ≤ _; decide), fun tp htp => ?_⟩
    have s2 := s1.trans (same_new (o := .tup [pw, .ref il, .non]) htp)
    refine ⟨z1, pw, .non, tp, il, m, iv, r.t, t, hs, r.ps, R, rfl, g3.same (same_new htp), SqT.of upd_same, hp.same s2, s2 _ _ hil, trs.same s2, hok, tok, rsz, tt, hht, fun H3 s3 hno => ?_, fun H3 D kvs tab s3 hD em hk => ?_⟩
    · refine ⟨_, rfl, rfl, _, rfl, iteF ⟨_, _, _, _, rfl, s2.trans s3, fa2.1 ?_⟩⟩
      unfold try1
      cases em : mch r.t t with
      | none => rfl
      | some tab =>
        obtain ⟨q', hq', e'⟩ := hno tab em
        have keys := tok.keys hok tt em
        show (bnd (src R) tab r.ps).map _ = none
        unfold bnd
        rw [seqO_none.mpr (List.mem_map.mpr ⟨q'.1, keys.2.2 q' hq', by rw [keys.1 q' hq']; exact e'⟩)]; rfl
    · have keys := tok.keys hok tt em
      have s13 := s2.trans s3
      have sH13 : Same H1 H3 := (same_new (o := .tup [pw, .ref il, .non]) htp).trans s3
      have t1 : try1 (src R) t r = (seqO (r.ps.map fun p => (lookA tab p).bind (src R))).map (Tm.node r.nm) := by unfold try1; rw [em]; rfl
      have has : ∀ p ∈ r.ps, ∃ v u, valV kvs (Sum.inr p) = some v ∧ (lookA tab p).bind (src R) = some u ∧ Dt K H3 v u.d := fun p hp => by
        obtain ⟨x, ex⟩ := keys.2.1 p hp
        obtain ⟨v, u, h1, h2, h3⟩ := hk _ (lookA_mem ex)
        exact ⟨v, u, h1, by rw [ex]; exact h2, h3⟩
      refine ⟨_, rfl, rfl, _, rfl, iteT ⟨_, rfl, _, rfl, a2, rfl, ⟨_, Same.seqT sH13 hs2⟩, fun E2 hE => lc_it (walk_tup (K := K) (xs := r.ps.map V.str)) (fun i H' => ∃ ws : List V, Same H3 H' ∧ H' E2 = some (.lst ws) ∧ All2 (VOk K H') ws ((r.ps.take i).map fun p => (lookA tab p).bind (src R))) ?_ ?_ ?_ ?_⟩⟩
      · exact ⟨[], same_new hE, upd_same, trivial⟩
      · rintro i' H' _ ⟨_, s, _⟩
        exact Same.seqT s (Same.seqT sH13 hs2)
      · rintro i' x H4 H4 hi' ⟨ws, s4, hE4, al⟩ ⟨rfl, gx⟩
        rw [List.length_map] at hi'
        rw [List.getElem?_map, List.getElem?_eq_getElem hi'] at gx
        cases gx
        obtain ⟨v, u, ev, eu, du⟩ := has r.ps[i'] (List.getElem_mem hi')
        refine ⟨rfl, _, rfl, _, rfl, D, v, rfl, by rw [← ev]; exact DGet.k (k := Sum.inr r.ps[i']) (s4 _ _ hD), ?_⟩
        have lw := al.len
        rw [List.length_map, List.length_take] at lw
        refine ⟨ws, hE4, smallL (by omega), ws ++ [v], Same.upd s4 hE, upd_same, ?_⟩
        rw [List.take_add_one, List.getElem?_eq_getElem hi', List.map_append]
        refine All2.snoc ?_ (al.mono fun v d z => z.mono fun v d z => Dt.mono (fun _ _ y => seqT_upd y hE4) _ _ z)
        show VOk K _ v ((lookA tab r.ps[i']).bind (src R))
        rw [eu]
        exact Dt.mono (fun _ _ y => seqT_upd y hE4) _ _ (du.same s4)
      rintro H4 ⟨ws, s4, hE4, al⟩
      rw [List.length_map, List.take_length] at al
      obtain ⟨ks, ek⟩ := seqO_all (l := r.ps.map fun p => (lookA tab p).bind (src R)) fun o ho => by
        obtain ⟨p, hp, rfl⟩ := List.mem_map.mp ho
        obtain ⟨v, u, _, eu, _⟩ := has p hp
        rw [eu]; rfl
      rw [ek] at t1
      have lw := al.len
      rw [List.length_map] at lw
      refine ⟨E2, _, rfl, .inl ⟨SqL.of hE4, fun p1 hp1 => ⟨small (by show 3 ≤ _; decide), fun p2 hp2 => q _ _ (((s13.trans s4).trans (same_new hp1)).trans (same_new hp2)) ?_⟩⟩⟩
      rw [fa2.2 _ t1]
      show Dt K _ _ (Tm.node r.nm ks).d
      unfold Tm.d
      rw [Tm.ds_map]
      rw [seqO_iff.mp ek] at al
      exact Dt.mk3 hp2 (.str _) (.str _) (.tup (SqT.of upd_same) ((dt_some al).same (same_new hp1)))
  rintro σ H1 ⟨o3, o4, o5, o6, rfl, s1, fn⟩
  rw [lrs, List.take_length] at fn
  exact q H1 _ s1 (by rw [fn]; rfl)
end
end PK
namespace PK
open PySem L2
/-! the first source of a part -/
def rNonIn (K : PySem.W.Frag) : R2 := fun x y H Q => ∃ ds, x = .non ∧ Dp K H y (.list ds) ∧ (PyData.list ds).canLay0 = true ∧ Q (.bl (ds.any fun z => PyData.eqv z .none)) H
theorem op_nonIn {X : Cx} (hu : X.A.units + 2 < cLine) : OpR X (compareOp .In) (rNonIn X.K) := by
  intro pins s σ H x y v u Q I rx ry h
  obtain ⟨ds, rfl, he, se, q⟩ := h
  obtain ⟨as, r1⟩ := Dp.reads I .none .non v .non rx
  obtain ⟨bs, r2⟩ := Dp.reads I (.list ds) y u he ry
  exact SeqAt.in_list_reads r2 r1 se rfl (by show X.A.units + 1 + min _ 0 < cLine; rw [Nat.min_zero]; omega) ⟨.bl _, H, I, rfl, q⟩
theorem nonU {k : Nat} {A : Around} (hr : Room k A) : A.units + 2 < cLine := by have := hr.un; omega
def rootS : Tm → Str
  | .node c _ => c
  | _ => ""
def byR (R : List Rw) (c : Str) : List Rw := R.filter fun r => decide (rootS r.t = c)
/-- the rows by the roots of their templates -/
def BR (K : PySem.W.Frag) (H : Hp) (kvs : List (Key × V)) (R : List Rw) : Prop := ∀ c, (byR R c = [] → valV kvs (Sum.inr c) = none) ∧ (byR R c ≠ [] → ∃ la rs, valV kvs (Sum.inr c) = some (.ref la) ∧ H la = some (.lst rs) ∧ DtAll K H rs ((byR R c).map Rw.d))
theorem BR.same {K : PySem.W.Frag} {H H' : Hp} {kvs : List (Key × V)} {R : List Rw} (h : BR K H kvs R) (s : Same H H') : BR K H' kvs R := fun c => ⟨(h c).1, fun z => by
  obtain ⟨la, rs, h1, h2, h3⟩ := (h c).2 z
  exact ⟨la, rs, h1, s _ _ h2, h3.same s⟩⟩
theorem find_byR {S : Tm → Option Tm} {c : Str} {ts : List Tm} : ∀ {R : List Rw}, (∀ r ∈ R, ∃ c' ks, r.t = .node c' ks) → R.findSome? (try1 S (.node c ts)) = (byR R c).findSome? (try1 S (.node c ts))
  | [], _ => rfl
  | r :: R, h => by
    have ih := find_byR (S := S) (c := c) (ts := ts) (R := R) fun x hx => h x (List.mem_cons_of_mem _ hx)
    obtain ⟨c', ks, e⟩ := h r List.mem_cons_self
    unfold byR at ih ⊢
    by_cases ec : rootS r.t = c
    · rw [List.filter_cons_of_pos (by simpa using ec), List.findSome?_cons, List.findSome?_cons, ih]
    · rw [List.filter_cons_of_neg (by simpa using ec), List.findSome?_cons, ih]
      have : try1 S (.node c ts) r = none := by
        unfold try1
        rw [e, mch_no fun ks' z => ec (by cases z; rw [e]; rfl)]; rfl
      rw [this]
theorem src_kids {hs : Hds} {R : List Rw} (ok : RowsOk hs R) {t : Tm} (tt : TT hs [] t) (hn : ∀ c ts, t ≠ .node c ts) : src R t = (seqO (t.kids.map (src R))).map t.withKids := by
  rw [src_eq ok]
  cases t with
  | node c ts => exact absurd rfl (hn c ts)
  | form f ts => exact tt.at_.elim
  | var x => exact absurd tt.at_.1 List.not_mem_nil
  | map es =>
    show (seqO (es.map fun e => src R e.2)).map _ = (seqO ((es.map Prod.snd).map (src R))).map _
    rw [List.map_map]; rfl
  | _ => rfl
theorem tm_tup (t : Tm) : ∃ ds, t.d = .tuple ds := by cases t <;> (unfold Tm.d; exact ⟨_, rfl⟩)
def oD : Option Tm → PyData
  | none => .none
  | some u => u.d
theorem od_any : ∀ l : List (Option Tm), ((l.map oD).any fun z => PyData.eqv z .none) = (seqO l).isNone
  | [] => rfl
  | none :: l => rfl
  | some a :: l => by
    rw [List.map_cons, List.any_cons, od_any l, seqO_cons]
    obtain ⟨ds, e⟩ := tm_tup a
    rw [show PyData.eqv (oD (some a)) .none = false by show PyData.eqv a.d .none = false; rw [e]; rfl]
    cases seqO l <;> rfl
theorem vok_dp {K : PySem.W.Frag} {H : Hp} : ∀ {vs : List V} {l : List (Option Tm)}, All2 (VOk K H) vs l → DpAll K H vs (l.map oD)
  | [], [], _ => .nil
  | v :: vs, o :: l, ⟨a, b⟩ => by
    refine .cons ?_ (vok_dp b)
    cases o with
    | none => rw [show v = .non from a]; exact .non
    | some u => exact Dt.dp _ _ a
def spFs (K : PySem.W.Frag) : Sp := fun vs H Q _ => ∃ (bd il m : Addr) (pw : V) (iv : List V) (kvs : List (Key × V)) (t : Tm) (hs : Hds) (R : List Rw), vs = [.ref bd, pw, .ref il] ∧ H bd = some (.dK kvs) ∧ BR K H kvs R ∧ RwsOk hs R ∧ HdOk hs ∧ R.length ≤ 100 ∧ Dt K H pw t.d ∧ H il = some (.lst iv) ∧ TRs K H R m iv t.kids ∧ TT hs [] t ∧ t.ht ≤ 60 ∧
  ∀ (H' : Hp) (v : V), Same H H' → VOk K H' v (src R t) → Q v H'
section
variable {P : Program} {w : World} {K : PySem.W.Frag} {mg : Str → Option Value} {base : Heap} {aF : Addr}
abbrev s_first_source : Stmt := topS 7
theorem sc_first_source : FnScope ["by_root", "part", "inner", "sources", "_", "source"] ["by_root", "part", "inner"] (defScope s_first_source) := ⟨rfl, rfl, rfl, by decide +kernel, rfl, by decide +kernel, by decide +kernel⟩
-- slots: 0:by_root 1:part 2:inner 3:sources 4:_(comp) 5:source(comp)
theorem ok_fs {f : Addr} {fd : FuncData} (F : Fun K "_first_source" "_first_source" s_first_source f fd) (T : TxtZ K mg aF) (C_first_source_of_node : C8.Cal P w K mg base 2 "_first_source_of_node" (spFn K) []) (C_rebuild : C8.Cal P w K mg base 1 "rebuild" (spRebuild K) []) : FnOk P w K mg base CX0 3 f fd ["by_root", "part", "inner"] (spFs K) := by
  refine F.ok sc_first_source (fun vs H Q E h => ?_) (fun cdv A outer s H vs Q E hr h => ?_)
  · obtain ⟨_, _, _, _, _, _, _, _, _, rfl, _⟩ := h
    rfl
  obtain ⟨bd, il, m, pw, iv, kvs, t, hs, R, rfl, hbd, br, rok, hok, hl, hp, hil, trs, tt, hht, q⟩ := h
  refine ⟨_, (pss_cons (ps_if (pt_cmpR op_eq (pe_ix ix_tup (pv 1) pe_int (fun _ _ => rfl)) pe_str (nomark _)) (pss_one (ps_ret (C8.pe_c C_first_source_of_node hr (by decide) rfl (pa_cons (pe_dget2 (hu_of hr) (pv 0) (pe_ix ix_tup (pv 1) pe_int (fun _ _ => rfl)) (pe_lst pa_nil) ⟨by rfl, by rfl, by rfl, by rfl⟩) (pa_cons (pv 1) (pa_cons (pv 2) pa_nil)))))) pss_nil)
    (pss_cons (ps_setLc (i := 3) (own := [("_", 4), ("_", 4), ("source", 5)]) (g := (gTup K 3 (gCons (gName 4) (gCons (gName 4) (gCons (gName 5) gNil))))) (tt := tYes) (by rfl) sc_first_source.nd rfl rfl (sw_true rfl rfl rfl (by decide +kernel)) (pi_list (pv 2)) (blkOk_by (N := ["by_root", "part", "inner", "sources", "_", "source"]) (sc := defScope s_first_source) (by decide +kernel)) (fun _ _ _ _ _ => (pg_tup (by rfl) (pgs_cons (pg_name (i := 4) sc_first_source.nd rfl (Or.inl rfl)) (pgs_cons (pg_name (i := 4) sc_first_source.nd rfl (Or.inl rfl)) (pgs_cons (pg_name (i := 5) sc_first_source.nd rfl (Or.inl rfl)) pgs_nil))))) (fun _ _ _ _ _ => pts_nil) (fun _ _ _ _ _ => (pv 5)))
    (pss_one (ps_ret (pe_ifExp (pt_cmpR (op_nonIn (nonU hr)) pe_non (pv 3) rfl) pe_non (C8.pe_c C_rebuild hr (by decide) rfl (pa_cons (pv 1) (pa_cons (pv 3) pa_nil)))))))), ?_⟩
  have nfT : ∀ f ts, t ≠ .form f ts := fun f ts e => by rw [e] at tt; exact tt.at_.elim
  obtain ⟨a, g, r, rfl, hsq, alt⟩ := tm_hd hp nfT
  refine vTx rfl hsq (atI_nat (j := 0) rfl) ⟨rfl, _, rfl, ?_⟩
  rcases alt with ⟨rfl, c, ts, rfl⟩ | ⟨hg, hn⟩
  · have hp0 := hp
    unfold Tm.d at hp
    obtain ⟨a', x, y, z, e, hsq, h1, h2, h3⟩ := Dt.t3 hp
    cases e
    obtain rfl := h1.s
    obtain rfl := h2.s
    have nds : ∀ r ∈ R, ∃ c' ks, r.t = .node c' ks := fun r hr => (rok.ok.2 r hr).nd
    have lb : ∀ r ∈ byR R c, r ∈ R := fun r hr => (List.mem_filter.mp hr).1
    have okb : ∀ r ∈ byR R c, TplOk hs r.ps r.t ∧ r.t.size ≤ 24 ∧ r.ps.length ≤ 3 := fun r hr => ⟨rok.ok.2 r (lb r hr), (rok.b r (lb r hr)).1, rok.hd.ar _ (List.mem_map.mpr ⟨r, lb r hr, rfl⟩)⟩
    have sq : src R (.node c ts) = (byR R c).findSome? (try1 (src R) (.node c ts)) := by
      rw [src_eq rok.ok]
      exact find_byR nds
    refine sT rfl ⟨_, rfl, bd, rfl, .inl ⟨_, .inl hbd⟩, vTx rfl hsq rfl ⟨small (by show 0 ≤ _; decide), fun e0 he0 => ?_⟩⟩
    have s1 := same_new (o := .lst []) he0
    refine ⟨_, DGet.k (k := Sum.inr c) (s1 _ _ hbd), _, rfl, _, rfl, ?_⟩
    have go : ∀ (la : Addr) (rs : List V), (upd H e0 (.lst [])) la = some (.lst rs) → DtAll K (upd H e0 (.lst [])) rs ((byR R c).map Rw.d) → spFn K [.ref la, .ref a, .ref il] (upd H e0 (.lst [])) Q C8.E0 := fun la rs hla drs =>
      ⟨la, il, m, .ref a, rs, iv, .node c ts, hs, R, byR R c, rfl, hla, drs, okb, hp0.same s1, s1 _ _ hil, trs.same s1, hok, tt, hht, fun H' v s v' => q H' v (s1.trans s) (by rw [sq]; exact v')⟩
    by_cases eb : byR R c = []
    · rw [(br c).1 eb]
      exact go e0 [] upd_same (by rw [eb]; exact .nil)
    · obtain ⟨la, rs, h1, h2, h3⟩ := (br c).2 eb
      rw [h1]
      exact go la rs (s1 _ _ h2) (h3.same s1)
  · refine sF hg ?_
    have liv : iv.length = t.kids.length := trs.len
    have l3 : t.kids.length ≤ 3 := tt.len
    refine ⟨_, rfl, il, rfl, ⟨_, SqL.of hil⟩, fun D hD => lc_it (walk_list (K := K) (xs := iv)) (fun i H' => ∃ ws : List V, Same H H' ∧ H' D = some (.lst ws) ∧ All2 (VOk K H') ws ((t.kids.take i).map (src R))) ?_ ?_ ?_ ?_⟩
    · exact ⟨[], same_new hD, upd_same, trivial⟩
    · rintro i H' _ ⟨_, s, _⟩
      exact SqL.of (s _ _ hil)
    · rintro i x H1 H1 hi ⟨ws, s1, hD1, al⟩ ⟨rfl, gx⟩
      obtain ⟨k, gk, tr⟩ := trs.get gx
      cases tr with
      | mk q1 q2 q3 q4 q5 q6 =>
        refine ⟨_, _, rfl, Same.seqT s1 q1, rfl, _, _, rfl, _, _, rfl, _, _, rfl, rfl, rfl, _, rfl, ?_⟩
        have lw := al.len
        rw [List.length_map, List.length_take] at lw
        refine ⟨ws, hD1, smallL (by omega), ws ++ [_], Same.upd s1 hD, upd_same, ?_⟩
        rw [List.take_add_one, gk, List.map_append]
        exact All2.snoc ((q6.mono fun v d z => z.same s1).mono fun v d z => Dt.mono (fun _ _ y => seqT_upd y hD1) _ _ z) (al.mono fun v d z => z.mono fun v d z => Dt.mono (fun _ _ y => seqT_upd y hD1) _ _ z)
    rintro H1 ⟨ws, s1, hD1, al⟩
    rw [liv, List.take_length] at al
    have lw := al.len
    rw [List.length_map] at lw
    have lay : (PyData.list ((t.kids.map (src R)).map oD)).canLay0 = true := lay_all fun d hd => by
      obtain ⟨o, ho, rfl⟩ := List.mem_map.mp hd
      cases o with
      | none => rfl
      | some u =>
        obtain ⟨k, hk, e⟩ := List.mem_map.mp ho
        exact (src_back hok rok.ok rok.hd k.ht k u (Nat.le_refl _) (tt.kid hk) e).2.2.lay
    refine ⟨_, rfl, _, rfl, .lst (SqL.of hD1) (vok_dp al), lay, _, rfl, ?_⟩
    rw [od_any]
    have es := src_kids rok.ok tt hn
    cases e : seqO (t.kids.map (src R)) with
    | none =>
      rw [e] at es
      exact iteT (q H1 _ s1 (by rw [es]; rfl))
    | some ks =>
      rw [e] at es
      rw [seqO_iff.mp e] at al
      have lk : ks.length = t.kids.length := by have := congrArg List.length (seqO_iff.mp e); rw [List.length_map, List.length_map] at this; exact this.symm
      refine iteF ⟨_, rfl, _, rfl, .ref a, t, D, ws, ks, rfl, hp.same s1, SqL.of hD1, dt_some al, lk, by omega, fun H2 v2 s2 d2 => q H2 v2 (s1.trans s2) (by rw [es]; exact d2)⟩
end
end PK
namespace PK
open PySem L2
/-! the first source of a term -/
theorem cut_drop (xs : List V) (i : Nat) (h : i ≤ xs.length) : cutV xs (some (i : Int)) none = xs.drop i := by
  unfold cutV
  have e : HT.sIx xs.length 0 (some (i : Int)) = i := by
    rw [HT.sIx_nat]; omega
  rw [e, HT.sIx_none, List.take_of_length_le (by rw [List.length_drop]; omega)]
structure OffL (f : Addr) (H H' : Hp) : Prop where
  a : ∃ k, H f = some (.lst k)
  keep : ∀ b o, b ≠ f → H b = some o → H' b = some o
section
variable {f : Addr} {K : PySem.W.Frag} {H H1 H2 : Hp}
theorem OffL.seqT {a : Addr} {xs : List V} (x : OffL f H H1) (h : SqT K H a xs) : SqT K H1 a xs := by
  obtain ⟨k, hk⟩ := x.a
  have nl : ∀ {o : HO}, H a = some o → (∀ y, o ≠ .lst y) → a ≠ f := fun e d z => by
    rw [z, hk] at e; cases e; exact d _ rfl
  rcases h with (h | ⟨o, h⟩) | h
  · exact .inl (.inl (x.keep _ _ (nl h (fun _ => HO.noConfusion)) h))
  · exact .inl (.inr ⟨o, x.keep _ _ (nl h (fun _ => HO.noConfusion)) h⟩)
  · exact .inr h
end
/-- the stack of the walk that parts_of does -/
def popS (ts : List Tm) : List Tm := ts.dropLast ++ (match ts.getLast? with | some k => k.kids.reverse | none => [])
def stk (t : Tm) : Nat → List Tm
  | 0 => [t]
  | n + 1 => popS (stk t n)
theorem popS_snoc (r : List Tm) (k : Tm) : popS (r ++ [k]) = r ++ k.kids.reverse := by
  unfold popS
  rw [List.dropLast_concat, List.getLast?_append]; rfl
theorem stk_todo (t : Tm) : ∀ j, j ≤ t.parts.length → todo (stk t j) = t.parts.drop j
  | 0, _ => by rw [show stk t 0 = [t] from rfl, todo_one, List.drop_zero]
  | j + 1, h => by
    have ih := stk_todo t j (by omega)
    show todo (popS (stk t j)) = _
    rcases List.eq_nil_or_concat (stk t j) with e | ⟨r, k, e⟩
    · rw [e, todo_nil] at ih
      have := congrArg List.length ih
      rw [List.length_drop, List.length_nil] at this
      omega
    · rw [List.concat_eq_append] at e
      rw [e, popS_snoc]
      rw [e, todo_snoc] at ih
      have := congrArg List.tail ih
      rw [List.tail_drop] at this
      exact this
theorem stk_at (t : Tm) {j : Nat} {k : Tm} (h : t.parts[j]? = some k) : ∃ r, stk t j = r ++ [k] ∧ stk t (j + 1) = r ++ k.kids.reverse := by
  obtain ⟨hj, e⟩ := List.getElem?_eq_some_iff.mp h
  have ih := stk_todo t j (by omega)
  rcases List.eq_nil_or_concat (stk t j) with e2 | ⟨r, k', e2⟩
  · rw [e2, todo_nil] at ih
    have := congrArg List.length ih
    rw [List.length_drop, List.length_nil] at this
    omega
  · rw [List.concat_eq_append] at e2
    rw [e2, todo_snoc, List.drop_eq_getElem_cons hj, e] at ih
    obtain rfl : k' = k := (List.cons.inj ih).1
    exact ⟨r, e2, by show popS (stk t j) = _; rw [e2, popS_snoc]⟩
theorem stk_end (t : Tm) : stk t t.parts.length = [] := by
  have := stk_todo t t.parts.length (Nat.le_refl _)
  rw [List.drop_length] at this
  rcases List.eq_nil_or_concat (stk t t.parts.length) with e | ⟨r, k, e⟩
  · exact e
  · rw [List.concat_eq_append] at e
    rw [e, todo_snoc] at this
    cases this
theorem stk_len (t : Tm) {j : Nat} (h : j ≤ t.parts.length) : (stk t j).length ≤ t.parts.length := by
  have h1 := stk_todo t j h
  have h2 : ∀ ts : List Tm, ts.length ≤ (todo ts).length := fun ts => by
    unfold todo
    rw [List.length_flatten, List.map_map]
    have : ∀ l : List Tm, l.length ≤ (l.map (List.length ∘ Tm.parts)).sum := fun l => by
      induction l with
      | nil => exact Nat.zero_le _
      | cons a l ih =>
        rw [List.map_cons, List.sum_cons, List.length_cons]
        have : 1 ≤ (List.length ∘ Tm.parts) a := by
          show 1 ≤ a.parts.length
          rw [Tm.parts_len]; exact a.size_pos
        omega
    have := this ts.reverse
    rw [List.length_reverse] at this
    exact this
  have := h2 (stk t j)
  rw [h1, List.length_drop] at this
  omega
section
variable {K : PySem.W.Frag} {H H' : Hp} {R : List Rw} {m : Addr}
theorem TRs.split : ∀ {vs : List V} {r q : List Tm}, TRs K H R m vs (r ++ q) → ∃ us ws, vs = us ++ ws ∧ TRs K H R m us r ∧ TRs K H R m ws q
  | vs, [], _, h => ⟨[], vs, rfl, .nil, h⟩
  | _, t :: r, q, h => by
    cases h with
    | cons a b =>
      obtain ⟨us, ws, e, h1, h2⟩ := TRs.split (r := r) b
      exact ⟨_ :: us, ws, by rw [e]; rfl, .cons a h1, h2⟩
theorem TRs.app : ∀ {vs ws : List V} {r q : List Tm}, TRs K H R m vs r → TRs K H R m ws q → TRs K H R m (vs ++ ws) (r ++ q)
  | _, _, _, _, .nil, h => h
  | _, _, _, _, .cons a b, h => .cons a (b.app h)
theorem TRs.rev : ∀ {vs : List V} {r : List Tm}, TRs K H R m vs r → TRs K H R m vs.reverse r.reverse
  | _, _, .nil => .nil
  | _, _, .cons a b => by
    rw [List.reverse_cons, List.reverse_cons]
    exact b.rev.app (.cons a .nil)
end
theorem byR_snoc {R : List Rw} {i : Nat} {r : Rw} (e : R[i]? = some r) (c : Str) : byR (R.take (i + 1)) c = byR (R.take i) c ++ (if rootS r.t = c then [r] else []) := by
  unfold byR
  rw [List.take_add_one, e, List.filter_append]
  by_cases h : rootS r.t = c <;> simp [h]
def spSo (K : PySem.W.Frag) : Sp := fun vs H Q _ => ∃ (rv v : V) (hs : Hds) (R : List Rw) (t : Tm), vs = [rv, v] ∧ Dt K H rv (.tuple (R.map Rw.d)) ∧ RwsOk hs R ∧ HdOk hs ∧ R.length ≤ 100 ∧ Dt K H v t.d ∧ TT hs [] t ∧ t.ht ≤ 60 ∧ t.size ≤ 1000 ∧
  ∀ (H' : Hp) (v' : V), Same H H' → VOk K H' v' (src R t) → Q v' H'
section
variable {P : Program} {w : World} {K : PySem.W.Frag} {mg : Str → Option Value} {base : Heap} {aF : Addr}
abbrev s_source_of : Stmt := topS 6
theorem sc_source_of : FnScope ["rows", "term", "by_root", "row", "made", "part", "start", "inner"] ["rows", "term"] (defScope s_source_of) := ⟨rfl, rfl, rfl, by decide +kernel, rfl, by decide +kernel, by decide +kernel⟩
-- slots: 0:rows 1:term 2:by_root 3:row 4:made 5:part 6:start 7:inner
theorem ok_so {f : Addr} {fd : FuncData} (F : Fun K "source_of" "source_of" s_source_of f fd) (T : TxtZ K mg aF) (C_first_source : C8.Cal P w K mg base 3 "_first_source" (spFs K) []) (C_children : C8.Cal P w K mg base 1 "children" (spKids K) []) (C_parts_of : PKL.CalGE P w K mg base 2 "parts_of" (spPg K)) : FnOk P w K mg base CX0 6 f fd ["rows", "term"] (spSo K) := by
  refine F.ok sc_source_of (fun vs H Q E h => ?_) (fun cdv A outer s H vs Q E hr h => ?_)
  · obtain ⟨_, _, _, _, _, rfl, _⟩ := h
    rfl
  obtain ⟨rv, v, hs, R, t, rfl, drv, rok, hok, hl, hv, tt, hht, hsz, q⟩ := h
  refine ⟨_, (pss_cons (ps_set (i := 2) sc_source_of.nd rfl (Or.inl rfl) pe_dnewK)
    (pss_cons (ps_for PassesOwn.never rfl (pi_tup (pv 0)) (pg_name (i := 3) sc_source_of.nd rfl (Or.inl rfl)) (pss_one (ps_expr (pe_bm PySem.F.plainAttrs_list PySem.F.slot_list_append PySem.F.type_list_append mt_append (pe_dsetd (pv 2) (pe_ix ix_tup (pe_ix ix_tup (pv 3) pe_int (fun _ _ => rfl)) pe_int (fun _ _ => rfl)) (pe_lst pa_nil) ⟨by rfl, by rfl, by rfl, by rfl⟩) (pa_cons (pv 3) pa_nil)))))
    (pss_cons (ps_set (i := 4) sc_source_of.nd rfl (Or.inl rfl) (pe_lst pa_nil))
    (pss_cons (ps_for PassesOwn.never rfl (pi_list (pe_revL (PKL.pe_listOf C_parts_of hr (by decide) rfl (pa_cons (pv 1) pa_nil) (by rfl) T.z_list (by decide +kernel)))) (pg_name (i := 5) sc_source_of.nd rfl (Or.inl rfl)) (pss_cons (ps_set (i := 6) sc_source_of.nd rfl (Or.inl rfl) (pe_op op_sub (pe_callB call_len_seq (by rfl) T.z_len (by decide +kernel) (pa_cons (pv 4) pa_nil)) (pe_callB call_len_seq (by rfl) T.z_len (by decide +kernel) (pa_cons (C8.pe_c C_children hr (by decide) rfl (pa_cons (pv 5) pa_nil)) pa_nil))))
    (pss_cons (ps_set (i := 7) sc_source_of.nd rfl (Or.inl rfl) (pe_revL (pe_slice sl_list (pv 4) (po_some (pv 6)) po_none)))
    (pss_cons (L2.PKR.ps_delFrom (pv 4) (pv 6))
    (pss_one (ps_expr (pe_bm PySem.F.plainAttrs_list PySem.F.slot_list_append PySem.F.type_list_append mt_append (pv 4) (pa_cons (pe_tup (pa_cons (pv 5) (pa_cons (pv 7) (pa_cons (C8.pe_c C_first_source hr (by decide) rfl (pa_cons (pv 2) (pa_cons (pv 5) (pa_cons (pv 7) pa_nil)))) pa_nil)))) pa_nil))))))))
    (pss_one (ps_ret (pe_ix ix_tup (pe_ix ix_list (pv 4) pe_int (fun _ _ => rfl)) pe_int (fun _ _ => rfl)))))))), ?_⟩
  obtain ⟨ra, rw_, rfl, hra, dra⟩ := Dt.tn drv
  have lrw : rw_.length = R.length := by rw [dra.lenD, List.length_map]
  refine fun bd hbd => ?_
  have s0 := same_new (o := .dK []) hbd
  refine ⟨_, rfl, ra, rfl, ⟨_, Same.seqT s0 hra⟩, for_it (walk_tup (K := K) (xs := rw_)) (fun i σ H' => ∃ (o3 : Option V) (kvs : List (Key × V)), σ = [some (.ref ra), some v, some (.ref bd), o3, none, none, none, none] ∧ Same H H' ∧ H' bd = some (.dK kvs) ∧ BR K H' kvs (R.take i) ∧ kvs.length ≤ i ∧ (∀ c la, valV kvs (Sum.inr c) = some (.ref la) → H la = none ∧ la ≠ bd ∧ H' la ≠ none) ∧ (∀ c c' la, valV kvs (Sum.inr c) = some (.ref la) → valV kvs (Sum.inr c') = some (.ref la) → c = c')) ?_ ?_ ?_ ?_⟩
  · exact ⟨_, [], rfl, s0, upd_same, fun c => ⟨fun _ => rfl, fun h => absurd rfl h⟩, Nat.le_refl _, (fun c la e => nomatch e), (fun c c' la e => nomatch e)⟩
  · rintro i σ H' _ ⟨_, _, _, s, _⟩
    exact Same.seqT s hra
  · rintro i x σ H1 H1 hi ⟨o3, kvs, rfl, s1, hbd1, br, lk, fr, inj⟩ ⟨rfl, gx⟩
    obtain ⟨dd, gd, dx⟩ := dra.getX gx
    rw [List.getElem?_map] at gd
    cases e0 : R[i]? with
    | none => rw [e0] at gd; cases gd
    | some r =>
    rw [e0] at gd
    cases gd
    have hr' := List.mem_of_getElem? e0
    obtain ⟨c0, ks0, ec⟩ := (rok.ok.2 r hr').nd
    have hroot : rootS r.t = c0 := by rw [ec]; rfl
    have bs := byR_snoc e0
    have dx0 := dx.same s1
    have dx1 := dx0
    unfold Rw.d at dx1
    obtain ⟨b, x1, y1, z1, rfl, hb, g1, g2, g3⟩ := Dt.t3 dx1
    rw [ec] at g3
    unfold Tm.d at g3
    obtain ⟨b2, x2, y2, z2, rfl, hb2, k1, k2, k3⟩ := Dt.t3 g3
    obtain rfl := k2.s
    refine ⟨_, rfl, bd, rfl, .inl ⟨_, .inl hbd1⟩, vTx rfl hb rfl ⟨b2, _, 1, _, rfl, rfl, hb2, rfl, small (by show 0 ≤ _; decide), fun e0' he0 => ?_⟩⟩
    have s2 := same_new (o := .lst []) he0
    have hbd2 := s2 _ _ hbd1
    have he2 : (upd H1 e0' (.lst [])) e0' = some (.lst []) := upd_same
    have br2 := br.same s2
    have dx2 := dx0.same s2
    have nbe : bd ≠ e0' := ne_of_none hbd1 he0
    have nH : H e0' = none := by
      cases e : H e0' with
      | none => rfl
      | some o => rw [s1 _ _ e] at he0; cases he0
    have fr2 : ∀ c la, valV kvs (Sum.inr c) = some (.ref la) → H la = none ∧ la ≠ bd ∧ (upd H1 e0' (.lst [])) la ≠ none ∧ la ≠ e0' := fun c la h => by
      obtain ⟨f1, f2, f3⟩ := fr c la h
      refine ⟨f1, f2, fun z => f3 ?_, fun z => f3 (by rw [z]; exact he0)⟩
      by_cases c : la = e0'
      · rw [c]; exact he0
      · rw [upd_ne c] at z; exact z
    have s12 := s1.trans s2
    generalize upd H1 e0' (.lst []) = H2 at s2 hbd2 he2 br2 dx2 fr2 s12 ⊢
    refine ⟨kvs, Sum.inr c0, hbd2, rfl, smallL (by omega), fun v1 ev => ?_, fun ev => ?_⟩
    · by_cases eb : byR (R.take i) c0 = []
      · rw [(br2 c0).1 eb] at ev; cases ev
      obtain ⟨la, rs, h1, h2, h3⟩ := (br2 c0).2 eb
      rw [h1] at ev
      cases ev
      have lrs : rs.length ≤ 100 := by
        rw [h3.lenD, List.length_map]
        refine Nat.le_trans (List.length_filter_le _ _) ?_
        rw [List.length_take]; omega
      obtain ⟨f1, f2, f3, f4⟩ := fr2 c0 la h1
      refine ⟨.inl ⟨rfl, _, SqL.of h2⟩, _, rfl, la, rs, .ref b, rfl, rfl, h2, smallL (by omega), ?_⟩
      have up : ∀ v d, Dt K H2 v d → Dt K (upd H2 la (.lst (rs ++ [.ref b]))) v d := fun v d z => Dt.mono (fun _ _ y => seqT_upd y h2) _ _ z
      refine ⟨_, kvs, rfl, Same.upd s12 f1, by rw [upd_ne f2.symm]; exact hbd2, fun c => ?_, by omega, fun c la' h => ?_, inj⟩
      · rw [bs c, hroot]
        by_cases ecc : c0 = c
        · subst ecc
          rw [if_pos rfl]
          refine ⟨fun z => absurd z (by simp), fun _ => ⟨la, rs ++ [.ref b], h1, upd_same, ?_⟩⟩
          rw [List.map_append]
          exact DtAll.mono (fun _ _ y => seqT_upd y h2) _ _ (h3.append (.cons dx2 .nil))
        · rw [if_neg ecc, List.append_nil]
          refine ⟨(br2 c).1, fun z => ?_⟩
          obtain ⟨la', rs', g1, g2, g3⟩ := (br2 c).2 z
          have nl : la' ≠ la := fun z => ecc (inj _ _ _ h1 (by rw [g1, z]))
          exact ⟨la', rs', g1, by rw [upd_ne nl]; exact g2, DtAll.mono (fun _ _ y => seqT_upd y h2) _ _ g3⟩
      · obtain ⟨f1', f2', f3', _⟩ := fr2 c la' h
        refine ⟨f1', f2', fun z => ?_⟩
        by_cases cc : la' = la
        · rw [cc, upd_same] at z; cases z
        · rw [upd_ne cc] at z; exact f3' z
    · have eb : byR (R.take i) c0 = [] := by
        by_cases eb : byR (R.take i) c0 = []
        · exact eb
        · obtain ⟨la, rs, h1, _⟩ := (br2 c0).2 eb
          rw [h1] at ev; cases ev
      have he3 : (upd H2 bd (.dK (putK kvs (Sum.inr c0) (.ref e0')))) e0' = some (.lst []) := by rw [upd_ne nbe.symm]; exact he2
      have up3 : ∀ a xs, SqT K H2 a xs → SqT K (upd (upd H2 bd (.dK (putK kvs (Sum.inr c0) (.ref e0')))) e0' (.lst [.ref b])) a xs := fun a xs y => seqT_upd (seqT_updK y hbd2) he3
      have lz := length_putK kvs (Sum.inr c0) (V.ref e0')
      have vv : ∀ c la, valV (putK kvs (Sum.inr c0) (V.ref e0')) (Sum.inr c) = some (.ref la) → (c = c0 ∧ la = e0') ∨ (c ≠ c0 ∧ valV kvs (Sum.inr c) = some (.ref la)) := fun c la h => by
        rw [valV_put] at h
        by_cases cc : (Sum.inr c : Key) = Sum.inr c0
        · rw [if_pos cc] at h
          cases h
          exact .inl ⟨Sum.inr.inj cc, rfl⟩
        · rw [if_neg cc] at h
          exact .inr ⟨fun z => cc (by rw [z]), h⟩
      refine ⟨.inl ⟨rfl, _, SqL.of he3⟩, _, rfl, e0', [], .ref b, rfl, rfl, he3, smallL (by show 0 < _; decide), ?_⟩
      refine ⟨_, putK kvs (Sum.inr c0) (.ref e0'), rfl, Same.upd (Same.upd s12 hbd) nH, by rw [upd_ne nbe]; exact upd_same, fun c => ?_, by omega, fun c la' h => ?_, fun c c' la h h' => ?_⟩
      · rw [bs c, hroot, valV_put]
        by_cases ecc : c0 = c
        · subst ecc
          rw [if_pos rfl, if_pos rfl, eb]
          exact ⟨fun z => absurd z (by simp), fun _ => ⟨e0', [.ref b], rfl, upd_same, .cons (Dt.mono up3 _ _ dx2) .nil⟩⟩
        · rw [if_neg ecc, List.append_nil, if_neg (fun z => ecc (Sum.inr.inj z).symm)]
          refine ⟨(br2 c).1, fun z => ?_⟩
          obtain ⟨la', rs', g1, g2, g3⟩ := (br2 c).2 z
          obtain ⟨f1', f2', f3', f4'⟩ := fr2 c la' g1
          exact ⟨la', rs', g1, by rw [upd_ne f4', upd_ne f2']; exact g2, DtAll.mono up3 _ _ g3⟩
      · rcases vv c la' h with ⟨_, rfl⟩ | ⟨_, h⟩
        · exact ⟨nH, nbe.symm, by rw [upd_same]; exact fun z => nomatch z⟩
        · obtain ⟨f1', f2', f3', f4'⟩ := fr2 c la' h
          exact ⟨f1', f2', by rw [upd_ne f4', upd_ne f2']; exact f3'⟩
      · rcases vv c la h with ⟨rfl, rfl⟩ | ⟨_, h1⟩
        · rcases vv c' la h' with ⟨rfl, _⟩ | ⟨_, h2⟩
          · rfl
          · exact absurd rfl (fr2 c' la h2).2.2.2
        · rcases vv c' la h' with ⟨rfl, rfl⟩ | ⟨_, h2⟩
          · exact absurd rfl (fr2 c la h1).2.2.2
          · exact inj _ _ _ h1 h2
  rintro σ H1 ⟨o3, kvs, rfl, s1, hbd1, br, _, _, _⟩
  rw [lrw, List.take_length] at br
  clear s0
  refine ⟨small (by show 0 ≤ _; decide), fun ma hma => ?_⟩
  have s2 := s1.trans (same_new (o := .lst []) hma)
  refine ⟨_, rfl, v, t, rfl, hv.same s2, by omega, fun H2 ws s3 dws p1 hp1 => ⟨p1, ws, rfl, SqL.of upd_same, fun pl hpl => ?_⟩⟩
  have lws : ws.length = t.parts.length := by rw [dws.lenD, List.length_map]
  have s4 := (same_new (o := .lst ws) hp1).trans (same_new (o := .lst ws.reverse) hpl)
  have hma5 := s4 _ _ (s3 _ _ (upd_same (H := H1) (a := ma) (o := .lst [])))
  have hpl5 : (upd (upd H2 p1 (.lst ws)) pl (.lst ws.reverse)) pl = some (.lst ws.reverse) := upd_same
  have s15 : Same H1 (upd (upd H2 p1 (.lst ws)) pl (.lst ws.reverse)) := ((same_new (o := .lst []) hma).trans s3).trans s4
  have dws5 := dws.same s4
  have npm : pl ≠ ma := fun e => by rw [e, same_new (o := .lst ws) hp1 _ _ (s3 _ _ (upd_same (H := H1) (a := ma) (o := .lst [])))] at hpl; cases hpl
  generalize upd (upd H2 p1 (.lst ws)) pl (.lst ws.reverse) = H5 at hma5 hpl5 s15 dws5 ⊢
  have sB : ∀ H', OffL ma H5 H' → Same H1 H' := fun H' o b u h => o.keep b u (ne_of_none h hma) (s15 _ _ h)
  refine ⟨pl, rfl, ⟨_, SqL.of hpl5⟩, for_it (walk_list (K := K) (xs := ws.reverse)) (fun i σ H' => ∃ (o5 o6 o7 : Option V) (xs : List V), σ = [some (.ref ra), some v, some (.ref bd), o3, some (.ref ma), o5, o6, o7] ∧ OffL ma H5 H' ∧ H' ma = some (.lst xs) ∧ TRs K H' R ma xs (stk t (t.parts.length - i))) ?_ ?_ ?_ ?_⟩
  · refine ⟨_, _, _, [], rfl, ⟨⟨_, hma5⟩, fun _ _ _ h => h⟩, hma5, ?_⟩
    rw [Nat.sub_zero, stk_end]
    exact .nil
  · rintro i σ H' _ ⟨_, _, _, _, _, o, _⟩
    exact SqL.of (o.keep _ _ npm hpl5)
  · rintro i x σ H6 H6 hi ⟨o5, o6, o7, xs, rfl, o1, hma6, trs⟩ ⟨rfl, gx⟩
    rw [List.length_reverse] at hi
    obtain ⟨j, ej⟩ : ∃ j, t.parts.length - i = j + 1 := ⟨t.parts.length - i - 1, by omega⟩
    have ej2 : t.parts.length - (i + 1) = j := by omega
    rw [List.getElem?_reverse hi, show ws.length - 1 - i = j by omega] at gx
    obtain ⟨dd, gd, dx⟩ := dws5.getX gx
    rw [List.getElem?_map] at gd
    cases e0 : t.parts[j]? with
    | none => rw [e0] at gd; cases gd
    | some k =>
    rw [e0] at gd
    cases gd
    obtain ⟨r, e1, e2⟩ := stk_at t e0
    rw [ej, e2] at trs
    obtain ⟨us, zs, rfl, tu, tz⟩ := trs.split
    have lu := tu.len
    have lz := tz.len
    rw [List.length_reverse] at lz
    have hk := List.mem_of_getElem? e0
    have tk : TT hs [] k := al_parts tt hk
    have hkt := parts_ht hk
    have l3 : k.kids.length ≤ 3 := tk.len
    have lr : r.length ≤ 1000 := by
      have := stk_len t (j := j) (by omega)
      rw [e1, List.length_append, Tm.parts_len] at this
      omega
    have dx6 : Dt K H6 x k.d := Dt.mono (fun _ _ y => o1.seqT y) _ _ dx
    refine ⟨_, rfl, ma, _, rfl, .inl (SqL.of hma6), _, rfl, x, k, rfl, dx6, by omega, fun H7 p7 ys7 s7 hp7 dy7 => ⟨p7, ys7, rfl, .inr hp7, ?_⟩⟩
    have ly : ys7.length = k.kids.length := by rw [dy7.lenD, List.length_map]
    have hma7 := s7 _ _ hma6
    refine ⟨_, _, rfl, rfl, ?_⟩
    have es : (((us ++ zs).length : Nat) : Int) - ((ys7.length : Nat) : Int) = ((us.length : Nat) : Int) := by rw [List.length_append]; omega
    dsimp only
    rw [es]
    refine ⟨_, rfl, _, rfl, _, rfl, ma, _, rfl, SqL.of hma7, fun p8 hp8 => ⟨p8, _, rfl, SqL.of upd_same, fun p9 hp9 => ?_⟩⟩
    rw [cut_drop _ _ (by rw [List.length_append]; omega), List.drop_left] at hp9 ⊢
    have s9 := (same_new (o := .lst zs) hp8).trans (same_new (o := .lst zs.reverse) hp9)
    have hma9 := s9 _ _ hma7
    have hp99 : (upd (upd H7 p8 (.lst zs)) p9 (.lst zs.reverse)) p9 = some (.lst zs.reverse) := upd_same
    have n9 : p9 ≠ ma := fun e => by rw [e, same_new (o := .lst zs) hp8 _ _ hma7] at hp9; cases hp9
    generalize upd (upd H7 p8 (.lst zs)) p9 (.lst zs.reverse) = H9 at s9 hma9 hp99 ⊢
    have s69 := s7.trans s9
    refine ⟨_, rfl, _, rfl, ma, _, us.length, rfl, rfl, hma9, by rw [List.length_append]; omega, ?_⟩
    rw [List.take_left]
    have o69 : OffL ma H6 (upd H9 ma (.lst us)) := ⟨⟨_, hma6⟩, fun b o n h => by rw [upd_ne n]; exact s69 _ _ h⟩
    have o510 : OffL ma H5 (upd H9 ma (.lst us)) := ⟨⟨_, hma5⟩, fun b o n h => o69.keep _ _ n (o1.keep _ _ n h)⟩
    have hma10 : (upd H9 ma (.lst us)) ma = some (.lst us) := upd_same
    have hp10 : (upd H9 ma (.lst us)) p9 = some (.lst zs.reverse) := by rw [upd_ne n9]; exact hp99
    generalize upd H9 ma (.lst us) = H10 at o69 o510 hma10 hp10 ⊢
    have tz10 : TRs K H10 R ma zs.reverse k.kids := by
      have := (tz.mono (fun a xs y => o69.seqT y) fun a xs n h => o69.keep _ _ n h).rev
      rw [List.reverse_reverse] at this
      exact this
    have s110 := sB _ o510
    have dx10 : Dt K H10 x k.d := Dt.mono (fun _ _ y => o69.seqT y) _ _ dx6
    refine ⟨_, rfl, .inl ⟨rfl, _, SqL.of hma10⟩, _, rfl, _, rfl, _, rfl, _, rfl, _, rfl, ?_⟩
    refine ⟨bd, p9, ma, x, zs.reverse, kvs, k, hs, R, rfl, s110 _ _ hbd1, br.same s110, rok, hok, hl, dx10, hp10, tz10, tk, by omega, fun H11 v11 s11 vo => ⟨small (by show 3 ≤ _; decide), fun p12 hp12 => ?_⟩⟩
    have s12 := s11.trans (same_new (o := .tup [x, .ref p9, v11]) hp12)
    have hma12 := s12 _ _ hma10
    refine ⟨ma, us, .ref p12, rfl, rfl, hma12, smallL (by omega), ?_⟩
    have oF : ∀ {Ha : Hp}, OffL ma Ha H10 → OffL ma Ha (upd (upd H11 p12 (.tup [x, .ref p9, v11])) ma (.lst (us ++ [.ref p12]))) := fun o => ⟨o.a, fun b u n h => by rw [upd_ne n]; exact s12 _ _ (o.keep _ _ n h)⟩
    have o10 := oF ⟨⟨_, hma10⟩, fun _ _ _ h => h⟩
    have o6 := oF o69
    refine ⟨_, _, _, us ++ [.ref p12], rfl, oF o510, upd_same, ?_⟩
    rw [ej2, e1]
    refine (tu.mono (fun a xs y => o6.seqT y) fun a xs n h => o6.keep _ _ n h).app (.cons (.mk (seqT_upd (SqT.of upd_same) hma12) (Dt.mono (fun _ _ y => o10.seqT y) _ _ dx10) (o10.keep _ _ n9 hp10) n9 (tz10.mono (fun a xs y => o10.seqT y) fun a xs n h => o10.keep _ _ n h) ?_) .nil)
    exact vo.mono fun v d z => Dt.mono (fun _ _ y => seqT_upd y hma12) _ _ (z.same (same_new (o := .tup [x, .ref p9, v11]) hp12))
  rintro σ H6 ⟨o5, o6, o7, xs, rfl, o1, hma6, trs⟩
  rw [List.length_reverse, lws, Nat.sub_self] at trs
  cases trs with
  | cons a b =>
  cases b
  cases a with
  | mk q1 q2 q3 q4 q5 q6 =>
    exact ⟨_, rfl, ma, _, 0, _, rfl, rfl, SqL.of hma6, rfl, _, _, 2, _, rfl, rfl, q1, rfl, q H6 _ (s1.trans (sB _ o1)) q6⟩
end
end PK
namespace PK
open PySem L2
/-! terms with a part changed -/
def spPt (K : PySem.W.Frag) : Sp := fun vs H Q _ => ∃ (v : V) (t : Tm) (hs : Hds), vs = [v] ∧ Dt K H v t.d ∧ TT hs [] t ∧ ∀ (H' : Hp) (p : Addr) (ws : List V), Same H H' → H p = none → H' p = some (.lst ws) → DtAll K H' ws (t.kids.map Tm.d) → Q (.ref p) H'
def spChg (K : PySem.W.Frag) (n : Nat) : Sp := fun vs H Q _ => ∃ (l c : Addr) (v ov : V) (t o : Tm) (hs : Hds), vs = [.ref l, v, ov] ∧ Pool H l c ∧ Dt K H v t.d ∧ Dt K H ov o.d ∧ TT hs [] t ∧ TT hs [] o ∧ t.ht ≤ n ∧
  ∀ (H' : Hp) (v' : V) (t' : Tm), Ext l c H H' → Dt K H' v' t'.d → TT hs [] t' → t'.ht ≤ t.ht + o.ht → t'.size ≤ t.size + o.size → Q v' H'
theorem DtAll.set {K : PySem.W.Frag} {H : Hp} {v : V} {d : PyData} (h : Dt K H v d) : ∀ {vs : List V} {ds : List PyData} (k : Nat), DtAll K H vs ds → DtAll K H (vs.set k v) (ds.set k d)
  | _, _, _, .nil => .nil
  | _, _, 0, .cons _ b => .cons h b
  | _, _, k + 1, .cons a b => .cons a (DtAll.set h k b)
theorem zip_fst' : ∀ {es : List (Str × Tm)} {ks : List Tm}, ks.length = es.length → List.zipWith (fun (e : Str × Tm) (k : Tm) => (Prod.fst ((e.1, k) : Str × Tm))) es ks = es.map Prod.fst
  | [], _, _ => rfl
  | e :: es, [], h => nomatch h
  | e :: es, k :: ks, h => by rw [List.zipWith_cons_cons, zip_fst' (Nat.succ.inj h), List.map_cons]
theorem sum_set (g : Tm → Nat) : ∀ (l : List Tm) (k : Nat) (h : k < l.length) (t : Tm), ((l.set k t).map g).sum + g l[k] = (l.map g).sum + g t
  | x :: l, 0, _, t => by
    show g t + (l.map g).sum + g x = g x + (l.map g).sum + g t
    omega
  | x :: l, k + 1, h, t => by
    have ih := sum_set g l k (Nat.lt_of_succ_lt_succ h) t
    have hl : k < l.length := Nat.lt_of_succ_lt_succ h
    show g x + ((l.set k t).map g).sum + g (l[k]'hl) = g x + (l.map g).sum + g t
    omega
section
variable {P : Program} {w : World} {K : PySem.W.Frag} {mg : Str → Option Value} {base : Heap}
abbrev s_law_parts : Stmt := topS 16
theorem sc_law_parts : FnScope ["term", "entry"] ["term"] (defScope s_law_parts) := ⟨rfl, rfl, rfl, by decide +kernel, rfl, by decide +kernel, by decide +kernel⟩
-- slots: 0:term 1:entry(comp)
abbrev s_law_changed : Stmt := topS 30
theorem sc_law_changed : FnScope ["pool", "term", "other", "parts", "at", "k"] ["pool", "term", "other"] (defScope s_law_changed) := ⟨rfl, rfl, rfl, by decide +kernel, rfl, by decide +kernel, by decide +kernel⟩
-- slots: 0:pool 1:term(cell) 2:other 3:parts(cell) 4:at 5:k(comp)
theorem ok_pts {f : Addr} {fd : FuncData} (F : Fun K "_law_parts" "_law_parts" s_law_parts f fd) (T : Txt K mg) : FnOk P w K mg base CX0 1 f fd ["term"] (spPt K) := by
  refine F.ok sc_law_parts (fun vs H Q E h => ?_) (fun cdv A outer s H vs Q E hr h => ?_)
  · obtain ⟨_, _, _, rfl, _⟩ := h
    rfl
  obtain ⟨v, t, hs, rfl, hv, tt, q⟩ := h
  refine ⟨_, (pss_cons (ps_if (pt_cmpR op_eq (pe_ix ix_tup (pv 0) pe_int (fun _ _ => rfl)) pe_str (nomark _)) (pss_one (ps_ret (pe_callTy call_list_of (by rfl) T.z_list (by decide +kernel) (pa_cons (pe_ix ix_tup (pv 0) pe_int (fun _ _ => rfl)) pa_nil)))) pss_nil)
    (pss_cons (ps_if (pt_cmpR op_eq (pe_ix ix_tup (pv 0) pe_int (fun _ _ => rfl)) pe_str (nomark _)) (pss_one (ps_ret (pe_lc (own := [("entry", 1)]) (g := (gName 1)) (tt := tYes) (by rfl) sc_law_parts.nd (pi_tup (pe_ix ix_tup (pv 0) pe_int (fun _ _ => rfl))) (blkOk_by (N := ["term", "entry"]) (sc := defScope s_law_parts) (by decide +kernel)) (fun _ _ _ _ _ => (pg_name (i := 1) sc_law_parts.nd rfl (Or.inl rfl))) (fun _ _ _ _ _ => pts_nil) (fun _ _ _ _ _ => (pe_ix (r := rIxT K) ix_tup (pv 1) pe_int (fun _ _ => rfl)))))) pss_nil)
    (pss_one (ps_ret (pe_lst pa_nil))))), ?_⟩
  cases t with
  | form f ts => exact tt.at_.elim
  | var x => exact absurd tt.at_.1 List.not_mem_nil
  | node c ts =>
    unfold Tm.d at hv
    obtain ⟨a, x, y, z, rfl, hsq, h1, h2, h3⟩ := Dt.t3 hv
    obtain rfl := h1.s
    obtain ⟨b, ys, rfl, hb, hys⟩ := Dt.tn h3
    rw [Tm.ds_map] at hys
    refine vTx rfl hsq rfl ⟨rfl, _, rfl, sT rfl (vTx rfl hsq rfl ⟨b, ys, rfl, .inr hb, fun p hp => q _ p ys (same_new hp) hp upd_same (hys.same (same_new hp))⟩)⟩
  | map es =>
    unfold Tm.d at hv
    obtain ⟨a, x, y, rfl, hsq, h1, h2⟩ := Dt.t2 hv
    obtain rfl := h1.s
    obtain ⟨b, ys, rfl, hb, hys⟩ := Dt.tn h2
    rw [Tm.es_map] at hys
    have ly : ys.length = es.length := by rw [hys.lenD, List.length_map]
    have lk : es.length ≤ 3 := tt.at_.1
    refine vTx rfl hsq rfl ⟨rfl, _, rfl, sF (by decide +kernel) (vTx rfl hsq rfl ⟨rfl, _, rfl, sT rfl (vTx rfl hsq rfl ⟨b, rfl, ⟨_, hb⟩, fun D hD => lcS (K := K) (walk_tup (xs := ys)) hD (by omega) (fun ds => ds = ((es.take ds.length).map fun e => e.2.d)) rfl (fun H' s => Same.seqT s hb) ?_ ?_⟩)⟩)⟩
    · rintro i x H1 H1 ds R' hi s1 ⟨rfl, gx⟩ jd len r'
      obtain ⟨d, gd, dx⟩ := DtAll.getX hys gx
      rw [List.getElem?_map] at gd
      cases e0 : es[i]? with
      | none => rw [e0] at gd; cases gd
      | some k =>
      rw [e0] at gd
      cases gd
      unfold Tm.ent at dx
      obtain ⟨a3, x3, y3, rfl, hs3, h31, h32⟩ := Dt.t2 (dx.same s1)
      refine ⟨rfl, vTx rfl hs3 rfl (r' k.2.d _ _ (Same.refl H1) h32 ?_)⟩
      rw [List.length_append, len, show i + [k.2.d].length = i + 1 from rfl, List.take_add_one, e0, List.map_append]
      rw [len] at jd
      rw [← jd]; rfl
    rintro H1 ws ds s1 hws da len jd
    rw [len, ly, List.take_length] at jd
    rw [jd] at da
    refine q H1 D ws s1 hD hws ?_
    show DtAll K H1 ws ((es.map Prod.snd).map Tm.d)
    rw [List.map_map]; exact da
  | int m =>
    unfold Tm.d at hv
    obtain ⟨a, x, y, rfl, hsq, h1, h2⟩ := Dt.t2 hv
    obtain rfl := h1.s
    exact vTx rfl hsq rfl ⟨rfl, _, rfl, sF (by decide +kernel) (vTx rfl hsq rfl ⟨rfl, _, rfl, sF (by decide +kernel) ⟨small (by show 0 ≤ _; decide), fun p hp => q _ p [] (same_new hp) hp upd_same .nil⟩⟩)⟩
  | name m =>
    unfold Tm.d at hv
    obtain ⟨a, x, y, rfl, hsq, h1, h2⟩ := Dt.t2 hv
    obtain rfl := h1.s
    exact vTx rfl hsq rfl ⟨rfl, _, rfl, sF (by decide +kernel) (vTx rfl hsq rfl ⟨rfl, _, rfl, sF (by decide +kernel) ⟨small (by show 0 ≤ _; decide), fun p hp => q _ p [] (same_new hp) hp upd_same .nil⟩⟩)⟩
  | addr m =>
    unfold Tm.d at hv
    obtain ⟨a, x, y, rfl, hsq, h1, h2⟩ := Dt.t2 hv
    obtain rfl := h1.s
    exact vTx rfl hsq rfl ⟨rfl, _, rfl, sF (by decide +kernel) (vTx rfl hsq rfl ⟨rfl, _, rfl, sF (by decide +kernel) ⟨small (by show 0 ≤ _; decide), fun p hp => q _ p [] (same_new hp) hp upd_same .nil⟩⟩)⟩
theorem ok_chg {n : Nat} {f : Addr} {fd : FuncData} (F : Fun K "_law_changed" "_law_changed" s_law_changed f fd) (T : Txt K mg) (C_law_take : C8.Cal P w K mg base 2 "_law_take" (spTake 2) []) (C_law_parts : C8.Cal P w K mg base 1 "_law_parts" (spPt K) []) (C_law_changed : C8.Cal P w K mg base (n + 2) "_law_changed" (spChg K n) []) :
    FnOk P w K mg base CX0 (n + 3) f fd ["pool", "term", "other"] (spChg K (n + 1)) := by
  refine F.ok sc_law_changed (fun vs H Q E h => ?_) (fun cdv A outer s H vs Q E hr h => ?_)
  · obtain ⟨_, _, _, _, _, _, _, rfl, _⟩ := h
    rfl
  obtain ⟨l, c, v, ov, t, o, hs, rfl, P0, hv, ho, tt, to, hh, q⟩ := h
  refine ⟨_, (pss_cons (ps_set (i := 3) sc_law_changed.nd rfl (Or.inr rfl) (C8.pe_c C_law_parts hr (by omega) rfl (pa_cons (pv 1) pa_nil)))
    (C8.pss_cut (ps_if (PW.pt (pw_or (pt_not (pt_truth (pv 3) (by intro _; rfl))) (pw_or1 (pt_cmpR op_eq (C8.pe_c C_law_take hr (by omega) rfl (pa_cons (pv 0) (pa_cons pe_int pa_nil))) pe_int (nomark _))))) (pss_one (ps_ret (pv 2))) pss_nil)
    (pss_cons (ps_set (i := 4) sc_law_changed.nd rfl (Or.inl rfl) (C8.pe_c C_law_take hr (by omega) rfl (pa_cons (pv 0) (pa_cons (pe_callB call_len_seq (by rfl) T.z_len (by decide +kernel) (pa_cons (pv 3) pa_nil)) pa_nil))))
    (pss_cons (ps_asg (C8.pe_c C_law_changed hr (by omega) rfl (pa_cons (pv 0) (pa_cons (pe_ix ix_list (pv 3) (pv 4) (fun _ _ => rfl)) (pa_cons (pv 2) pa_nil)))) (pg_sub (pv 3) (pv 4) set_list))
    (pss_cons (ps_if (pt_cmpR op_eq (pe_ix ix_tup (pv 1) pe_int (fun _ _ => rfl)) pe_str (nomark _)) (pss_one (ps_ret (pe_tup (pa_cons pe_str (pa_cons (pe_ix ix_tup (pv 1) pe_int (fun _ _ => rfl)) (pa_cons (pe_callTy call_tuple_of (by rfl) T.z_tuple (by decide +kernel) (pa_cons (pv 3) pa_nil)) pa_nil)))))) pss_nil)
    (pss_one (ps_ret (pe_tup (pa_cons pe_str (pa_cons (pe_callTy call_tuple_of (by rfl) T.z_tuple (by decide +kernel) (pa_cons (pe_lc (own := [("k", 5)]) (g := (gName 5)) (tt := tYes) (by rfl) sc_law_changed.nd (pi_range1 (by rfl) T.z_range (pa_cons (pe_callB call_len_seq (by rfl) T.z_len (by decide +kernel) (pa_cons (pv 3) pa_nil)) pa_nil)) (blkOk_by (N := ["pool", "term", "other", "parts", "at", "k"]) (sc := defScope s_law_changed) (by decide +kernel)) (fun _ _ _ _ _ => (pg_name (i := 5) sc_law_changed.nd rfl (Or.inl rfl))) (fun _ _ _ _ _ => pts_nil) (fun _ _ _ _ _ => (pe_tup (pa_cons (pe_ix (r := rIxT K) ix_tup (pe_ix (r := rIxT K) ix_tup (pe_ix (r := rIxT K) ix_tup (pv 1) pe_int (fun _ _ => rfl)) (pv 5) (fun _ _ => rfl)) pe_int (fun _ _ => rfl)) (pa_cons (pe_ix (r := rIxL K) ix_list (pv 3) (pv 5) (fun _ _ => rfl)) pa_nil))))) pa_nil)) pa_nil)))))))))), ?_⟩
  refine ⟨_, rfl, v, t, hs, rfl, hv, tt, fun H1 pa ws s1 hpa0 hpa dws => ?_⟩
  have lws : ws.length = t.kids.length := by rw [dws.lenD, List.length_map]
  have l3 : t.kids.length ≤ 3 := tt.len
  have opos := o.ht_pos
  have tpos := t.ht_pos
  have x1 := (Ext.refl P0).same s1
  have npa := P0.ne hpa0
  have other : ∀ H', Ext l c H H' → Q ov H' := fun H' x => q H' ov o x (ho.ext P0 x) to (by omega) (by have := t.size_pos; omega)
  refine ⟨fun σ H' => σ = [some (.ref l), some v, some ov, some (.ref pa), none, none] ∧ Ext l c H1 H' ∧ H' pa = some (.lst ws) ∧ 0 < ws.length, ?_, ?_⟩
  · refine ⟨_, rfl, !ws.isEmpty, .inl ⟨ws, SqL.of hpa, rfl⟩, ?_⟩
    cases ws with
    | nil => exact iteT ⟨_, rfl, other _ x1⟩
    | cons w0 ws =>
      refine vTake rfl x1.pool (by decide) (by decide) fun k H2 k0 k1 x2 => ⟨rfl, _, rfl, ite2 (fun _ => ?_) (fun _ => ?_)⟩
      · exact ⟨_, rfl, other _ (x1.trans x2)⟩
      · exact ⟨rfl, x2, x2.keep _ _ npa.1 hpa, Nat.succ_pos _⟩
  rintro σ H2 ⟨rfl, x2, hpa2, pos⟩
  refine ⟨_, rfl, _, rfl, pa, _, rfl, .inl (SqL.of hpa2), l, c, _, False, rfl, x2.pool, by omega, by omega, .inl (Nat.le_refl 2), fun e H3 e0 e1 x3 => ?_⟩
  obtain ⟨k, rfl⟩ : ∃ k : Nat, e = k := ⟨e.toNat, by omega⟩
  have hk : k < ws.length := by omega
  have hkt : k < t.kids.length := by omega
  have x13 := (x1.trans x2).trans x3
  have x23 := x2.trans x3
  have hpa3 := x3.keep _ _ npa.1 hpa2
  have gk : ws[k]? = some ws[k] := List.getElem?_eq_getElem hk
  have dw : Dt K H1 ws[k] t.kids[k].d := by
    obtain ⟨d, gd, dx⟩ := dws.getX gk
    rw [List.getElem?_map, List.getElem?_eq_getElem hkt] at gd
    cases gd
    exact dx
  have hm : t.kids[k] ∈ t.kids := List.getElem_mem hkt
  have hkt2 := Tm.ht_kid hm
  refine ⟨_, rfl, _, rfl, _, rfl, pa, _, _, ws[k], rfl, rfl, SqL.of hpa3, atI_nat gk, _, rfl, ?_⟩
  refine ⟨l, c, ws[k], ov, t.kids[k], o, hs, rfl, x3.pool, dw.ext x1.pool x23, ho.ext P0 x13, tt.kid hm, to, by omega, fun H4 v4 t4 x4 d4 tt4 ht4 sz4 => ?_⟩
  have hpa4 := x4.keep _ _ npa.1 hpa3
  refine ⟨_, rfl, _, rfl, pa, ws, _, k, rfl, rfl, hpa4, ixN_of (by omega) (by omega), ?_⟩
  have x5 : Ext l c H (upd H4 pa (.lst (ws.set k v4))) := (x13.trans x4).upd P0 hpa0
  have hpa5 : (upd H4 pa (.lst (ws.set k v4))) pa = some (.lst (ws.set k v4)) := upd_same
  have dws5 : DtAll K (upd H4 pa (.lst (ws.set k v4))) (ws.set k v4) ((t.kids.set k t4).map Tm.d) := by
    rw [List.map_set]
    exact DtAll.mono (fun _ _ y => seqT_upd y hpa4) _ _ (DtAll.set d4 k (dws.ext x1.pool (x23.trans x4)))
  generalize upd H4 pa (.lst (ws.set k v4)) = H5 at x5 hpa5 dws5 ⊢
  -- what comes out
  have szs := sum_set Tm.size t.kids k hkt t4
  have e1 := Tm.size_eq t
  have hts : ∀ x ∈ t.kids.set k t4, x.ht ≤ t.ht - 1 + o.ht := fun x hx => by
    rcases List.mem_or_eq_of_mem_set hx with h | rfl
    · have := Tm.ht_kid h; omega
    · omega
  have lset : (t.kids.set k t4).length = t.kids.length := List.length_set
  have out : ∀ (H' : Hp) (v' : V) (t' : Tm), Ext l c H H' → Dt K H' v' t'.d → t'.kids = t.kids.set k t4 → tN hs [] t' → Q v' H' := fun H' v' t' x d ek tn => q H' v' t' x d (.mk tn fun y hy => by
      rw [ek] at hy
      rcases List.mem_or_eq_of_mem_set hy with h | rfl
      · exact tt.kid h
      · exact tt4) (by
      have := Tm.ht_le (t := t') (n := t.ht - 1 + o.ht) fun y hy => hts y (by rw [← ek]; exact hy)
      omega) (by
      have e2 := Tm.size_eq t'
      rw [ek] at e2
      omega)
  have hv5 := hv.ext P0 x5
  cases t with
  | form f ts => exact tt.at_.elim
  | var x => exact absurd tt.at_.1 List.not_mem_nil
  | int m => exact absurd hkt (Nat.not_lt_zero _)
  | name m => exact absurd hkt (Nat.not_lt_zero _)
  | addr m => exact absurd hkt (Nat.not_lt_zero _)
  | node cn ts =>
    unfold Tm.d at hv5
    obtain ⟨a, x, y, z, rfl, hsq, h1, h2, h3⟩ := Dt.t3 hv5
    obtain rfl := h1.s
    obtain rfl := h2.s
    refine vTx rfl hsq rfl ⟨rfl, _, rfl, sT rfl (vTx rfl hsq rfl ⟨_, rfl, pa, _, rfl, .inl ⟨SqL.of hpa5, fun p1 hp1 => ⟨small (by show 3 ≤ _; decide), fun p2 hp2 => ?_⟩⟩⟩)⟩
    have s6 := (same_new (o := .tup (ws.set k v4)) hp1).trans (same_new (o := .tup [.str "node", .str cn, .ref p1]) hp2)
    refine out _ _ (.node cn (ts.set k t4)) (x5.same s6) ?_ rfl ?_
    · unfold Tm.d
      rw [Tm.ds_map]
      exact Dt.mk3 hp2 (.str _) (.str _) (.tup (SqT.of upd_same) (dws5.same (same_new hp1)))
    · have := tt.at_
      exact ⟨by rw [List.length_set]; exact this.1, this.2.1, by rw [List.length_set]; exact this.2.2⟩
  | map es =>
    unfold Tm.d at hv5
    obtain ⟨a, x, y, rfl, hsq, h1, h2⟩ := Dt.t2 hv5
    obtain rfl := h1.s
    obtain ⟨b, ys, rfl, hb, hys⟩ := Dt.tn h2
    rw [Tm.es_map] at hys
    have ly : ys.length = es.length := by rw [hys.lenD, List.length_map]
    have le : (Tm.map es).kids.length = es.length := by show (es.map Prod.snd).length = _; rw [List.length_map]
    have lw5 : (ws.set k v4).length = es.length := by rw [List.length_set]; omega
    refine vTx rfl hsq rfl ⟨rfl, _, rfl, sF (by decide +kernel) ?_⟩
    refine ⟨_, rfl, pa, _, rfl, .inl (SqL.of hpa5), _, rfl, by omega, by omega, fun D hD => lcS (K := K) (walk_range (lo := 0) (n := (((ws.set k v4).length : Nat) : Int).toNat)) hD (by omega) (fun ds => ds = ((List.zipWith (fun (e : Str × Tm) k => (e.1, k)) es ((Tm.map es).kids.set k t4)).take ds.length).map Tm.ent) rfl (fun H' s => trivial) ?_ ?_⟩
    · rintro i x H6 H6' ds R' hi s6 hy jd len r'
      obtain ⟨rfl, rfl⟩ := hy
      have hi2 : i < es.length := by omega
      have e0 : (0 : Int) + (i : Int) = (i : Nat) := Int.zero_add _
      have g1 : es[i]? = some es[i] := List.getElem?_eq_getElem hi2
      have hi3 : i < ((Tm.map es).kids.set k t4).length := by rw [lset]; omega
      have g2 : ((Tm.map es).kids.set k t4)[i]? = some ((Tm.map es).kids.set k t4)[i] := List.getElem?_eq_getElem hi3
      obtain ⟨y1, gy, dy⟩ := DtAll.getD hys (show (es.map Tm.ent)[i]? = some (Tm.ent es[i]) by rw [List.getElem?_map, g1]; rfl)
      obtain ⟨w1, gw, dw1⟩ := DtAll.getD dws5 (show (((Tm.map es).kids.set k t4).map Tm.d)[i]? = some ((Tm.map es).kids.set k t4)[i].d by rw [List.getElem?_map, g2]; rfl)
      unfold Tm.ent at dy
      obtain ⟨a3, x3, y3, rfl, hs3, h31, h32⟩ := Dt.t2 (dy.same s6)
      obtain rfl := h31.s
      refine ⟨rfl, vTx rfl (Same.seqT s6 hsq) rfl ⟨_, rfl, b, ys, _, .ref a3, rfl, rfl, Same.seqT s6 hb, by rw [e0]; exact atI_nat gy, a3, _, 0, _, rfl, rfl, hs3, rfl, _, rfl, _, rfl, pa, _, _, w1, rfl, rfl, SqL.of (s6 _ _ hpa5), by rw [e0]; exact atI_nat gw, small (by show 2 ≤ _; decide), fun p hp => ?_⟩⟩
      refine r' (Tm.ent (es[i].1, ((Tm.map es).kids.set k t4)[i])) _ _ (same_new hp) (by unfold Tm.ent; exact Dt.mk2 hp (.str _) (dw1.same s6)) ?_
      have gz : (List.zipWith (fun (e : Str × Tm) k => (e.1, k)) es ((Tm.map es).kids.set k t4))[i]? = some (es[i].1, ((Tm.map es).kids.set k t4)[i]) := by
        rw [List.getElem?_zipWith, g1, g2]
      rw [List.length_append, len, show i + [Tm.ent (es[i].1, ((Tm.map es).kids.set k t4)[i])].length = i + 1 from rfl, List.take_add_one, gz, List.map_append]
      rw [len] at jd
      rw [← jd]; rfl
    rintro H6 us ds s6 hus da len jd
    have lz : (List.zipWith (fun (e : Str × Tm) k => (e.1, k)) es ((Tm.map es).kids.set k t4)).length = es.length := by rw [List.length_zipWith]; omega
    rw [List.take_of_length_le (by omega)] at jd
    rw [jd] at da
    refine ⟨D, _, rfl, .inl ⟨SqL.of hus, fun p1 hp1 => ⟨small (by show 2 ≤ _; decide), fun p2 hp2 => ?_⟩⟩⟩
    have s7 := s6.trans ((same_new (o := .tup us) hp1).trans (same_new (o := .tup [.str "map", .ref p1]) hp2))
    have ek : (List.zipWith (fun (e : Str × Tm) k => (e.1, k)) es ((Tm.map es).kids.set k t4)).map Prod.snd = (Tm.map es).kids.set k t4 := by
      rw [List.map_zipWith]
      exact zip_snd (by omega)
    have ef : (List.zipWith (fun (e : Str × Tm) k => (e.1, k)) es ((Tm.map es).kids.set k t4)).map Prod.fst = es.map Prod.fst := by
      rw [List.map_zipWith]
      exact zip_fst' (by omega)
    refine out _ _ (.map (List.zipWith (fun (e : Str × Tm) k => (e.1, k)) es ((Tm.map es).kids.set k t4))) (x5.same s7) ?_ ek ?_
    · unfold Tm.d
      rw [Tm.es_map]
      exact Dt.mk2 hp2 (.str _) (.tup (SqT.of upd_same) (da.same (same_new hp1)))
    · have tn := tt.at_
      refine ⟨by rw [lz]; exact tn.1, fun e he => ?_, by rw [ef]; exact tn.2.2⟩
      have : e.1 ∈ es.map Prod.fst := by rw [← ef]; exact List.mem_map.mpr ⟨e, he, rfl⟩
      obtain ⟨e', he', e2⟩ := List.mem_map.mp this
      rw [← e2]
      exact tn.2.1 e' he'
end
end PK
namespace PK
open PySem L2
/-! the law -/
def spLaw (K : PySem.W.Frag) : Sp := fun vs H Q _ => ∃ (a : Addr) (ns : List Int), vs = [.ref a] ∧ SqL K H a (ns.map V.int) ∧ ns.length ≤ 63 ∧ ∀ H', Q (.bl true) H'
/-- a term that is asked -/
def AskOk (hs : Hds) (x : Tm) : Prop := TT hs [] x ∧ x.size ≤ 1000 ∧ x.ht ≤ 40
theorem RwsOk.mono {hs hs' : Hds} {R : List Rw} (ok : RwsOk hs R) (h : ∀ x ∈ hs, x ∈ hs') : RwsOk hs' R := ⟨⟨ok.ok.1, fun r hr => by
  have t := ok.ok.2 r hr
  exact ⟨t.tt.mono h, t.nm, t.nd, t.once, t.one, t.wd⟩⟩, ok.b, ok.hd⟩
/-- one more head -/
theorem HdOk.snoc {hs : Hds} (ok : HdOk hs) {s : Str} (w : Wd s) (h : s ∉ hs.map Prod.fst) : HdOk (hs ++ [(s, 1)]) := by
  refine ⟨?_, fun x hx => ?_, fun x hx => ?_⟩
  · rw [List.map_append]
    refine List.nodup_append.mpr ⟨ok.nd, by simp, fun a ha b hb => ?_⟩
    rw [List.mem_singleton.mp (show b ∈ [s] from hb)]
    rintro rfl
    exact h ha
  · rcases List.mem_append.mp hx with hx | hx
    · exact ok.wd x hx
    · rw [List.mem_singleton.mp hx]; exact w
  · rcases List.mem_append.mp hx with hx | hx
    · exact ok.ar x hx
    · rw [List.mem_singleton.mp hx]; show 1 ≤ 3; decide
theorem src_strange {hs : Hds} {R : List Rw} (ok : RwsOk hs R) {s : Str} (h : s ∉ hs.map Prod.fst) (ts : List Tm) : src R (.node s ts) = none := by
  rw [src_eq ok.ok]
  show R.findSome? _ = none
  rw [List.findSome?_eq_none_iff]
  intro r hr
  have tok := ok.ok.2 r hr
  obtain ⟨c, ks, e⟩ := tok.nd
  unfold try1
  rw [e, mch_no fun ks' z => ?_]
  · rfl
  · cases z
    have tn := tok.tt.at_
    rw [e] at tn
    exact h (List.mem_map.mpr ⟨_, tn.1, rfl⟩)
section
variable {P : Program} {w : World} {K : PySem.W.Frag} {mg : Str → Option Value} {base : Heap} {aF : Addr}
abbrev s_law : Stmt := topS 31
theorem sc_law : FnScope ["script", "pool", "box", "rows", "taken", "strange", "asked", "k", "other", "term", "head", "word"] ["script"] (defScope s_law) := ⟨rfl, rfl, rfl, by decide +kernel, rfl, by decide +kernel, by decide +kernel⟩
-- slots: 0:script 1:pool 2:box 3:rows 4:taken(cell) 5:strange 6:asked 7:k 8:other 9:term 10:head(comp) 11:word(comp)
theorem ok_law {f : Addr} {fd : FuncData} (F : Fun K "law" "law" s_law f fd) (T : Txt K mg) (C_law_pool : C8.Cal P w K mg base 1 "_law_pool" (spPool K) []) (C_law_take : C8.Cal P w K mg base 2 "_law_take" (spTake 2) []) (C_law_words : C8.Cal P w K mg base 3 "_law_words" spWords []) (C_law_box : C8.Cal P w K mg base 11 "_law_box" (spBox K) []) (C_law_over : C8.Cal P w K mg base 8 "_law_over" (spOver K 5) []) (C_law_source : C8.Cal P w K mg base 9 "_law_source" (spSource K) [])
    (C_law_translate : C8.Cal P w K mg base 50 "_law_translate" (spTrl K 40) []) (C_law_changed : C8.Cal P w K mg base 42 "_law_changed" (spChg K 40) []) (C_law_origin : CalG P w K mg base 141 "_law_origin" (spOrigin K 60) []) (C_source_of : C8.Cal P w K mg base 6 "source_of" (spSo K) []) (C_law_same : C8.Cal P w K mg base 200 "_law_same" (spSame K 200) []) :
    FnG.FnG P w K mg base CX0 201 f fd ["script"] (spLaw K) := by
  refine FnG.of_body F sc_law (fun vs H Q E h => ?_) (fun cdv A gd outer s H vs Q E hr h => ?_)
  · obtain ⟨a, ns, rfl, _⟩ := h
    rfl
  obtain ⟨a, ns, rfl, ha, hn, q⟩ := h
  refine ⟨_, (pss_cons (ps_set (i := 1) sc_law.nd rfl (Or.inl rfl) (C8.pe_c C_law_pool hr (by decide) rfl (pa_cons (pv 0) pa_nil)))
    (pss_cons (ps_set (i := 2) sc_law.nd rfl (Or.inl rfl) (C8.pe_c C_law_box hr (by decide) rfl (pa_cons (pv 1) pa_nil)))
    (pss_cons (ps_set (i := 3) sc_law.nd rfl (Or.inl rfl) (pe_dget (hu_of hr) (pv 2) pe_str (fun _ _ => rfl)))
    (pss_cons (ps_set (i := 4) sc_law.nd rfl (Or.inr rfl) (pe_lc (own := [("head", 10)]) (g := (gName 10)) (tt := tYes) (by rfl) sc_law.nd (pi_list (pe_dget (hu_of hr) (pv 2) pe_str (fun _ _ => rfl))) (blkOk_by (N := ["script", "pool", "box", "rows", "taken", "strange", "asked", "k", "other", "term", "head", "word"]) (sc := defScope s_law) (by decide +kernel)) (fun _ _ _ _ _ => (pg_name (i := 10) sc_law.nd rfl (Or.inl rfl))) (fun _ _ _ _ _ => pts_nil) (fun _ _ _ _ _ => (pe_ix (r := rIxT K) ix_tup (pv 10) pe_int (fun _ _ => rfl)))))
    (pss_cons (ps_set (i := 5) sc_law.nd rfl (Or.inl rfl) (pe_ix ix_list (pe_lc (own := [("word", 11)]) (g := (gName 11)) (by rfl) sc_law.nd (pi_list (C8.pe_c C_law_words hr (by decide) rfl (pa_cons (pv 1) (pa_cons (pe_op op_add (pe_callB call_len_seq (by rfl) T.z_len (by decide +kernel) (pa_cons (pv 4) pa_nil)) pe_int) pa_nil)))) (blkOk_by (N := ["script", "pool", "box", "rows", "taken", "strange", "asked", "k", "other", "term", "head", "word"]) (sc := defScope s_law) (by decide +kernel)) (fun _ _ _ _ _ => (pg_name (i := 11) sc_law.nd rfl (Or.inl rfl))) (fun _ _ _ _ _ => pts_one (pt_cmpR (r := rIn K true) op_notIn_seq (pv 11) (pv 4) rfl)) (fun _ _ _ _ _ => (pv 11))) pe_int (fun _ _ => rfl)))
    (pss_cons (ps_set (i := 6) sc_law.nd rfl (Or.inl rfl) (pe_lst pa_nil))
    (pss_cons (ps_for (passes_of rfl) rfl (pi_range1 (by rfl) T.z_range (pa_cons pe_int pa_nil)) (pg_name (i := 7) sc_law.nd rfl (Or.inl rfl)) (pss_cons (ps_set (i := 8) sc_law.nd rfl (Or.inl rfl) (C8.pe_c C_law_over hr (by decide) rfl (pa_cons (pv 1) (pa_cons (pe_op op_cat (pe_dget (hu_of hr) (pv 2) pe_str (fun _ _ => rfl)) (pe_lst (pa_cons (pe_tup (pa_cons (pv 5) (pa_cons pe_int pa_nil))) pa_nil))) (pa_cons (pe_dget (hu_of hr) (pv 2) pe_str (fun _ _ => rfl)) (pa_cons pe_int pa_nil))))))
    (pss_cons (ps_set (i := 9) sc_law.nd rfl (Or.inl rfl) (C8.pe_c C_law_over hr (by decide) rfl (pa_cons (pv 1) (pa_cons (pe_dget (hu_of hr) (pv 2) pe_str (fun _ _ => rfl)) (pa_cons (pe_dget (hu_of hr) (pv 2) pe_str (fun _ _ => rfl)) (pa_cons pe_int pa_nil))))))
    (C8.pss_cut (ps_if (pt_cmpR op_eq (C8.pe_c C_law_take hr (by decide) rfl (pa_cons (pv 1) (pa_cons pe_int pa_nil))) pe_int (nomark _)) (pss_one (ps_set (i := 9) sc_law.nd rfl (Or.inl rfl) (C8.pe_c C_law_translate hr (by decide) rfl (pa_cons (pv 3) (pa_cons (C8.pe_c C_law_source hr (by decide) rfl (pa_cons (pv 1) (pa_cons (pv 2) (pa_cons pe_int pa_nil)))) pa_nil))))) pss_nil)
    (C8.pss_cut (ps_if (pt_cmpR op_gt (C8.pe_c C_law_take hr (by decide) rfl (pa_cons (pv 1) (pa_cons pe_int pa_nil))) pe_int (nomark _)) (pss_one (ps_set (i := 9) sc_law.nd rfl (Or.inl rfl) (C8.pe_c C_law_changed hr (by decide) rfl (pa_cons (pv 1) (pa_cons (pv 9) (pa_cons (pv 8) pa_nil)))))) pss_nil)
    (pss_one (ps_expr (pe_bm PySem.F.plainAttrs_list PySem.F.slot_list_append PySem.F.type_list_append mt_append (pv 6) (pa_cons (pv 9) pa_nil)))))))))
    (pss_cons (ps_if (pt_cmpR op_notN (C8.pe_c C_source_of hr (by decide) rfl (pa_cons (pv 3) (pa_cons (pe_tup (pa_cons pe_str (pa_cons (pv 5) (pa_cons (pe_tup (pa_cons (pe_tup (pa_cons pe_str (pa_cons pe_int pa_nil))) pa_nil)) pa_nil)))) pa_nil))) pe_non (nomark _)) (pss_one (ps_ret pe_bl)) pss_nil)
    (pss_cons (ps_for (passes_of rfl) rfl (pi_list (pe_op op_cat (pv 6) (pe_revL (pv 6)))) (pg_name (i := 9) sc_law.nd rfl (Or.inl rfl)) (pss_one (ps_if (pt_not (pt_val (C8.pe_c C_law_same hr (by decide) rfl (pa_cons (C8.pe_c C_source_of hr (by decide) rfl (pa_cons (pv 3) (pa_cons (pv 9) pa_nil))) (pa_cons (pe_cG C_law_origin gd hr (by decide) rfl (pa_cons (pv 3) (pa_cons (pv 9) (pa_cons pe_dnewK pa_nil)))) pa_nil))))) (pss_one (ps_ret pe_bl)) pss_nil)))
    (pss_one (ps_ret pe_bl))))))))))), ?_⟩
  refine ⟨_, rfl, a, ns, rfl, ha, hn, fun H0 l c s0 hl0 P0 => ?_⟩
  refine ⟨_, rfl, l, c, rfl, P0, fun H1 bx ph pn hs ws R x1 hbx0 B HS BR' rok lR2 lR6 lws ndw lhs => ?_⟩
  have hok : HdOk hs := HS.ok
  have P1 := x1.pool
  obtain ⟨kvs, rv, hbx, ena, erv, drv⟩ := BR'.at_
  obtain ⟨kvs', hbx', ehe, ena', _⟩ := B.at_
  rw [hbx] at hbx'
  cases hbx'
  have nbx := (show bx ≠ l from BR'.ne)
  obtain ⟨hv, hph, dh⟩ := B.hd
  have nph := (show ph ≠ l from B.nh)
  have lhv : hv.length = hs.length := by rw [dh.lenD, List.length_map]
  refine ⟨_, rfl, bx, rv, rfl, by rw [← erv]; exact DGet.k (k := Sum.inr "rows") hbx, ?_⟩
  refine ⟨_, rfl, bx, .ref ph, rfl, by rw [← ehe]; exact DGet.k (k := Sum.inr "heads") hbx, ph, rfl, ⟨_, SqL.of hph⟩, fun ta hta => lc_it (walk_list (K := K) (xs := hv)) (fun i H' => Same H1 H' ∧ H' ta = some (.lst ((hs.take i).map fun h => V.str h.1))) ?_ ?_ ?_ ?_⟩
  · exact ⟨same_new hta, upd_same⟩
  · rintro i H' _ ⟨s, _⟩
    exact SqL.of (s _ _ hph)
  · rintro i x H2 H2 hi ⟨s2, hta2⟩ ⟨rfl, gx⟩
    obtain ⟨dd, gd, dx⟩ := dh.getX gx
    rw [List.getElem?_map] at gd
    cases e0 : hs[i]? with
    | none => rw [e0] at gd; cases gd
    | some hd =>
    rw [e0] at gd
    cases gd
    unfold hdD at dx
    obtain ⟨b, y, z, rfl, hb, g1, g2⟩ := Dt.t2 dx
    obtain rfl := g1.s
    refine ⟨rfl, vTx rfl (Same.seqT s2 hb) rfl ?_⟩
    refine ⟨_, hta2, smallL (by rw [List.length_map, List.length_take]; omega), Same.upd s2 hta, ?_⟩
    rw [upd_same, List.take_add_one, e0, List.map_append]; rfl
  rintro H2 ⟨s2, hta2⟩
  rw [lhv, List.take_length] at hta2
  have x2 := (Ext.refl P1).same s2
  have nta := P1.ne hta
  -- a strange word
  refine ⟨_, rfl, _, rfl, ta, _, rfl, .inl (SqL.of hta2), ?_⟩
  refine ⟨_, _, rfl, rfl, l, c, hs.length + 1, ?_, x2.pool, by omega, fun H3 pw us x3 hpw0 hpw lus ndu wdu => ?_⟩
  · rw [List.length_map, Int.natCast_add]; rfl
  have hta3 := x3.keep _ _ nta.1 hta2
  refine ⟨pw, rfl, ⟨_, SqL.of hpw⟩, fun D hD => lc_it (walk_list (K := K) (xs := us.map V.str)) (fun i H' => Same H3 H' ∧ H' D = some (.lst (((us.take i).filter fun x => !decide (x ∈ hs.map Prod.fst)).map V.str))) ?_ ?_ ?_ ?_⟩
  · exact ⟨same_new hD, upd_same⟩
  · rintro i H' _ ⟨s, _⟩
    exact SqL.of (s _ _ hpw)
  · rintro i x H4 H4 hi ⟨s4, hD4⟩ ⟨rfl, gx⟩
    rw [List.length_map] at hi
    rw [List.getElem?_map, List.getElem?_eq_getElem hi] at gx
    cases gx
    refine ⟨rfl, _, rfl, _, rfl, ta, _, rfl, .inl (SqL.of (s4 _ _ hta3)), rfl, ?_, _, rfl, ?_⟩
    · rw [show (hs.map fun h => V.str h.1) = (hs.map Prod.fst).map V.str by rw [List.map_map]; rfl]
      exact flat_strs _
    rw [show (hs.map fun h => V.str h.1) = (hs.map Prod.fst).map V.str by rw [List.map_map]; rfl, inV_str]
    by_cases hm : us[i] ∈ hs.map Prod.fst
    · rw [decide_eq_true hm]
      refine iteF ⟨s4, ?_⟩
      rw [List.take_add_one, List.getElem?_eq_getElem hi, List.filter_append, hD4]
      simp [hm]
    · rw [decide_eq_false hm]
      refine iteT ⟨_, rfl, _, hD4, smallL (by have := List.length_filter_le (fun x => !decide (x ∈ hs.map Prod.fst)) (us.take i); rw [List.length_take] at this; rw [List.length_map]; omega), Same.upd s4 hD, ?_⟩
      rw [upd_same, List.take_add_one, List.getElem?_eq_getElem hi, List.filter_append]
      simp [hm]
  rintro H4 ⟨s4, hD4⟩
  rw [List.length_map, List.take_length] at hD4
  obtain ⟨st, zs, ez⟩ : ∃ st zs, (us.filter fun x => !decide (x ∈ hs.map Prod.fst)) = st :: zs := by
    cases e : us.filter fun x => !decide (x ∈ hs.map Prod.fst) with
    | cons a b => exact ⟨a, b, rfl⟩
    | nil =>
      have := nd_le (m := hs.map Prod.fst) ndu fun x hx => by
        have := List.filter_eq_nil_iff.mp e x hx
        simpa using this
      rw [List.length_map] at this
      omega
  rw [ez] at hD4
  have hst := List.mem_filter.mp (show st ∈ us.filter fun x => !decide (x ∈ hs.map Prod.fst) by rw [ez]; exact List.mem_cons_self)
  have nst : st ∉ hs.map Prod.fst := by simpa using hst.2
  have wst : Wd st := (wdu st hst.1).1
  refine ⟨D, _, 0, _, rfl, rfl, SqL.of hD4, atI_nat (j := 0) rfl, ?_⟩
  have hok' := hok.snoc wst nst
  have sub : ∀ x ∈ hs, x ∈ hs ++ [(st, 1)] := fun x hx => List.mem_append_left _ hx
  have rok' := rok.mono sub
  have x14 := ((x2.trans x3).same s4)
  have P4 := x14.pool
  have B4 := B.ext P1 x14
  have BR4 := BR'.ext P1 x14
  have drv4 := drv.ext P1 x14
  have hbx4 := x14.keep _ _ nbx hbx
  have hph4 := x14.keep _ _ nph hph
  have dh4 := dh.ext P1 x14
  have N4 := BR4.nm
  clear hta2 hta3 hta hD4
  refine ⟨small (by show 0 ≤ _; decide), fun pa hpa => ?_⟩
  have npa := P4.ne hpa
  have x5 := (Ext.refl P4).new (o := .lst []) P4 hpa
  refine ⟨_, rfl, by decide, by decide, for_range (lo := 0) (n := 5) (fun i σ H' => ∃ (o7 o8 o9 : Option V) (as : List Tm) (xs : List V), σ = [some (.ref a), some (.ref l), some (.ref bx), some rv, some (.ref ta), some (.str st), some (.ref pa), o7, o8, o9, none, none] ∧ Ext l c H4 H' ∧ H' pa = some (.lst xs) ∧ DtAll K H' xs (as.map Tm.d) ∧ as.length = i ∧ ∀ x ∈ as, AskOk (hs ++ [(st, 1)]) x) ?_ ?_ ?_⟩
  · exact ⟨_, _, _, [], [], rfl, x5, upd_same, .nil, rfl, fun x h => absurd h List.not_mem_nil⟩
  · rintro i σ H5 hi ⟨o7, o8, o9, as, xs, rfl, x6, hpa5, das, las, ok⟩
    have lxs : xs.length = as.length := by rw [das.lenD, List.length_map]
    -- the other term
    obtain ⟨kv5, hbx5, ehe5, ena5, _⟩ := (B4.ext P4 x6).at_
    obtain ⟨hv5, hph5, dh5⟩ := (B4.ext P4 x6).hd
    have N5 := N4.ext x6
    refine ⟨_, rfl, _, rfl, bx, .ref ph, rfl, by rw [← ehe5]; exact DGet.k (k := Sum.inr "heads") hbx5, _, rfl, small (by show 2 ≤ _; decide), fun p5 hp5 => ⟨small (by show 1 ≤ _; decide), fun p6 hp6 => ?_⟩⟩
    have lhv5 : hv5.length = hs.length := by rw [dh5.lenD, List.length_map]
    have s5 := same_new (o := .tup [.str st, .int 1]) hp5
    have s6 := same_new (o := .lst [.ref p5]) hp6
    refine ⟨ph, p6, hv5, [.ref p5], rfl, rfl, s6 _ _ (s5 _ _ hph5), upd_same, small (by show hv5.length + 1 ≤ _; omega), fun p7 hp7 => ?_⟩
    have s7 := same_new (o := .lst (hv5 ++ [.ref p5])) hp7
    have x7 := x6.same ((s5.trans s6).trans s7)
    have np7 := (x6.same (s5.trans s6)).pool.ne hp7
    have hbx7 := s7 _ _ (s6 _ _ (s5 _ _ hbx5))
    have dh7 : DtAll K (upd (upd (upd H5 p5 (.tup [.str st, .int 1])) p6 (.lst [.ref p5])) p7 (.lst (hv5 ++ [.ref p5]))) (hv5 ++ [.ref p5]) ((hs ++ [(st, 1)]).map hdD) := by
      rw [List.map_append]
      exact ((dh5.same ((s5.trans s6).trans s7)).append (.cons (Dt.same (Dt.mk2 hp5 (.str st) (.int 1)) (s6.trans s7)) .nil))
    have hpa7 := s7 _ _ (s6 _ _ (s5 _ _ hpa5))
    have das7 := das.same ((s5.trans s6).trans s7)
    have hp77 : (upd (upd (upd H5 p5 (.tup [.str st, .int 1])) p6 (.lst [.ref p5])) p7 (.lst (hv5 ++ [.ref p5]))) p7 = some (.lst (hv5 ++ [.ref p5])) := upd_same
    generalize upd (upd (upd H5 p5 (.tup [.str st, .int 1])) p6 (.lst [.ref p5])) p7 (.lst (hv5 ++ [.ref p5])) = H7 at x7 hbx7 dh7 hpa7 das7 hp77 s7 ⊢
    refine ⟨_, rfl, bx, .ref pn, rfl, by rw [← ena5]; exact DGet.k (k := Sum.inr "names") hbx7, ?_⟩
    refine ⟨l, c, p7, pn, hv5 ++ [.ref p5], hs ++ [(st, 1)], ws, 2, rfl, by decide, x7.pool, np7.1, hp77, dh7, hok', by rw [List.length_append]; exact Nat.succ_pos _, by rw [List.length_append]; show hs.length + 1 ≤ 100; omega, N4.ext x7, lws, ndw, fun H8 ov o x8 dov too hto szo => ?_⟩
    have x48 := x7.trans x8
    have hpa8 := x8.keep _ _ npa.1 hpa7
    have das8 := das7.ext x7.pool x8
    -- the term
    obtain ⟨kv8, hbx8, ehe8, ena8, _⟩ := (B4.ext P4 x48).at_
    obtain ⟨hv8, hph8, dh8⟩ := (B4.ext P4 x48).hd
    refine ⟨_, rfl, _, rfl, bx, .ref ph, rfl, by rw [← ehe8]; exact DGet.k (k := Sum.inr "heads") hbx8, _, rfl, bx, .ref pn, rfl, by rw [← ena8]; exact DGet.k (k := Sum.inr "names") hbx8, ?_⟩
    refine ⟨l, c, ph, pn, hv8, hs, ws, 4, rfl, by decide, x48.pool, nph, hph8, dh8, hok, HS.ne, by omega, N4.ext x48, lws, ndw, fun H9 tv t x9 dtv tt htt szt => ?_⟩
    have g4 : gs 4 = 121 := rfl
    have g3 : gs 3 = 40 := rfl
    have g2 : gs 2 = 13 := rfl
    have x49 := x48.trans x9
    have hpa9 := x9.keep _ _ npa.1 hpa8
    have das9 := das8.ext x48.pool x9
    have dov9 := dov.ext x48.pool x9
    refine ⟨fun σ' H' => ∃ (o7 : Option V) (tv : V) (t : Tm), σ' = [some (.ref a), some (.ref l), some (.ref bx), some rv, some (.ref ta), some (.str st), some (.ref pa), o7, some ov, some tv, none, none] ∧ Ext l c H9 H' ∧ Dt K H' tv t.d ∧ TT hs [] t ∧ t.size ≤ 960 ∧ t.ht ≤ 36, ?_, ?_⟩
    · refine vTake rfl x49.pool (by decide) (by decide) fun k1 H10 k0 k1' x10 => ⟨rfl, _, rfl, ite2 (fun _ => ?_) (fun _ => ?_)⟩
      · have x410 := x49.trans x10
        refine ⟨_, rfl, _, rfl, _, rfl, l, c, bx, pn, ws, R, 3, rfl, by decide, x10.pool, BR4.ext P4 x410, rok.hd, by omega, by omega, lws, ndw, fun H11 sv u x11 dsv tu htu szu => ?_⟩
        have x411 := x410.trans x11
        refine ⟨rv, sv, hs, R, rfl, drv4.ext P4 x411, rok, by omega, .inl ⟨u, by omega, tu, dsv, fun H12 tv' s12 dtv' => ?_⟩⟩
        have tT := trans_tt rok.ok tu
        have tB := trans_b rok.ok rok.b tu
        exact ⟨_, tv', u.trans R, rfl, (x10.trans x11).same s12, dtv', tT, by omega, by omega⟩
      · exact ⟨_, tv, t, rfl, x10, dtv.ext x49.pool x10, tt, by omega, by omega⟩
    rintro σ' H10 ⟨o7', tv', t', rfl, x10, dtv', tt', szt', htt'⟩
    refine ⟨fun σ' H' => ∃ (o7 : Option V) (tv : V) (t : Tm), σ' = [some (.ref a), some (.ref l), some (.ref bx), some rv, some (.ref ta), some (.str st), some (.ref pa), o7, some ov, some tv, none, none] ∧ Ext l c H10 H' ∧ Dt K H' tv t.d ∧ AskOk (hs ++ [(st, 1)]) t, ?_, ?_⟩
    · refine vTake rfl x10.pool (by decide) (by decide) fun k1 H11 k0 k1' x11 => ⟨_, _, rfl, rfl, _, rfl, ite2 (fun _ => ?_) (fun _ => ?_)⟩
      · refine ⟨_, rfl, _, rfl, _, rfl, l, c, tv', ov, t', o, hs ++ [(st, 1)], rfl, x11.pool, dtv'.ext x10.pool x11, dov9.ext x9.pool (x10.trans x11), tt'.mono sub, too, by omega, fun H12 v12 t12 x12 d12 tt12 ht12 sz12 => ?_⟩
        exact ⟨_, v12, t12, rfl, x11.trans x12, d12, tt12, by omega, by omega⟩
      · exact ⟨_, tv', t', rfl, x11, dtv'.ext x10.pool x11, tt'.mono sub, by omega, by omega⟩
    rintro σ' H11 ⟨o7'', tv'', t'', rfl, x11, dtv'', ok''⟩
    have x911 := x10.trans x11
    have hpa11 := x911.keep _ _ npa.1 hpa9
    refine ⟨_, rfl, .inl ⟨rfl, _, SqL.of hpa11⟩, _, rfl, pa, xs, _, rfl, rfl, hpa11, smallL (by omega), _, _, _, as ++ [t''], xs ++ [tv''], rfl, (x49.trans x911).upd P4 hpa, upd_same, ?_, by rw [List.length_append, las]; rfl, fun x hx => ?_⟩
    · rw [List.map_append]
      exact ((das9.ext x49.pool x911).append (.cons dtv'' .nil)).upd hpa11
    · rcases List.mem_append.mp hx with hx | hx
      · exact ok x hx
      · rw [List.mem_singleton.mp hx]; exact ok''
  rintro σ H5 ⟨o7, o8, o9, as, xs, rfl, x6, hpa5, das, las, ok⟩
  have drv5 := drv4.ext P4 x6
  have lxs : xs.length = 5 := by rw [das.lenD, List.length_map, las]
  refine ⟨_, rfl, _, rfl, small (by show 2 ≤ _; decide), fun q1 hq1 => ⟨small (by show 1 ≤ _; decide), fun q2 hq2 => ⟨small (by show 3 ≤ _; decide), fun q3 hq3 => ?_⟩⟩⟩
  have s1 := same_new (o := .tup [.str "int", .int 1]) hq1
  have s2 := same_new (o := .tup [.ref q1]) hq2
  have s3 := same_new (o := .tup [.str "node", .str st, .ref q2]) hq3
  have hl' : R.length ≤ 100 := by omega
  have dT : Dt K (upd (upd (upd H5 q1 (.tup [.str "int", .int 1])) q2 (.tup [.ref q1])) q3 (.tup [.str "node", .str st, .ref q2])) (.ref q3) (Tm.node st [.int 1]).d := by
    unfold Tm.d
    rw [Tm.ds_map]
    refine Dt.mk3 hq3 (.str _) (.str _) (Dt.mk1 hq2 ?_)
    show Dt K _ _ (Tm.int 1).d
    unfold Tm.d
    exact Dt.mk2 hq1 (.str _) (.int _)
  have tT : TT (hs ++ [(st, 1)]) [] (.node st [.int 1]) := .mk ⟨List.mem_append_right _ (List.mem_singleton.mpr rfl), wst, by decide⟩ fun k hk => by
    rw [List.mem_singleton.mp (show k ∈ [Tm.int 1] from hk)]
    exact TT.leaf (show 0 ≤ (1 : Int) ∧ (1 : Int) < 1000 by decide) rfl
  have hT : (Tm.node st [.int 1]).ht ≤ 60 := by
    have := Tm.ht_le (t := Tm.node st [.int 1]) (n := 1) fun k hk => by
      rw [List.mem_singleton.mp (show k ∈ [Tm.int 1] from hk)]
      exact Tm.ht_le (n := 0) fun k hk => absurd hk List.not_mem_nil
    omega
  have zT : (Tm.node st [.int 1]).size ≤ 1000 := by
    have e1 := Tm.size_eq (.node st [.int 1])
    have e2 := Tm.size_eq (.int 1)
    have e1 : (Tm.node st [.int 1]).size = 1 + ((Tm.int 1).size + 0) := e1
    have e2 : (Tm.int 1).size = 1 + 0 := e2
    omega
  refine ⟨rv, .ref q3, hs ++ [(st, 1)], R, .node st [.int 1], rfl, drv5.same ((s1.trans s2).trans s3), rok', hok', hl', dT, tT, hT, zT, fun H6 v6 s6 vo => ?_⟩
  rw [src_strange rok nst] at vo
  obtain rfl : v6 = .non := vo
  refine ⟨rfl, _, rfl, iteF ?_⟩
  have s56 := ((s1.trans s2).trans s3).trans s6
  have hpa6 := s56 _ _ hpa5
  have das6 := das.same s56
  have drv6 := drv5.same s56
  clear dT s1 s2 s3
  refine ⟨_, rfl, _, rfl, pa, xs, rfl, SqL.of hpa6, fun p1 hp1 => ?_⟩
  have s1 := same_new (o := .lst xs.reverse) hp1
  refine ⟨pa, p1, xs, xs.reverse, rfl, rfl, s1 _ _ hpa6, upd_same, small (by rw [List.length_reverse]; omega), fun p2 hp2 => ?_⟩
  have s2 := s1.trans (same_new (o := .lst (xs ++ xs.reverse)) hp2)
  have hp22 : (upd (upd H6 p1 (.lst xs.reverse)) p2 (.lst (xs ++ xs.reverse))) p2 = some (.lst (xs ++ xs.reverse)) := upd_same
  have das2 : DtAll K (upd (upd H6 p1 (.lst xs.reverse)) p2 (.lst (xs ++ xs.reverse))) (xs ++ xs.reverse) ((as ++ as.reverse).map Tm.d) := by
    rw [List.map_append, List.map_reverse]
    exact (das6.append das6.rev).same s2
  have drv7 := drv6.same s2
  generalize upd (upd H6 p1 (.lst xs.reverse)) p2 (.lst (xs ++ xs.reverse)) = H7 at s2 hp22 das2 drv7 ⊢
  refine ⟨p2, rfl, ⟨_, SqL.of hp22⟩, for_it (walk_list (K := K) (xs := xs ++ xs.reverse)) (fun i σ H' => ∃ (o9 : Option V), σ = [some (.ref a), some (.ref l), some (.ref bx), some rv, some (.ref ta), some (.str st), some (.ref pa), o7, o8, o9, none, none] ∧ Same H7 H') ?_ ?_ ?_ ?_⟩
  · exact ⟨_, rfl, Same.refl H7⟩
  · rintro i σ H' _ ⟨_, _, s⟩
    exact SqL.of (s _ _ hp22)
  · rintro i x σ H8 H8 hi ⟨o9', rfl, s8⟩ ⟨rfl, gx⟩
    obtain ⟨dd, gd, dx⟩ := das2.getX gx
    rw [List.getElem?_map] at gd
    cases e0 : (as ++ as.reverse)[i]? with
    | none => rw [e0] at gd; cases gd
    | some t =>
    rw [e0] at gd
    cases gd
    obtain ⟨tt, hz, hh⟩ := ok t (by
      rcases List.mem_append.mp (List.mem_of_getElem? e0) with h | h
      · exact h
      · exact List.mem_reverse.mp h)
    have dx8 := dx.same s8
    have drv8 := drv7.same s8
    refine ⟨_, rfl, _, rfl, rv, x, hs ++ [(st, 1)], R, t, rfl, drv8, rok', hok', hl', dx8, tt, by omega, hz, fun H9 v9 s9 vo => ?_⟩
    refine ⟨_, rfl, _, rfl, fun kd hkd => ?_⟩
    have sk := same_new (o := .dK []) hkd
    refine ⟨rv, x, kd, t, t, R, hs ++ [(st, 1)], [], rfl, (drv8.same s9).same sk, rok', hok', hl', (dx8.same s9).same sk, self_parts _, tt, hz, by omega, ⟨upd_same, List.nodup_nil, (fun e h => absurd h List.not_mem_nil)⟩, by omega, fun H10 kv10 v10 o10 k10 ve => ?_⟩
    have s10 : Same H9 H10 := fun b o h => o10.2.2 b o (ne_of_none h hkd) (sk _ _ h)
    have vo10 := vo.mono fun _ _ z => z.same s10
    have dp9 : ∀ {v : V}, VOk K H10 v (src R t) → Dp K H10 v (oD (src R t)) := fun {v} h => by
      cases e : src R t with
      | none => rw [e] at h; rw [show v = .non from h]; exact .non
      | some u => rw [e] at h; exact Dt.dp _ _ h
    have fit : (oD (src R t)).depth < 200 ∧ slim (oD (src R t)) = true := by
      cases e : src R t with
      | none => exact ⟨by show 0 < 200; decide, by show slim .none = true; unfold slim; rfl⟩
      | some u =>
        obtain ⟨bk, uh, tu⟩ := src_back hok' rok'.ok rok'.hd _ _ u (Nat.le_refl _) tt e
        exact ⟨by have := tm_depthF (t := u); show u.d.depth < 200; omega, tu.slim⟩
    refine ⟨v9, v10, oD (src R t), rfl, dp9 vo10, dp9 ve, fit.1, fit.2, fun H11 s11 => ⟨_, rfl, iteF ⟨_, rfl, ((s8.trans s9).trans s10).trans s11⟩⟩⟩
  rintro σ H8 ⟨o9', rfl, s8⟩
  exact q H8
end
end PK
namespace PK
open PySem L2
section
variable {P : Program} {w : World} {K : PySem.W.Frag} {mg : Str → Option Value} {base : Heap}
theorem none_okX {f : Addr} {fd : FuncData} {ps : List Str} {sp : Sp} {k : Nat} (no : ∀ vs H Q E, ¬ sp vs H Q E) : FnOk P w K mg base (L2.CX P w) k f fd ps sp :=
  ⟨fun vs H Q E h => absurd h (no vs H Q E), fun A outer s H args us vs Q E _ _ _ _ h => absurd h (no vs H Q E)⟩
theorem none_ok {f : Addr} {fd : FuncData} {ps : List Str} {sp : Sp} {k : Nat} (no : ∀ vs H Q E, ¬ sp vs H Q E) : FnOk P w K mg base CX0 k f fd ps sp :=
  ⟨fun vs H Q E h => absurd h (no vs H Q E), fun A outer s H args us vs Q E _ _ _ _ h => absurd h (no vs H Q E)⟩
theorem cal_mk {x : Str} {f : Addr} {fd : FuncData} {ps : List Str} {sp : Sp} {k : Nat} (G : FnOk P w K mg base CX0 k f fd ps sp) (m : mg x = some (.ref f)) (kp : PySem.W.keepIn K (.ref f) = true) (b : Binds K fd ps []) : C8.Cal P w K mg base k x sp [] :=
  ⟨f, fd, ps, [], G, m, kp, b, .nil⟩
end
theorem calG_mk {P : Program} {w : World} {K : PySem.W.Frag} {mg : Str → Option Value} {base : Heap} {x : Str} {f : Addr} {fd : FuncData} {ps : List Str} {sp : Sp} {k : Nat} (G : FnG.FnG P w K mg base CX0 k f fd ps sp) (m : mg x = some (.ref f)) (kp : PySem.W.keepIn K (.ref f) = true) (b : Binds K fd ps []) : CalG P w K mg base k x sp [] :=
  ⟨f, fd, ps, [], G, m, kp, b, .nil⟩
set_option maxHeartbeats 0 in
theorem all_mk {l : PySem.W.OpenLaw} {w : World} {K : PySem.W.Frag} {h : Heap} {mg : Str → Option Value} {fa f1 f2 f3 f4 f5 f6 f7 f8 f9 f10 f11 f12 f13 f14 f15 f16 f17 f18 f19 f20 f21 f22 f23 f24 f25 f26 f27 f28 : Addr} (X : K.In h) (G : h.Ns mainGlobals mg) (hfa : mg "law" = some (.ref fa))
    {od1 an1 od2 an2 od3 an3 od4 an4 od5 an5 od6 an6 od7 an7 od8 an8 od9 an9 od10 an10 od11 an11 od12 an12 od13 an13 od14 an14 od15 an15 od16 an16 od17 an17 od18 an18 od19 an19 od20 an20 od21 an21 od22 an22 od23 an23 od24 an24 od25 an25 od26 an26 od27 an27 od28 an28 : Option Addr} {sl1 sl2 sl3 sl4 sl5 sl6 sl7 sl8 sl9 sl10 sl11 sl12 sl13 sl14 sl15 sl16 sl17 sl18 sl19 sl20 sl21 sl22 sl23 sl24 sl25 sl26 sl27 sl28 : Array (Option Value)} {oc1 kV1 dc1 pm1 cd1 ct1 oc2 kV2 dc2 pm2 cd2 ct2 oc3 kV3 dc3 pm3 cd3 ct3 oc4 kV4 dc4 pm4 cd4 ct4 oc5 kV5 dc5 pm5 cd5 ct5 oc6 kV6 dc6 pm6 cd6 ct6 oc7 kV7 dc7 pm7 cd7 ct7 oc8 kV8 dc8 pm8 cd8 ct8 oc9 kV9 dc9 pm9 cd9 ct9 oc10 kV10 dc10 pm10 cd10 ct10 oc11 kV11 dc11 pm11 cd11 ct11 oc12 kV12 dc12 pm12 cd12 ct12 oc13 kV13 dc13 pm13 cd13 ct13 oc14 kV14 dc14 pm14 cd14 ct14 oc15 kV15 dc15 pm15 cd15 ct15 oc16 kV16 dc16 pm16 cd16 ct16 oc17 kV17 dc17 pm17 cd17 ct17 oc18 kV18 dc18 pm18 cd18 ct18 oc19 kV19 dc19 pm19 cd19 ct19 oc20 kV20 dc20 pm20 cd20 ct20 oc21 kV21 dc21 pm21 cd21 ct21 oc22 kV22 dc22 pm22 cd22 ct22 oc23 kV23 dc23 pm23 cd23 ct23 oc24 kV24 dc24 pm24 cd24 ct24 oc25 kV25 dc25 pm25 cd25 ct25 oc26 kV26 dc26 pm26 cd26 ct26 oc27 kV27 dc27 pm27 cd27 ct27 oc28 kV28 dc28 pm28 cd28 ct28 : Value}
    (a1 : PySem.W.nsIn K mainGlobals "children" = some (some (.ref f1))) (l1 : K.lookup f1 = some ⟨oc1, od1, .func (PySem.W.fnOf "children" "children" (defArgs s_children) (defBody s_children) (defScope s_children) .none kV1 dc1 pm1 an1 cd1 ct1), sl1⟩) (c1 : PySem.W.codeIn K cd1 "children" = true) (k1 : PySem.W.keepIn K (.ref f1) = true)
    (a2 : PySem.W.nsIn K mainGlobals "rebuild" = some (some (.ref f2))) (l2 : K.lookup f2 = some ⟨oc2, od2, .func (PySem.W.fnOf "rebuild" "rebuild" (defArgs s_rebuild) (defBody s_rebuild) (defScope s_rebuild) .none kV2 dc2 pm2 an2 cd2 ct2), sl2⟩) (c2 : PySem.W.codeIn K cd2 "rebuild" = true) (k2 : PySem.W.keepIn K (.ref f2) = true)
    (a3 : PySem.W.nsIn K mainGlobals "parts_of" = some (some (.ref f3))) (l3 : K.lookup f3 = some ⟨oc3, od3, .func (PySem.W.fnOf "parts_of" "parts_of" (defArgs s_parts_of) (defBody s_parts_of) (defScope s_parts_of) .none kV3 dc3 pm3 an3 cd3 ct3), sl3⟩) (c3 : PySem.W.codeIn K cd3 "parts_of" = true) (k3 : PySem.W.keepIn K (.ref f3) = true)
    (a4 : PySem.W.nsIn K mainGlobals "source_of" = some (some (.ref f4))) (l4 : K.lookup f4 = some ⟨oc4, od4, .func (PySem.W.fnOf "source_of" "source_of" (defArgs s_source_of) (defBody s_source_of) (defScope s_source_of) .none kV4 dc4 pm4 an4 cd4 ct4), sl4⟩) (c4 : PySem.W.codeIn K cd4 "source_of" = true) (k4 : PySem.W.keepIn K (.ref f4) = true)
    (a5 : PySem.W.nsIn K mainGlobals "_first_source" = some (some (.ref f5))) (l5 : K.lookup f5 = some ⟨oc5, od5, .func (PySem.W.fnOf "_first_source" "_first_source" (defArgs s_first_source) (defBody s_first_source) (defScope s_first_source) .none kV5 dc5 pm5 an5 cd5 ct5), sl5⟩) (c5 : PySem.W.codeIn K cd5 "_first_source" = true) (k5 : PySem.W.keepIn K (.ref f5) = true)
    (a6 : PySem.W.nsIn K mainGlobals "_first_source_of_node" = some (some (.ref f6))) (l6 : K.lookup f6 = some ⟨oc6, od6, .func (PySem.W.fnOf "_first_source_of_node" "_first_source_of_node" (defArgs s_first_source_of_node) (defBody s_first_source_of_node) (defScope s_first_source_of_node) .none kV6 dc6 pm6 an6 cd6 ct6), sl6⟩) (c6 : PySem.W.codeIn K cd6 "_first_source_of_node" = true) (k6 : PySem.W.keepIn K (.ref f6) = true)
    (a7 : PySem.W.nsIn K mainGlobals "_sources_of_parameters" = some (some (.ref f7))) (l7 : K.lookup f7 = some ⟨oc7, od7, .func (PySem.W.fnOf "_sources_of_parameters" "_sources_of_parameters" (defArgs s_sources_of_parameters) (defBody s_sources_of_parameters) (defScope s_sources_of_parameters) .none kV7 dc7 pm7 an7 cd7 ct7), sl7⟩) (c7 : PySem.W.codeIn K cd7 "_sources_of_parameters" = true) (k7 : PySem.W.keepIn K (.ref f7) = true)
    (a8 : PySem.W.nsIn K mainGlobals "_law_pool" = some (some (.ref f8))) (l8 : K.lookup f8 = some ⟨oc8, od8, .func (PySem.W.fnOf "_law_pool" "_law_pool" (defArgs s_law_pool) (defBody s_law_pool) (defScope s_law_pool) .none kV8 dc8 pm8 an8 cd8 ct8), sl8⟩) (c8 : PySem.W.codeIn K cd8 "_law_pool" = true) (k8 : PySem.W.keepIn K (.ref f8) = true)
    (a9 : PySem.W.nsIn K mainGlobals "_law_take" = some (some (.ref f9))) (l9 : K.lookup f9 = some ⟨oc9, od9, .func (PySem.W.fnOf "_law_take" "_law_take" (defArgs s_law_take) (defBody s_law_take) (defScope s_law_take) .none kV9 dc9 pm9 an9 cd9 ct9), sl9⟩) (c9 : PySem.W.codeIn K cd9 "_law_take" = true) (k9 : PySem.W.keepIn K (.ref f9) = true)
    (a10 : PySem.W.nsIn K mainGlobals "_law_words" = some (some (.ref f10))) (l10 : K.lookup f10 = some ⟨oc10, od10, .func (PySem.W.fnOf "_law_words" "_law_words" (defArgs s_law_words) (defBody s_law_words) (defScope s_law_words) .none kV10 dc10 pm10 an10 cd10 ct10), sl10⟩) (c10 : PySem.W.codeIn K cd10 "_law_words" = true) (k10 : PySem.W.keepIn K (.ref f10) = true)
    (a11 : PySem.W.nsIn K mainGlobals "_law_pick" = some (some (.ref f11))) (l11 : K.lookup f11 = some ⟨oc11, od11, .func (PySem.W.fnOf "_law_pick" "_law_pick" (defArgs s_law_pick) (defBody s_law_pick) (defScope s_law_pick) .none kV11 dc11 pm11 an11 cd11 ct11), sl11⟩) (c11 : PySem.W.codeIn K cd11 "_law_pick" = true) (k11 : PySem.W.keepIn K (.ref f11) = true)
    (a12 : PySem.W.nsIn K mainGlobals "_law_match" = some (some (.ref f12))) (l12 : K.lookup f12 = some ⟨oc12, od12, .func (PySem.W.fnOf "_law_match" "_law_match" (defArgs s_law_match) (defBody s_law_match) (defScope s_law_match) .none kV12 dc12 pm12 an12 cd12 ct12), sl12⟩) (c12 : PySem.W.codeIn K cd12 "_law_match" = true) (k12 : PySem.W.keepIn K (.ref f12) = true)
    (a13 : PySem.W.nsIn K mainGlobals "_law_parts" = some (some (.ref f13))) (l13 : K.lookup f13 = some ⟨oc13, od13, .func (PySem.W.fnOf "_law_parts" "_law_parts" (defArgs s_law_parts) (defBody s_law_parts) (defScope s_law_parts) .none kV13 dc13 pm13 an13 cd13 ct13), sl13⟩) (c13 : PySem.W.codeIn K cd13 "_law_parts" = true) (k13 : PySem.W.keepIn K (.ref f13) = true)
    (a14 : PySem.W.nsIn K mainGlobals "_law_put" = some (some (.ref f14))) (l14 : K.lookup f14 = some ⟨oc14, od14, .func (PySem.W.fnOf "_law_put" "_law_put" (defArgs s_law_put) (defBody s_law_put) (defScope s_law_put) .none kV14 dc14 pm14 an14 cd14 ct14), sl14⟩) (c14 : PySem.W.codeIn K cd14 "_law_put" = true) (k14 : PySem.W.keepIn K (.ref f14) = true)
    (a15 : PySem.W.nsIn K mainGlobals "_law_templated" = some (some (.ref f15))) (l15 : K.lookup f15 = some ⟨oc15, od15, .func (PySem.W.fnOf "_law_templated" "_law_templated" (defArgs s_law_templated) (defBody s_law_templated) (defScope s_law_templated) .none kV15 dc15 pm15 an15 cd15 ct15), sl15⟩) (c15 : PySem.W.codeIn K cd15 "_law_templated" = true) (k15 : PySem.W.keepIn K (.ref f15) = true)
    (a16 : PySem.W.nsIn K mainGlobals "_law_translate" = some (some (.ref f16))) (l16 : K.lookup f16 = some ⟨oc16, od16, .func (PySem.W.fnOf "_law_translate" "_law_translate" (defArgs s_law_translate) (defBody s_law_translate) (defScope s_law_translate) .none kV16 dc16 pm16 an16 cd16 ct16), sl16⟩) (c16 : PySem.W.codeIn K cd16 "_law_translate" = true) (k16 : PySem.W.keepIn K (.ref f16) = true)
    (a17 : PySem.W.nsIn K mainGlobals "_law_same" = some (some (.ref f17))) (l17 : K.lookup f17 = some ⟨oc17, od17, .func (PySem.W.fnOf "_law_same" "_law_same" (defArgs s_law_same) (defBody s_law_same) (defScope s_law_same) .none kV17 dc17 pm17 an17 cd17 ct17), sl17⟩) (c17 : PySem.W.codeIn K cd17 "_law_same" = true) (k17 : PySem.W.keepIn K (.ref f17) = true)
    (a18 : PySem.W.nsIn K mainGlobals "_law_small" = some (some (.ref f18))) (l18 : K.lookup f18 = some ⟨oc18, od18, .func (PySem.W.fnOf "_law_small" "_law_small" (defArgs s_law_small) (defBody s_law_small) (defScope s_law_small) .none kV18 dc18 pm18 an18 cd18 ct18), sl18⟩) (c18 : PySem.W.codeIn K cd18 "_law_small" = true) (k18 : PySem.W.keepIn K (.ref f18) = true)
    (a19 : PySem.W.nsIn K mainGlobals "_law_built" = some (some (.ref f19))) (l19 : K.lookup f19 = some ⟨oc19, od19, .func (PySem.W.fnOf "_law_built" "_law_built" (defArgs s_law_built) (defBody s_law_built) (defScope s_law_built) .none kV19 dc19 pm19 an19 cd19 ct19), sl19⟩) (c19 : PySem.W.codeIn K cd19 "_law_built" = true) (k19 : PySem.W.keepIn K (.ref f19) = true)
    (a20 : PySem.W.nsIn K mainGlobals "_law_template" = some (some (.ref f20))) (l20 : K.lookup f20 = some ⟨oc20, od20, .func (PySem.W.fnOf "_law_template" "_law_template" (defArgs s_law_template) (defBody s_law_template) (defScope s_law_template) .none kV20 dc20 pm20 an20 cd20 ct20), sl20⟩) (c20 : PySem.W.codeIn K cd20 "_law_template" = true) (k20 : PySem.W.keepIn K (.ref f20) = true)
    (a21 : PySem.W.nsIn K mainGlobals "_law_rows" = some (some (.ref f21))) (l21 : K.lookup f21 = some ⟨oc21, od21, .func (PySem.W.fnOf "_law_rows" "_law_rows" (defArgs s_law_rows) (defBody s_law_rows) (defScope s_law_rows) .none kV21 dc21 pm21 an21 cd21 ct21), sl21⟩) (c21 : PySem.W.codeIn K cd21 "_law_rows" = true) (k21 : PySem.W.keepIn K (.ref f21) = true)
    (a22 : PySem.W.nsIn K mainGlobals "_law_box" = some (some (.ref f22))) (l22 : K.lookup f22 = some ⟨oc22, od22, .func (PySem.W.fnOf "_law_box" "_law_box" (defArgs s_law_box) (defBody s_law_box) (defScope s_law_box) .none kV22 dc22 pm22 an22 cd22 ct22), sl22⟩) (c22 : PySem.W.codeIn K cd22 "_law_box" = true) (k22 : PySem.W.keepIn K (.ref f22) = true)
    (a23 : PySem.W.nsIn K mainGlobals "_law_over" = some (some (.ref f23))) (l23 : K.lookup f23 = some ⟨oc23, od23, .func (PySem.W.fnOf "_law_over" "_law_over" (defArgs s_law_over) (defBody s_law_over) (defScope s_law_over) .none kV23 dc23 pm23 an23 cd23 ct23), sl23⟩) (c23 : PySem.W.codeIn K cd23 "_law_over" = true) (k23 : PySem.W.keepIn K (.ref f23) = true)
    (a24 : PySem.W.nsIn K mainGlobals "_law_source" = some (some (.ref f24))) (l24 : K.lookup f24 = some ⟨oc24, od24, .func (PySem.W.fnOf "_law_source" "_law_source" (defArgs s_law_source) (defBody s_law_source) (defScope s_law_source) .none kV24 dc24 pm24 an24 cd24 ct24), sl24⟩) (c24 : PySem.W.codeIn K cd24 "_law_source" = true) (k24 : PySem.W.keepIn K (.ref f24) = true)
    (a25 : PySem.W.nsIn K mainGlobals "_law_origin" = some (some (.ref f25))) (l25 : K.lookup f25 = some ⟨oc25, od25, .func (PySem.W.fnOf "_law_origin" "_law_origin" (defArgs s_law_origin) (defBody s_law_origin) (defScope s_law_origin) .none kV25 dc25 pm25 an25 cd25 ct25), sl25⟩) (c25 : PySem.W.codeIn K cd25 "_law_origin" = true) (k25 : PySem.W.keepIn K (.ref f25) = true)
    (a26 : PySem.W.nsIn K mainGlobals "_law_looked" = some (some (.ref f26))) (l26 : K.lookup f26 = some ⟨oc26, od26, .func (PySem.W.fnOf "_law_looked" "_law_looked" (defArgs s_law_looked) (defBody s_law_looked) (defScope s_law_looked) .none kV26 dc26 pm26 an26 cd26 ct26), sl26⟩) (c26 : PySem.W.codeIn K cd26 "_law_looked" = true) (k26 : PySem.W.keepIn K (.ref f26) = true)
    (a27 : PySem.W.nsIn K mainGlobals "_law_changed" = some (some (.ref f27))) (l27 : K.lookup f27 = some ⟨oc27, od27, .func (PySem.W.fnOf "_law_changed" "_law_changed" (defArgs s_law_changed) (defBody s_law_changed) (defScope s_law_changed) .none kV27 dc27 pm27 an27 cd27 ct27), sl27⟩) (c27 : PySem.W.codeIn K cd27 "_law_changed" = true) (k27 : PySem.W.keepIn K (.ref f27) = true)
    (a28 : PySem.W.nsIn K mainGlobals "law" = some (some (.ref f28))) (l28 : K.lookup f28 = some ⟨oc28, od28, .func (PySem.W.fnOf "law" "law" (defArgs s_law) (defBody s_law) (defScope s_law) .none kV28 dc28 pm28 an28 cd28 ct28), sl28⟩) (c28 : PySem.W.codeIn K cd28 "law" = true) (k28 : PySem.W.keepIn K (.ref f28) = true)
    (z_len : PySem.W.nsIn K mainGlobals "len" = some none) (z_int : PySem.W.nsIn K mainGlobals "int" = some none) (z_range : PySem.W.nsIn K mainGlobals "range" = some none) (z_min : PySem.W.nsIn K mainGlobals "min" = some none) (z_str : PySem.W.nsIn K mainGlobals "str" = some none) (z_tuple : PySem.W.nsIn K mainGlobals "tuple" = some none) (z_sorted : PySem.W.nsIn K mainGlobals "sorted" = some none) (z_isinstance : PySem.W.nsIn K mainGlobals "isinstance" = some none) (z_any : PySem.W.nsIn K mainGlobals "any" = some none) (z_all : PySem.W.nsIn K mainGlobals "all" = some none) (z_list : PySem.W.nsIn K mainGlobals "list" = some none) (z_bool : PySem.W.nsIn K mainGlobals "bool" = some none) (z_zip : PySem.W.nsIn K mainGlobals "zip" = some none) (z_reversed : PySem.W.nsIn K mainGlobals "reversed" = some none) (z_dict : PySem.W.nsIn K mainGlobals "dict" = some none) (z_sum : PySem.W.nsIn K mainGlobals "sum" = some none) (z_repr : PySem.W.nsIn K mainGlobals "repr" = some none)
    {aF : Addr} {odaF : Option Addr} {naF : Nat} {slaF : Array (Option Value)} {uaF0 uaF1 uaF2 uaF3 : Tok} (gtaF : PySem.W.nsIn K mainGlobals "_FORMS" = some (some (.ref aF))) (ltaF : K.lookup aF = some ⟨.type "tuple", odaF, .seq #[.str "get" uaF0, .str "set" uaF1, .str "plus" uaF2, .str "minus" uaF3] naF, slaF⟩) :
    ∃ fd : FuncData, (∀ (s : Shared) (v : Value), BindsTo s fd ⟨[v], []⟩ [("script", v)]) ∧ ∀ base : Heap, K.In base → base.Ns mainGlobals mg → FnG.FnG l.prog w K mg base CX0 201 fa fd ["script"] (spLaw K) := by
  have e := hfa.symm.trans (PySem.W.mg_of X G a28)
  cases e
  have F1 := fun_mk (st := s_children) l1 c1 k1
  have b1 := F1.binds (ps := ["term"]) fun _ _ _ _ _ _ us hl => match us, hl with | [_], _ => rfl
  have m1 := PySem.W.mg_of X G a1
  have F2 := fun_mk (st := s_rebuild) l2 c2 k2
  have b2 := F2.binds (ps := ["term", "parts"]) fun _ _ _ _ _ _ us hl => match us, hl with | [_, _], _ => rfl
  have m2 := PySem.W.mg_of X G a2
  have F3 := fun_mk (st := s_parts_of) l3 c3 k3
  have b3 := F3.binds (ps := ["term"]) fun _ _ _ _ _ _ us hl => match us, hl with | [_], _ => rfl
  have m3 := PySem.W.mg_of X G a3
  have F4 := fun_mk (st := s_source_of) l4 c4 k4
  have b4 := F4.binds (ps := ["rows", "term"]) fun _ _ _ _ _ _ us hl => match us, hl with | [_, _], _ => rfl
  have m4 := PySem.W.mg_of X G a4
  have F5 := fun_mk (st := s_first_source) l5 c5 k5
  have b5 := F5.binds (ps := ["by_root", "part", "inner"]) fun _ _ _ _ _ _ us hl => match us, hl with | [_, _, _], _ => rfl
  have m5 := PySem.W.mg_of X G a5
  have F6 := fun_mk (st := s_first_source_of_node) l6 c6 k6
  have b6 := F6.binds (ps := ["rows", "part", "inner"]) fun _ _ _ _ _ _ us hl => match us, hl with | [_, _, _], _ => rfl
  have m6 := PySem.W.mg_of X G a6
  have F7 := fun_mk (st := s_sources_of_parameters) l7 c7 k7
  have b7 := F7.binds (ps := ["template", "whole"]) fun _ _ _ _ _ _ us hl => match us, hl with | [_, _], _ => rfl
  have m7 := PySem.W.mg_of X G a7
  have F8 := fun_mk (st := s_law_pool) l8 c8 k8
  have b8 := F8.binds (ps := ["script"]) fun _ _ _ _ _ _ us hl => match us, hl with | [_], _ => rfl
  have m8 := PySem.W.mg_of X G a8
  have F9 := fun_mk (st := s_law_take) l9 c9 k9
  have b9 := F9.binds (ps := ["pool", "many"]) fun _ _ _ _ _ _ us hl => match us, hl with | [_, _], _ => rfl
  have m9 := PySem.W.mg_of X G a9
  have F10 := fun_mk (st := s_law_words) l10 c10 k10
  have b10 := F10.binds (ps := ["pool", "many"]) fun _ _ _ _ _ _ us hl => match us, hl with | [_, _], _ => rfl
  have m10 := PySem.W.mg_of X G a10
  have F11 := fun_mk (st := s_law_pick) l11 c11 k11
  have b11 := F11.binds (ps := ["pool", "rows"]) fun _ _ _ _ _ _ us hl => match us, hl with | [_, _], _ => rfl
  have m11 := PySem.W.mg_of X G a11
  have F12 := fun_mk (st := s_law_match) l12 c12 k12
  have b12 := F12.binds (ps := ["pattern", "term", "found"]) fun _ _ _ _ _ _ us hl => match us, hl with | [_, _, _], _ => rfl
  have m12 := PySem.W.mg_of X G a12
  have F13 := fun_mk (st := s_law_parts) l13 c13 k13
  have b13 := F13.binds (ps := ["term"]) fun _ _ _ _ _ _ us hl => match us, hl with | [_], _ => rfl
  have m13 := PySem.W.mg_of X G a13
  have F14 := fun_mk (st := s_law_put) l14 c14 k14
  have b14 := F14.binds (ps := ["form", "bindings"]) fun _ _ _ _ _ _ us hl => match us, hl with | [_, _], _ => rfl
  have m14 := PySem.W.mg_of X G a14
  have F15 := fun_mk (st := s_law_templated) l15 c15 k15
  have b15 := F15.binds (ps := ["rows", "name", "parts"]) fun _ _ _ _ _ _ us hl => match us, hl with | [_, _, _], _ => rfl
  have m15 := PySem.W.mg_of X G a15
  have F16 := fun_mk (st := s_law_translate) l16 c16 k16
  have b16 := F16.binds (ps := ["rows", "form"]) fun _ _ _ _ _ _ us hl => match us, hl with | [_, _], _ => rfl
  have m16 := PySem.W.mg_of X G a16
  have F17 := fun_mk (st := s_law_same) l17 c17 k17
  have b17 := F17.binds (ps := ["actual", "due"]) fun _ _ _ _ _ _ us hl => match us, hl with | [_, _], _ => rfl
  have m17 := PySem.W.mg_of X G a17
  have F18 := fun_mk (st := s_law_small) l18 c18 k18
  have b18 := F18.binds (ps := ["pool", "names"]) fun _ _ _ _ _ _ us hl => match us, hl with | [_, _], _ => rfl
  have m18 := PySem.W.mg_of X G a18
  have F19 := fun_mk (st := s_law_built) l19 c19 k19
  have b19 := F19.binds (ps := ["pool", "head", "left", "names"]) fun _ _ _ _ _ _ us hl => match us, hl with | [_, _, _, _], _ => rfl
  have m19 := PySem.W.mg_of X G a19
  have F20 := fun_mk (st := s_law_template) l20 c20 k20
  have b20 := F20.binds (ps := ["pool", "box", "words"]) fun _ _ _ _ _ _ us hl => match us, hl with | [_, _, _], _ => rfl
  have m20 := PySem.W.mg_of X G a20
  have F21 := fun_mk (st := s_law_rows) l21 c21 k21
  have b21 := F21.binds (ps := ["pool", "box"]) fun _ _ _ _ _ _ us hl => match us, hl with | [_, _], _ => rfl
  have m21 := PySem.W.mg_of X G a21
  have F22 := fun_mk (st := s_law_box) l22 c22 k22
  have b22 := F22.binds (ps := ["pool"]) fun _ _ _ _ _ _ us hl => match us, hl with | [_], _ => rfl
  have m22 := PySem.W.mg_of X G a22
  have F23 := fun_mk (st := s_law_over) l23 c23 k23
  have b23 := F23.binds (ps := ["pool", "heads", "names", "depth"]) fun _ _ _ _ _ _ us hl => match us, hl with | [_, _, _, _], _ => rfl
  have m23 := PySem.W.mg_of X G a23
  have F24 := fun_mk (st := s_law_source) l24 c24 k24
  have b24 := F24.binds (ps := ["pool", "box", "depth"]) fun _ _ _ _ _ _ us hl => match us, hl with | [_, _, _], _ => rfl
  have m24 := PySem.W.mg_of X G a24
  have F25 := fun_mk (st := s_law_origin) l25 c25 k25
  have b25 := F25.binds (ps := ["rows", "term", "known"]) fun _ _ _ _ _ _ us hl => match us, hl with | [_, _, _], _ => rfl
  have m25 := PySem.W.mg_of X G a25
  have F26 := fun_mk (st := s_law_looked) l26 c26 k26
  have b26 := F26.binds (ps := ["rows", "term", "known"]) fun _ _ _ _ _ _ us hl => match us, hl with | [_, _, _], _ => rfl
  have m26 := PySem.W.mg_of X G a26
  have F27 := fun_mk (st := s_law_changed) l27 c27 k27
  have b27 := F27.binds (ps := ["pool", "term", "other"]) fun _ _ _ _ _ _ us hl => match us, hl with | [_, _, _], _ => rfl
  have m27 := PySem.W.mg_of X G a27
  have F28 := fun_mk (st := s_law) l28 c28 k28
  have y_len := PySem.W.mg_none_of X G z_len
  have y_int := PySem.W.mg_none_of X G z_int
  have y_range := PySem.W.mg_none_of X G z_range
  have y_min := PySem.W.mg_none_of X G z_min
  have y_str := PySem.W.mg_none_of X G z_str
  have y_tuple := PySem.W.mg_none_of X G z_tuple
  have y_sorted := PySem.W.mg_none_of X G z_sorted
  have y_isinstance := PySem.W.mg_none_of X G z_isinstance
  have y_any := PySem.W.mg_none_of X G z_any
  have y_all := PySem.W.mg_none_of X G z_all
  have y_list := PySem.W.mg_none_of X G z_list
  have y_bool := PySem.W.mg_none_of X G z_bool
  have y_zip := PySem.W.mg_none_of X G z_zip
  have y_reversed := PySem.W.mg_none_of X G z_reversed
  have y_dict := PySem.W.mg_none_of X G z_dict
  have y_sum := PySem.W.mg_none_of X G z_sum
  have y_repr := PySem.W.mg_none_of X G z_repr
  have ytaF := PySem.W.mg_of X G gtaF
  have yqaF : ∀ H, SqT K H aF [V.str "get", V.str "set", V.str "plus", V.str "minus"] := fun H => .inr ⟨_, _, _, ltaF, rfl, rfl, small (by show 4 ≤ _; decide), .cons ⟨_, rfl⟩ (.cons ⟨_, rfl⟩ (.cons ⟨_, rfl⟩ (.cons ⟨_, rfl⟩ (.nil))))⟩
  refine ⟨PySem.W.fnOf "law" "law" (defArgs s_law) (defBody s_law) (defScope s_law) .none kV28 dc28 pm28 an28 cd28 ct28, fun s v => .of_eq rfl, fun base _ _ => ?_⟩
  have T : Txt K mg := ⟨y_len, y_int, y_range, y_min, y_str, y_tuple, y_sorted, y_isinstance, y_any, y_all, y_list, y_bool⟩
  have TZ : TxtZ K mg aF := ⟨⟨T, ytaF, yqaF⟩, y_zip, y_reversed, y_dict, y_sum⟩
  have take0 : C8.Cal l.prog w K mg base 0 "_law_take" (spTake 0) [] := cal_mk (none_ok (fun vs H Q E h => by obtain ⟨_, _, _, _, _, _, _, _, h, _⟩ := h; omega)) m9 k9 b9
  have take1 : C8.Cal l.prog w K mg base 1 "_law_take" (spTake 1) [] := cal_mk (ok_take F9 T take0) m9 k9 b9
  have take : C8.Cal l.prog w K mg base 2 "_law_take" (spTake 2) [] := cal_mk (ok_take F9 T take1) m9 k9 b9
  have pool : C8.Cal l.prog w K mg base 1 "_law_pool" (spPool K) [] := cal_mk (ok_pool F8) m8 k8 b8
  have kidsV : C8.Cal l.prog w K mg base 1 "children" (spKidsV K) [] := cal_mk (ok_kidsV F1 TZ.toTxtT) m1 k1 b1
  have kids := kids_of kidsV
  have reb : C8.Cal l.prog w K mg base 1 "rebuild" (spRebuild K) [] := cal_mk (ok_rebuild F2 TZ) m2 k2 b2
  have parts : PKL.CalGE l.prog w K mg base 2 "parts_of" (spPg K) := ⟨_, _, _, ok_partsG F3 kids, m3, k3, b3⟩
  have sps : C8.Cal l.prog w K mg base 1 "_sources_of_parameters" (spSp K) [] := cal_mk (ok_sp F7 TZ) m7 k7 b7
  have fsn : C8.Cal l.prog w K mg base 2 "_first_source_of_node" (spFn K) [] := cal_mk (ok_fn F6 TZ sps) m6 k6 b6
  have fst : C8.Cal l.prog w K mg base 3 "_first_source" (spFs K) [] := cal_mk (ok_fs F5 TZ fsn reb) m5 k5 b5
  have so : C8.Cal l.prog w K mg base 6 "source_of" (spSo K) [] := cal_mk (ok_so F4 TZ fst kids parts) m4 k4 b4
  have words : C8.Cal l.prog w K mg base 3 "_law_words" (spWords) [] := cal_mk (ok_words F10 T take) m10 k10 b10
  have pick : C8.Cal l.prog w K mg base 3 "_law_pick" (spPick K) [] := cal_mk (ok_pick F11 T take) m11 k11 b11
  have sml : C8.Cal l.prog w K mg base 3 "_law_small" (spSmall K) [] := cal_mk (ok_small F18 T take) m18 k18 b18
  have built : C8.Cal l.prog w K mg base 4 "_law_built" (spBuilt K) [] := cal_mk (ok_built F19 T take sml) m19 k19 b19
  have tpt : C8.Cal l.prog w K mg base 5 "_law_template" (spTpt K) [] := cal_mk (ok_tpt F20 T take pick built) m20 k20 b20
  have puts : ∀ n : Nat, C8.Cal l.prog w K mg base (n) "_law_put" (spPut K n) [] := fun n => by
    induction n with
    | zero => exact cal_mk (none_ok (fun vs H Q E h => by obtain ⟨_, _, t, _, _, _, _, _, _, _, h, _⟩ := h; have := t.ht_pos; omega)) m14 k14 b14
    | succ n ih => exact cal_mk (ok_put F14 T ih) m14 k14 b14
  have rows : C8.Cal l.prog w K mg base 10 "_law_rows" (spRows K) [] := cal_mk (ok_rows F21 T take words sml tpt (puts 9)) m21 k21 b21
  have box : C8.Cal l.prog w K mg base 11 "_law_box" (spBox K) [] := cal_mk (ok_box F22 T take words rows) m22 k22 b22
  have overs : ∀ n : Nat, C8.Cal l.prog w K mg base (n + 3) "_law_over" (spOver K n) [] := fun n => by
    induction n with
    | zero => exact cal_mk (none_ok (fun vs H Q E h => by obtain ⟨_, _, _, _, _, _, _, _, _, h, _⟩ := h; omega)) m23 k23 b23
    | succ n ih => exact cal_mk (ok_over F23 T take sml pick ih) m23 k23 b23
  have src : C8.Cal l.prog w K mg base 9 "_law_source" (spSource K) [] := cal_mk (ok_source F24 T (overs 5)) m24 k24 b24
  have templ : C8.Cal l.prog w K mg base 10 "_law_templated" (spTempl K) [] := cal_mk (ok_templ F15 T (puts 9)) m15 k15 b15
  have trls : ∀ n : Nat, C8.Cal l.prog w K mg base (n + 10) "_law_translate" (spTrl K n) [] := fun n => by
    induction n with
    | zero => exact cal_mk (none_ok (fun vs H Q E h => by obtain ⟨_, _, _, _, _, _, _, _, h⟩ := h; rcases h with ⟨t, h, _⟩ | ⟨_, h, _⟩ <;> omega)) m16 k16 b16
    | succ n ih => exact cal_mk (ok_trl F16 T templ ih) m16 k16 b16
  have mts : ∀ n : Nat, C8.Cal l.prog w K mg base (n) "_law_match" (spMatch K n) [] := fun n => by
    induction n with
    | zero => exact cal_mk (none_ok (fun vs H Q E h => by obtain ⟨_, _, _, p, _, _, _, _, _, _, _, _, _, _, _, _, _, _, _, _, _, h, _⟩ := h; have := p.ht_pos; omega)) m12 k12 b12
    | succ n ih => exact cal_mk (ok_match F12 T ih) m12 k12 b12
  have sames : ∀ n : Nat, C8.Cal l.prog w K mg base (n) "_law_same" (spSame K n) [] := fun n => by
    induction n with
    | zero => exact cal_mk (none_ok (fun vs H Q E h => by obtain ⟨_, _, _, _, _, _, h, _⟩ := h; omega)) m17 k17 b17
    | succ n ih => exact cal_mk (ok_same F17 T ih) m17 k17 b17
  have orig : ∀ n : Nat, CalG l.prog w K mg base (2 * n + 20) "_law_looked" (spLooked K n) [] → CalG l.prog w K mg base (2 * n + 21) "_law_origin" (spOrigin K n) [] := fun n c => calG_mk (ok_origin F25 T y_repr c) m25 k25 b25
  have looked : ∀ n : Nat, CalG l.prog w K mg base (2 * n + 20) "_law_looked" (spLooked K n) [] := fun n => by
    induction n with
    | zero => exact calG_mk (FnG.of_ok (none_ok (fun vs H Q E h => by obtain ⟨_, _, _, _, t, _, _, _, _, _, _, _, _, _, _, _, _, _, _, h, _⟩ := h; have := t.ht_pos; omega))) m26 k26 b26
    | succ n ih => exact calG_mk (ok_looked F26 T (mts 20) (orig n ih)) m26 k26 b26
  have pts : C8.Cal l.prog w K mg base 1 "_law_parts" (spPt K) [] := cal_mk (ok_pts F13 T) m13 k13 b13
  have chgs : ∀ n : Nat, C8.Cal l.prog w K mg base (n + 2) "_law_changed" (spChg K n) [] := fun n => by
    induction n with
    | zero => exact cal_mk (none_ok (fun vs H Q E h => by obtain ⟨_, _, _, _, t, _, _, _, _, _, _, _, _, h, _⟩ := h; have := t.ht_pos; omega)) m27 k27 b27
    | succ n ih => exact cal_mk (ok_chg F27 T take pts ih) m27 k27 b27
  exact ok_law F28 T pool take words box (overs 5) src (trls 40) (chgs 40) (orig 60 (looked 60)) so (sames 200)
theorem walk {l : PySem.W.OpenLaw} {q : Program} {loose : List Str} {XP : (Str → Option Value) → Heap → Prop} {YP : World → Heap → Prop} {d : DefRec} {K : Params → PySem.W.Frag} (hn : l.most = some 63) (hdf : d.params.defaults = [])
    (hY : ∀ (w : World) (h : Heap), YP w h → (K w.params).In h)
    (F : ∀ (w : World) (mg : Str → Option Value) (fa : Addr) (h : Heap), (K w.params).In h → h.Ns mainGlobals mg → mg d.name = some (.ref fa) →
      ∃ fd : FuncData, (∀ (s : Shared) (u : Value), BindsTo s fd ⟨[u], []⟩ [("script", u)]) ∧ ∀ base : Heap, (K w.params).In base → base.Ns mainGlobals mg → FnG.FnG l.prog w (K w.params) mg base CX0 201 fa fd ["script"] (spLaw (K w.params))) :
    PySem.W.WalkO q loose XP YP l.row.toRowW d [] (fun f vs => PySem.call f vs) :=
  FnG.walk_ofG (n := 63) (k := 201) (x := "script") (CX := fun _ => CX0) (sp := fun w => spLaw (K w.params)) hn (by decide) hdf ⟨rfl, by decide, by decide⟩ hY F (fun _ _ a ns hl hS => ⟨a, ns, rfl, hS, hl, fun _ => rfl⟩) fun _ _ _ _ _ z => z
end PK
open PySem PySem.W PyProof.Rows in
set_option maxRecDepth 100000 in
set_option maxHeartbeats 0 in
theorem PySem.Challenge.cw_passproven_k59_terms_without_sources_holds : PySem.Challenge.rw_passproven_k59_terms_without_sources.Holds := by
  w_on; o_law; k_head; (case hw => w_witness2)
  k_fill
  refine PK.walk (l := PySem.Challenge.rw_passproven_k59_terms_without_sources) rfl rfl (fun w h Y => PySem.W.kIn_of Y) ?F
  case F =>
    intro w mg fa h KX G hmg
    refine' PK.all_mk KX G hmg ?a1 ?l1 ?c1 ?k1 ?a2 ?l2 ?c2 ?k2 ?a3 ?l3 ?c3 ?k3 ?a4 ?l4 ?c4 ?k4 ?a5 ?l5 ?c5 ?k5 ?a6 ?l6 ?c6 ?k6 ?a7 ?l7 ?c7 ?k7 ?a8 ?l8 ?c8 ?k8 ?a9 ?l9 ?c9 ?k9 ?a10 ?l10 ?c10 ?k10 ?a11 ?l11 ?c11 ?k11 ?a12 ?l12 ?c12 ?k12 ?a13 ?l13 ?c13 ?k13 ?a14 ?l14 ?c14 ?k14 ?a15 ?l15 ?c15 ?k15 ?a16 ?l16 ?c16 ?k16 ?a17 ?l17 ?c17 ?k17 ?a18 ?l18 ?c18 ?k18 ?a19 ?l19 ?c19 ?k19 ?a20 ?l20 ?c20 ?k20 ?a21 ?l21 ?c21 ?k21 ?a22 ?l22 ?c22 ?k22 ?a23 ?l23 ?c23 ?k23 ?a24 ?l24 ?c24 ?k24 ?a25 ?l25 ?c25 ?k25 ?a26 ?l26 ?c26 ?k26 ?a27 ?l27 ?c27 ?k27 ?a28 ?l28 ?c28 ?k28 ?z_len ?z_int ?z_range ?z_min ?z_str ?z_tuple ?z_sorted ?z_isinstance ?z_any ?z_all ?z_list ?z_bool ?z_zip ?z_reversed ?z_dict ?z_sum ?z_repr ?gtaF ?ltaF
    (case a1 => k_is)
    (case l1 => k_is)
    (case c1 => k_is)
    (case k1 => k_is)
    (case a2 => k_is)
    (case l2 => k_is)
    (case c2 => k_is)
    (case k2 => k_is)
    (case a3 => k_is)
    (case l3 => k_is)
    (case c3 => k_is)
    (case k3 => k_is)
    (case a4 => k_is)
    (case l4 => k_is)
    (case c4 => k_is)
    (case k4 => k_is)
    (case a5 => k_is)
    (case l5 => k_is)
    (case c5 => k_is)
    (case k5 => k_is)
    (case a6 => k_is)
    (case l6 => k_is)
    (case c6 => k_is)
    (case k6 => k_is)
    (case a7 => k_is)
    (case l7 => k_is)
    (case c7 => k_is)
    (case k7 => k_is)
    (case a8 => k_is)
    (case l8 => k_is)
    (case c8 => k_is)
    (case k8 => k_is)
    (case a9 => k_is)
    (case l9 => k_is)
    (case c9 => k_is)
    (case k9 => k_is)
    (case a10 => k_is)
    (case l10 => k_is)
    (case c10 => k_is)
    (case k10 => k_is)
    (case a11 => k_is)
    (case l11 => k_is)
    (case c11 => k_is)
    (case k11 => k_is)
    (case a12 => k_is)
    (case l12 => k_is)
    (case c12 => k_is)
    (case k12 => k_is)
    (case a13 => k_is)
    (case l13 => k_is)
    (case c13 => k_is)
    (case k13 => k_is)
    (case a14 => k_is)
    (case l14 => k_is)
    (case c14 => k_is)
    (case k14 => k_is)
    (case a15 => k_is)
    (case l15 => k_is)
    (case c15 => k_is)
    (case k15 => k_is)
    (case a16 => k_is)
    (case l16 => k_is)
    (case c16 => k_is)
    (case k16 => k_is)
    (case a17 => k_is)
    (case l17 => k_is)
    (case c17 => k_is)
    (case k17 => k_is)
    (case a18 => k_is)
    (case l18 => k_is)
    (case c18 => k_is)
    (case k18 => k_is)
    (case a19 => k_is)
    (case l19 => k_is)
    (case c19 => k_is)
    (case k19 => k_is)
    (case a20 => k_is)
    (case l20 => k_is)
    (case c20 => k_is)
    (case k20 => k_is)
    (case a21 => k_is)
    (case l21 => k_is)
    (case c21 => k_is)
    (case k21 => k_is)
    (case a22 => k_is)
    (case l22 => k_is)
    (case c22 => k_is)
    (case k22 => k_is)
    (case a23 => k_is)
    (case l23 => k_is)
    (case c23 => k_is)
    (case k23 => k_is)
    (case a24 => k_is)
    (case l24 => k_is)
    (case c24 => k_is)
    (case k24 => k_is)
    (case a25 => k_is)
    (case l25 => k_is)
    (case c25 => k_is)
    (case k25 => k_is)
    (case a26 => k_is)
    (case l26 => k_is)
    (case c26 => k_is)
    (case k26 => k_is)
    (case a27 => k_is)
    (case l27 => k_is)
    (case c27 => k_is)
    (case k27 => k_is)
    (case a28 => k_is)
    (case l28 => k_is)
    (case c28 => k_is)
    (case k28 => k_is)
    (case z_len => k_is)
    (case z_int => k_is)
    (case z_range => k_is)
    (case z_min => k_is)
    (case z_str => k_is)
    (case z_tuple => k_is)
    (case z_sorted => k_is)
    (case z_isinstance => k_is)
    (case z_any => k_is)
    (case z_all => k_is)
    (case z_list => k_is)
    (case z_bool => k_is)
    (case z_zip => k_is)
    (case z_reversed => k_is)
    (case z_dict => k_is)
    (case z_sum => k_is)
    (case z_repr => k_is)
    (case gtaF => k_is)
    (case ltaF => k_is)
#print axioms PySem.Challenge.cw_passproven_k59_terms_without_sources_holds
