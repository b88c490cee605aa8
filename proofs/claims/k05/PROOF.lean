import PyProof.Rows.All
import Wide.All
import OpenK.AllK
import Wide.FinOn
import HandS.ForMost
import HandS.Wide
import HandS.IsInst
import HandS.More
import HandS.Conv
import HandS.Codes
import HandS.ForExc
import HandS.ExcInit
import HandS.ExcField
import HandS.TryMany
import KE.GoesEnum
import KE.KExcIs
import HandS.ExcIs
import HandS.Zip
import PyProof.ListNew
import HandS.Walk
import HandS.Style
import HandS.Flow
import PyProof.AttrMissHeap
import HandS.List
import PyProof.EqLayable
import HandS.TupSets
import HandS.SetTxt0
import HandS.CallSlots
import HandS.MakeKwOnly
import PyProof.NeData
import PyProof.Rows.SortShellAny
import HandS.Deep
import PyProof.ReprRoads
import HandS.Dict
import HandS.ListItems
import HandS.Ends
import HandS.Words
import HandS.GenCall
import HandS.GenList
import HandS.GenOver
import KE.KxText
import HandS.Star
import HandS.Rev
import HandS.DictComp
import HandS.Defaults
import HandS.TryOnly
import HandS.TupAny
import PyProof.ReprBulk
import PySem.Challenge.RW_passproven_k05_filling
set_option Elab.async false
set_option linter.all false
set_option maxRecDepth 100000
namespace PKR
open PySem L2
/-! ### one of two walks, as it comes -/
theorem pi_or {X : Cx} {tg iter : Expr} {w1 w2 : TI} (a : PI X tg iter w1) (b : PI X tg iter w2) : PI X tg iter (fun σ H R => w1 σ H R ∨ w2 σ H R) :=
  ⟨fun pins s σ H R I h => h.elim (a.run pins s σ H R I) (b.run pins s σ H R I)⟩
/-! ### enumerate over a tuple -/
set_option maxHeartbeats 2000000 in
theorem meets_enum_any {v : Value} {o : Obj} {Hh : Heap → Prop} (B : Begins v o Hh) :
    Meets (Builtin.«enumerate.__new__» ⟨[.type "enumerate", v], []⟩) (fun _ R s => Hh s.heap ∧
      R (.ok (.ret (.ref (s.heap.push o).objs.size))) { s with heap := (s.heap.push o).push { cls := .type "enumerate", data := .fields #[.none, .bool false, .ref s.heap.objs.size, rawInt 0, .none, .none] } }) := by
  refine .of_wp fun prog w A R s h => ?_
  obtain ⟨hp, g, d, tk, os⟩ := s
  obtain ⟨hH, hR⟩ := h
  have sub_e := sub_enumerate
  have it_v : ∀ {A' : Around} {E Q : Value → Shared → Prop}, Q (.ref hp.objs.size) ⟨hp.push o, g, d, tk, os⟩ → wpAny (model prog w) A' (pyIter v) Q E ⟨hp, g, d, tk, os⟩ := fun z => B.iter prog w _ _ ⟨hp, g, d, tk, os⟩ _ hH z
  wp_walk using it_v
  refine wpAny_stack_any fun st => wpAny_pure ?_
  split
  · rename_i c _ _ _ _ _
    cases (c == Value.type "enumerate") <;> (wp_walk using it_v; exact ⟨_, rfl, hR⟩)
  · wp_walk using it_v
    exact ⟨_, rfl, hR⟩
theorem call_enum_any {prog : Program} {w : World} {A : Around} {E : Value → Shared → Prop} {s : Shared} {v : Value} {o : Obj} {Hh : Heap → Prop} {Q : Value → Shared → Prop} (B : Begins v o Hh) (hH : Hh s.heap)
    (hq : ∀ h', IsEnum h' (s.heap.objs.size + 1) s.heap.objs.size 0 .none → h'.get? s.heap.objs.size = some o → (∀ b u, s.heap.get? b = some u → h'.get? b = some u) → Q (.ref (s.heap.objs.size + 1)) { s with heap := h' }) :
    wpAny (model prog w) A (call (.type "enumerate") [v]) Q E s := by
  refine callType_new F.called_enumerate (by decide) (F.typeCall_enumerate_1 _) (F.newCall_enumerate_1 _) (fun obj => F.args_object_init_2 obj _) F.entry_enumerate_new (meets_enum_any B) ⟨hH, ?_⟩
  have sz : (s.heap.push o).objs.size = s.heap.objs.size + 1 := Heap.size_push ..
  show _ ∧ _
  rw [sz]
  have en : IsEnum ((s.heap.push o).push { cls := .type "enumerate", data := .fields #[.none, .bool false, .ref s.heap.objs.size, rawInt 0, .none, .none] }) (s.heap.objs.size + 1) s.heap.objs.size 0 .none := by
    have g := Heap.get?_push_size (s.heap.push o) (o := { cls := .type "enumerate", data := .fields #[.none, .bool false, .ref s.heap.objs.size, rawInt 0, .none, .none] }) rfl
    rw [sz] at g
    exact g
  exact ⟨⟨_, en, rfl⟩, hq _ en (Heap.get?_push_of_some _ (Heap.get?_push_size _ B.free)) fun b u z => Heap.get?_push_of_some _ (Heap.get?_push_of_some _ z)⟩
/-- the tuple at a, each item in a new pair with its number -/
def ItE (K : PySem.W.Frag) (a : Addr) : It :=
  ⟨fun i H => ∃ (xs : List V) (x : V), SqT K H a xs ∧ xs[i]? = some x, fun i H v H' => ∃ T x, v = .ref T ∧ H T = none ∧ H' = upd H T (.tup [.int (i : Nat), x]) ∧ ∀ xs, SqT K H a xs → xs[i]? = some x, fun i H => ∃ xs : List V, SqT K H a xs ∧ xs.length = i⟩
theorem pair_mem {b e it : Addr} (h : b ∈ [e, it]) : b = e ∨ b = it := by simpa using h
theorem turn_enumT {P : Program} {w : World} {K : PySem.W.Frag} {es : List Expr} {k : Nat} {pos : Pos} (a e it : Addr) :
    Turn P w K (.Tuple es k pos) (ItE K a) [e, it] e (fun i h => (∃ old, IsEnum h e it ((i : Nat) : Int) old) ∧ h.IsTupleIter it a i ∧ e ≠ it ∧ a ≠ it ∧ e ≠ a) where
  mem := List.mem_cons_self
  obj := fun i h st b hb => by
    obtain ⟨⟨old, he⟩, ⟨o, ho, _, hd⟩, _⟩ := st
    rcases pair_mem hb with rfl | rfl
    · exact ⟨_, he, fun v q => nomatch q⟩
    · exact ⟨o, ho, fun v q => by rw [hd] at q; cases q⟩
  keep := fun i h h' st k => by
    obtain ⟨⟨old, he⟩, hi, ne⟩ := st
    exact ⟨⟨old, k e List.mem_cons_self _ he⟩, hi.at fun o q => k it (List.mem_cons_of_mem _ List.mem_cons_self) o q, ne⟩
  item := by
    intro X eP ew eK calm i pins s σ H E I free st go
    subst eP ew eK
    obtain ⟨⟨old, he⟩, hi, ne, na, nea⟩ := st
    obtain ⟨xs, x, hx, gx⟩ := go
    obtain ⟨its, rv, pT, _⟩ := I.tuple hx
    obtain ⟨u, gu, ru⟩ := rv.get gx
    have hh : X.A.handled = none := I.ok.hd calm
    have D := Draws.tuple (prog := X.prog) (w := X.w) (A := X.A.in1) hh it a na its.toArray
    have lt : i < its.toArray.size := by
      have := (List.getElem?_eq_some_iff.mp gu).1
      simpa using this
    have be := Heap.lt_size he
    have bi : it < s.heap.objs.size := by obtain ⟨_, q, _⟩ := hi; exact Heap.lt_size q
    refine wpAny_pyNext_enum_itemD D he ⟨hi, show s.heap.IsTuple a its.toArray from pT⟩ lt ne (fun m => (pair_mem m).elim ne nea) fun y h1 tk hy out st1 hT _ old1 => ?_
    have ey : y = u := by
      have : its.toArray[i]? = some u := by simpa using gu
      rw [hy] at this
      exact Option.some.inj this
    subst ey
    refine ⟨_, rfl, wpAny_letOwnedTupleGo_enum (s := { s with heap := h1, toks := tk + 1 }) out fun h2 en sb => ?_⟩
    have hT2 := (sb.2 _ (Nat.ne_of_gt be)).trans hT
    have obj : ObjOk X.prog X.w (upd H s.heap.objs.size (.tup [.int (i : Nat), x])) h2 s.heap.objs.size (.tup [.int (i : Nat), x]) :=
      ⟨by show 2 ≤ sizeLine; decide, [.int i tk, y], .cons ⟨_, rfl⟩ (.cons ru .nil), ⟨_, hT2, rfl, _, rfl⟩⟩
    have J : Inv X pins σ (upd H s.heap.objs.size (.tup [.int (i : Nat), x])) { s with heap := h2, toks := tk + 1 } :=
      I.turnedNew (ch := [e, it]) (fun b ob nb q => by
        have n1 : b ≠ e := fun z => nb (by rw [z]; exact List.mem_cons_self)
        have n2 : b ≠ it := fun z => nb (by rw [z]; exact List.mem_cons_of_mem _ List.mem_cons_self)
        exact (sb.2 b n1).trans (old1 b ob n1 n2 q)) free (Nat.le_refl _) obj
    refine ⟨.ref s.heap.objs.size, _, J, rfl, ⟨_, x, rfl, I.hok.fresh (Nat.le_refl _), rfl, fun ys hy' => by rw [I.tuple_inj hy' hx]; exact gx⟩, ⟨⟨y, ?_⟩, st1.1.at fun o q => (sb.2 it ne.symm).trans q, ne, na, nea⟩, fun b hb => ?_⟩
    · rw [show ((i + 1 : Nat) : Int) = (i : Int) + 1 by omega]
      exact en
    · have lb : b < s.heap.objs.size := by
        rcases pair_mem hb with rfl | rfl
        · exact be
        · exact bi
      rw [upd_ne (Nat.ne_of_lt lb)]
      exact (free b hb).1
  done := by
    intro X eP ew eK calm i pins s σ H E I free st stop
    subst eP ew eK
    obtain ⟨⟨old, he⟩, hi, ne, na, nea⟩ := st
    obtain ⟨xs, hx, lx⟩ := stop
    obtain ⟨its, rv, pT, _⟩ := I.tuple hx
    have hh : X.A.handled = none := I.ok.hd calm
    have D := Draws.tuple (prog := X.prog) (w := X.w) (A := X.A.in1) hh it a na its.toArray
    have ei : its.toArray.size = i := by rw [List.size_toArray, ← rv.length, lx]
    obtain ⟨f0, f1, f2, f3, f4, f5⟩ := free it (List.mem_cons_of_mem _ List.mem_cons_self)
    exact wpAny_pyNext_enum_endD D he ⟨by rw [ei]; exact hi, show s.heap.IsTuple a its.toArray from pT⟩ fun h2 old1 => ⟨rfl, I.turned (t' := s.toks) (fun b o nb q => old1 b o nb q) f0 f1 f3 f4 f5⟩
  self := fun A i s Q E st h => by
    obtain ⟨⟨_, he⟩, _⟩ := st
    exact wpAny_pyIter_enum he h
def iEnumT (K : PySem.W.Frag) (ta : TA) : TI := fun σ H R => ta σ H fun vs H1 => ∃ a xs, vs = [.ref a] ∧ SqT K H1 a xs ∧ R (ItE K a) H1
theorem pi_enumT {X : Cx} {e : Expr} {ta : TA} {p pos tpos : Pos} {es : List Expr} {k : Nat} (hg : Gl X "enumerate") (hm : X.mg "enumerate" = none) (ha : PA X [e] ta) (hs : starEach [e] X.env = [(false, eval e X.env)] := by rfl) :
    PI X (.Tuple es k tpos) (.Call (.Name "enumerate" p) [e] [] pos) (iEnumT X.K ta) := by
  refine ⟨fun pins s σ H R I h => PyProof.Rows.Call_ (ld_blt I hg hm PyProof.Rows.boot_enumerate (PyProof.Rows.callWith_type1 (thn (ha.run pos pins s σ H _ I h) fun us s1 hz => ?_) hs rfl))⟩
  obtain ⟨vs, H1, I1, rs, a, xs, rfl, hx, q⟩ := hz
  cases rs with
  | cons r rest =>
    cases rest
    cases r
    obtain ⟨its, rv, pT, _⟩ := I1.tuple hx
    have la : a < s1.heap.objs.size := pT.lt
    refine call_enum_any (begins_tuple a its.toArray) (show s1.heap.IsTuple a its.toArray from pT) fun h2 en gi old => wpAny_pyIter_enum en ?_
    have J : Inv X pins σ H1 { s1 with heap := h2 } := I1.kept (t' := s1.toks) old
    have na : a ≠ s1.heap.objs.size := Nat.ne_of_lt la
    have nea : s1.heap.objs.size + 1 ≠ a := Nat.ne_of_gt (Nat.lt_succ_of_lt la)
    refine ⟨_, [s1.heap.objs.size + 1, s1.heap.objs.size], _, _, H1, rfl, J, turn_enumT a (s1.heap.objs.size + 1) s1.heap.objs.size, ⟨⟨.none, en⟩, ⟨_, gi, rfl, rfl⟩, Nat.succ_ne_self _, na, nea⟩, fun b hb => ?_, q⟩
    have lb : s1.heap.objs.size ≤ b := by
      rcases pair_mem hb with rfl | rfl
      · exact Nat.le_succ _
      · exact Nat.le_refl _
    exact I1.fpOk lb (I1.hok.fresh lb)
/-! ### an empty tuple and another one -/
def rCat0 (K : PySem.W.Frag) : R2 := fun x y H Q => ∃ a b ys, x = .ref a ∧ y = .ref b ∧ SqT K H a [] ∧ SqT K H b ys ∧ Q (.ref b) H
theorem op_cat0 {X : Cx} : OpR X (binaryOp .Add) (rCat0 X.K) := by
  intro pins s σ H x y v u Q I rx ry h
  obtain ⟨a, b, ys, rfl, rfl, ha, hb, q⟩ := h
  cases rx
  cases ry
  obtain ⟨i1, r1, p1, _⟩ := I.tuple ha
  obtain ⟨i2, r2, p2, _⟩ := I.tuple hb
  cases r1
  obtain ⟨⟨c1, d1, t1, l1⟩, g1, e1, n1, f1⟩ := id p1
  obtain ⟨⟨c2, d2, t2, l2⟩, g2, e2, n2, f2⟩ := id p2
  simp only at e1 f1 e2 f2
  subst e1 f1 e2 f2
  exact PySem.concat_meets ⟨_, g1, rfl⟩ ⟨_, g2, rfl⟩ PySem.noFill_tuple_add PySem.seq_tuple_add PySem.F.slot_tuple_add PySem.F.entry_tuple_add (PySem.F.args_tuple_add_2 _ _)
    (PyProof.Rows.tuple_addW0 a b #[] i2.toArray n1 n2 d1 d2 l1 l2 rfl) ⟨g1, g2, ⟨.ref b, H, I, rfl, q⟩⟩
/-- t + u -/
def rCatA (K : PySem.W.Frag) : R2 := fun x y H Q => rCatT K x y H Q ∨ rCat0 K x y H Q
theorem op_catA {X : Cx} : OpR X (binaryOp .Add) (rCatA X.K) := op_catT.or op_cat0
end PKR
/-! a try with several clauses 'except X as n', every one with its own suite -/
namespace L2.PKR
open PySem PySem.Spec PyProof.Rows
abbrev Suite := Addr → Value → Option Addr → TS
/-- the ends of a suite whose name is given back -/
def offEnds (i : Nat) (D : Ends) : Ends := ⟨fun p q => D.nx (p.set i none) q, D.rt, fun p q => D.bk (p.set i none) q, fun p q => D.ct (p.set i none) q⟩
/-- the wish of the clauses, in their order -/
def wRow (K : PySem.W.Frag) (Wout : WX) (D : Ends) : List (Value × Nat × Suite) → WX
  | [] => Wout
  | (c, i, ts) :: rest => fun cls d σ H =>
    ∃ yes, PySem.W.exmOne K cls c = some yes ∧ (yes = true → ∀ a, H a = none → ts a cls d (offEnds i D) (σ.set i (some (.ref a))) H) ∧ (yes = false → wRow K Wout D rest cls d σ H)
/-- the exception at a, caught and on the ground -/
structure Down (X : Cx) (pins : List (Addr × Obj)) (B : Heap) (a : Addr) (before : Shared) (σ : St) (H : Hp) (cls : Value) (d : Option Addr) (s : Shared) : Prop where
  inv : Inv X pins σ H before
  base : ∀ b o, before.heap.get? b = some o → b ∉ frs X.stack → B.get? b = some o
  slots : before.heap.UpToSlots s.heap
  fly : HandSPX.FlyingZ B (X.env :: X.outer) a (Zc cls d) s.heap
  out : H a = none
  os : s.os = before.os
  bare : AllBare s.gens
section
variable {X : Cx} {pins : List (Addr × Obj)} {B : Heap} {a : Addr} {before s : Shared} {σ : St} {H : Hp} {cls : Value} {d : Option Addr} {D : Ends} {Wout : WX}
theorem Down.here (z : Down X pins B a before σ H cls d s) : Inv X pins σ H s := z.inv.landed z.base z.fly.1 z.slots z.os z.bare
/-- its object, and that it is none of the frames' -/
theorem Down.obj (hf : X.env.frame = some X.env.locals) (z : Down X pins B a before σ H cls d s) : ∃ oe vs, s.heap.get? a = some oe ∧ Zc cls d oe ∧ oe.data = .fields vs ∧ a ≠ X.env.locals ∧ a ∉ X.fs := by
  obtain ⟨oe, vs, he, hz, hd⟩ := z.fly.there
  have nfr : a ∉ frs (X.env :: X.outer) := fun hm => by
    obtain ⟨_, o2, e2, no⟩ := z.fly.2.2.1.mem hm
    rw [he] at e2
    cases e2
    exact no _ hd
  refine ⟨oe, vs, he, hz, hd, fun q => nfr (List.mem_filterMap.mpr ⟨X.env, .head _, by rw [hf, q]⟩), fun q => ?_⟩
  obtain ⟨en, m, r⟩ := List.mem_filterMap.mp q
  exact nfr (List.mem_filterMap.mpr ⟨en, .tail _ m, r⟩)
theorem Down.more (z : Down X pins B a before σ H cls d s) {h : Heap} (fl : HandSPX.FlyingZ B (X.env :: X.outer) a (Zc cls d) h) (up : s.heap.UpToSlots h) : Down X pins B a before σ H cls d { s with heap := h } :=
  ⟨z.inv, z.base, z.slots.trans up, fl, z.out, z.os, z.bare⟩
/-- no clause is left -/
theorem row_nil (hs : X.stack = X.env :: X.outer) (hf : X.env.frame = some X.env.locals) (tk : Takes X Wout) (z : Down X pins B a before σ H cls d s) (w : Wout cls d σ H) :
    wpAny (model X.prog X.w) X.A (handleBy (.ref a) X.env []) (SP X pins D) X.xe s := by
  refine wpAny_handleBy_nil ?_
  obtain ⟨_, _, _, oe, vs, T, _, _, he, _, hd, h1, _⟩ := id z.fly
  unfold PySem.passOn
  refine wpAny_bind (wpAny_field he hd h1 ?_)
  rw [if_neg (show ¬ ((Value.ref T == Value.none) = true) by simp)]
  have last : wpAny (model X.prog X.w) X.A (setFlight (.ref a) X.env.frame) (fun _ s2 => wpAny (model X.prog X.w) X.A (throw (.ref a) : Sem Flow) (SP X pins D) X.xe s2) X.xe s := by
    rw [hf]
    refine HandSPX.setFlight_upZ z.fly fun h2 held up => wpAny_throw (tk _ _ ?_)
    exact ⟨a, B, before, pins, σ, H, cls, d, rfl, z.inv, z.base, z.slots.trans up, .inr (.inr (by rw [hs]; exact held)), z.out, z.os, z.bare, w⟩
  first
    | exact wpAny_bind (wpAny_pure (wpAny_bind last))
    | exact wpAny_bind last
/-- one clause -/
theorem row_cons {x n : Str} {c : Value} {i : Nat} {b₀ : Stmt} {more : List Stmt} {np pos : Pos} {ts : Suite} {hds : List ExceptHandler} {yes : Bool} (hf : X.env.frame = some X.env.locals) (hN : X.N.Nodup) (hi : X.N[i]? = some n)
    (hl : X.env.kindOf n = some .local) (hc : Names X x c)
    (body : ∀ (a : Addr) (oe : Obj) (cls : Value) (d : Option Addr) (pn : List (Addr × Obj)), Zc cls d oe → (∃ vs, oe.data = .fields vs) → PSs (X.suite a ((a, oe) :: pn)) (b₀ :: more) (ts a cls d))
    (z : Down X pins B a before σ H cls d s) (hy : PySem.W.exmOne X.K cls c = some yes) (t : yes = true → ts a cls d (offEnds i D) (σ.set i (some (.ref a))) H)
    (f : yes = false → wpAny (model X.prog X.w) X.A (handleBy (.ref a) X.env hds) (SP X pins D) X.xe s) :
    wpAny (model X.prog X.w) X.A (handleBy (.ref a) X.env (.ExceptHandler (some (.Name x np)) (some n) (b₀ :: more) pos :: hds)) (SP X pins D) X.xe s := by
  have ok := z.inv.ok
  obtain ⟨oe, vs, he, hz, hd, nL, nF⟩ := z.obj hf
  have S := z.here.suite he hd z.out nL nF
  refine wpAny_handleBy_cons (codeAny_handlers_test ?_) (fun q => nomatch q)
  have ty : PySem.W.Looks (model X.prog X.w) s.heap (typeOf (.ref a)) cls := fun _ _ _ _ k q => wpAny_typeOf_ref (k _ _ he) (by rw [hz.1]; exact q)
  have isIt := PySem.W.exm_one (M := model X.prog X.w) z.here.kIn ty hy
  have named : ∀ {Q E : Value → Shared → Prop}, Q c s → wpAny (model X.prog X.w) (X.A.mark (some (.ref a))) (eval (.Name x np) X.env) Q E s := fun {Q E} q => by
    obtain ⟨hg, nd, hm | ⟨hm, hv, hn⟩⟩ := hc
    · exact ld_glob (X := X.suite a ((a, oe) :: (X.pn ++ pins))) S hg hm q nd
    · exact ld_blt (X := X.suite a ((a, oe) :: (X.pn ++ pins))) S hg hm hv q hn nd
  refine named (isIt.here ?_)
  cases yes with
  | false => exact f rfl
  | true =>
    refine codeAny_handlers_suite_as (HandSPX.lands_againZ z.fly fun h2 fl up => ?_)
    have z2 := z.more fl up
    obtain ⟨oe2, vs2, he2, hz2, hd2, nL2, nF2⟩ := z2.obj hf
    refine store_ok (X := X.suite a ((a, oe2) :: (X.pn ++ pins))) (v := .ref a) (z2.here.suite he2 hd2 z.out nL2 nF2) hN hi (.inl hl) rfl (fun s3 S3 => ?_) (.inr hl)
    have run := (body a oe2 cls d (X.pn ++ pins) hz2 ⟨_, hd2⟩).run [] s3 (σ.set i (some (.ref a))) H (offEnds i D) S3 (t rfl)
    have gone : ∀ {p : St} {q : Hp} {s4 : Shared} {Q : Shared → Prop}, Inv (X.suite a ((a, oe2) :: (X.pn ++ pins))) [] p q s4 → (∀ s5, Inv X pins (p.set i none) q s5 → Q s5) →
        wpAny (model X.prog X.w) X.A (do bindName X.env n .none; unbindBehindTheSuite X.env n pos) (fun _ s5 => Q s5) X.xe s4 := fun S4 k => gone_ok (S4.unsuite ok) hN hi hl k
    refine wpAny_mono run (fun fl4 s4 done => ?_) (fun _ _ no => False.elim no)
    rcases fl4 with _ | _ | _ | u
    · obtain ⟨p, q, S4, k⟩ := done
      exact gone S4 fun s5 J => ⟨_, _, J, k⟩
    · obtain ⟨p, q, S4, k⟩ := done
      exact gone S4 fun s5 J => ⟨_, _, J, k⟩
    · obtain ⟨p, q, S4, k⟩ := done
      exact gone S4 fun s5 J => ⟨_, _, J, k⟩
    · obtain ⟨v, p, q, S4, r, k⟩ := done
      exact gone S4 fun s5 J => ⟨_, _, _, J, r, k⟩
end
/-- the clauses and their wishes -/
inductive Row (X : Cx) : List ExceptHandler → List (Value × Nat × Suite) → Prop
  | nil : Row X [] []
  | cons {x n : Str} {c : Value} {i : Nat} {b₀ : Stmt} {more : List Stmt} {np pos : Pos} {ts : Suite} {hds : List ExceptHandler} {l : List (Value × Nat × Suite)} (hi : X.N[i]? = some n) (hl : X.env.kindOf n = some .local) (hc : Names X x c)
      (body : ∀ (a : Addr) (oe : Obj) (cls : Value) (d : Option Addr) (pn : List (Addr × Obj)), Zc cls d oe → (∃ vs, oe.data = .fields vs) → PSs (X.suite a ((a, oe) :: pn)) (b₀ :: more) (ts a cls d)) (r : Row X hds l) :
      Row X (.ExceptHandler (some (.Name x np)) (some n) (b₀ :: more) pos :: hds) ((c, i, ts) :: l)
theorem row_runs {X : Cx} {pins : List (Addr × Obj)} {B : Heap} {a : Addr} {before s : Shared} {σ : St} {H : Hp} {cls : Value} {d : Option Addr} {D : Ends} {Wout : WX} (hs : X.stack = X.env :: X.outer) (hf : X.env.frame = some X.env.locals) (hN : X.N.Nodup) (tk : Takes X Wout)
    {hds : List ExceptHandler} {l : List (Value × Nat × Suite)} (hh : Row X hds l) (z : Down X pins B a before σ H cls d s) (w : wRow X.K Wout D l cls d σ H) : wpAny (model X.prog X.w) X.A (handleBy (.ref a) X.env hds) (SP X pins D) X.xe s := by
  induction hh with
  | nil => exact row_nil hs hf tk z w
  | cons hi hl hc body r ih =>
    obtain ⟨yes, hy, t, f⟩ := w
    exact row_cons hf hN hi hl hc body z hy (fun e => t e a z.out) fun e => ih (f e)
theorem ps_try_row {X : Cx} {body : List Stmt} {h₀ : ExceptHandler} {hds : List ExceptHandler} {l : List (Value × Nat × Suite)} {pos : Pos} {tb : WX → TS} {Wout : WX} (hs : X.stack = X.env :: X.outer) (hf : X.env.frame = some X.env.locals) (hN : X.N.Nodup) (tk : Takes X Wout)
    (hb : ∀ (W : WX) (pn : List (Addr × Obj)) (xe : Value → Shared → Prop), Takes (X.tr pn xe) W → PassesOwn (model X.prog X.w) X.A X.env xe → PSs (X.tr pn xe) body (tb W))
    (hh : Row X (h₀ :: hds) l) : PS X (.Try body (h₀ :: hds) [] [] pos) (fun D σ H => tb (wRow X.K Wout D l) D σ H) := by
  refine ⟨fun pins s σ H D I h => wpAny_Try_except ?_⟩
  have ok := I.ok
  have fr : X.A.frames = some (X.env :: X.outer) := by rw [ok.frames, hs]
  have inner := hb (wRow X.K Wout D l) (X.pn ++ pins)
    (fun e s1 => wpAny (model X.prog X.w) X.A (noteFrame e X.env) (fun _ s2 => wpAny (model X.prog X.w) X.A (setFlight e none) (fun _ s3 => wpAny (model X.prog X.w) X.A (handleBy e X.env (h₀ :: hds)) (SP X pins D) X.xe s3) X.xe s2) X.xe s1)
    (fun u s1 air => by
      obtain ⟨a, B, before, pins1, p, q, cls, d, rfl, J, base, up, sky, out, os, bare, w⟩ := air
      have J1 : Inv X pins p q before := J.ofTry ok
      refine Sky.land Zc.steady fr hf (show Sky B (X.env :: X.outer) a (Zc cls d) X.env.locals s1.heap by rw [← hs]; exact sky) fun h2 fl up2 => ?_
      exact row_runs hs hf hN tk hh (s := { s1 with heap := h2 }) ⟨J1, base, up.trans up2, fl, out, os, bare⟩ w)
    PassesOwn.looking
  refine wpAny_mono (inner.run [] s σ H D (I.toTry _) h) (fun f s1 done => ?_) (fun _ _ k => k)
  rcases f with _ | _ | _ | u
  · obtain ⟨p, q, J, k⟩ := done
    exact wpAny_execs_nil ⟨p, q, J.ofTry ok, k⟩
  · obtain ⟨p, q, J, k⟩ := done
    exact ⟨p, q, J.ofTry ok, k⟩
  · obtain ⟨p, q, J, k⟩ := done
    exact ⟨p, q, J.ofTry ok, k⟩
  · obtain ⟨v, p, q, J, r, k⟩ := done
    exact ⟨v, p, q, J.ofTry ok, r, k⟩
end L2.PKR
/-! isinstance(e, C), e a caught error of an own class with fields -/
namespace L2.PKR
open PySem PySem.Spec PyProof.Rows
def rIsX (K : PySem.W.Frag) (a : Addr) (cls : Value) (d : Option Addr) : List V → Hp → VK → Prop := fun xs H Q =>
  ∃ (c : V) (cv : Value) (yes : Bool) (D dd : Addr) (fs : List (Str × V)), xs = [.ref a, c] ∧ (∀ u, RelV c u → u = cv) ∧ cls = .ref D ∧ d = some dd ∧ H dd = some (.xd fs) ∧ ExcC K D ∧ PySem.W.kitOne K (.ref D) cv = some yes ∧ Q (.bl yes) H
theorem call_isX {X : Cx} {a : Addr} {oe : Obj} {cls : Value} {d : Option Addr} {pn : List (Addr × Obj)} (hz : Zc cls d oe) (hf : ∃ vs, oe.data = .fields vs) : CallR (X.suite a ((a, oe) :: pn)) (.builtin "isinstance") (rIsX X.K a cls d) := by
  intro pins s σ H xs us Q I r h
  obtain ⟨c, cv, yes, D, dd, fs, rfl, hcv, rfl, rfl, hx, C, hk, q⟩ := h
  rcases r with _ | ⟨rx, rr⟩
  rcases rr with _ | ⟨rc, rr⟩
  cases rr
  cases rx
  cases hcv _ rc
  have at_a := (I.pin (a, oe) (List.mem_append_left _ (.head _))).1
  obtain ⟨vs, hd⟩ := hf
  obtain ⟨mA, hns, _⟩ := (show ObjOk X.prog X.w H s.heap dd (.xd fs) from I.hok dd _ hx)
  obtain ⟨od, ho, _⟩ := lookIn_ns hns
  have J : PySem.W.InstAt s.heap a oe D (some od) := ⟨at_a, hz.1, by unfold PySem.W.notCls; rw [hd] <;> rfl, by rw [hz.2]; exact ho⟩
  obtain ⟨cd, hcd, _⟩ := PySem.W.any_some C.hd
  exact PySem.W.kia_one (PySem.W.kitx_exc (by rw [hcd]; rfl) C.hg C.hk C.hs C.ha C.hn C.ht C.hm) I.kIn J hk (fun e => nomatch e) fun tk => ⟨.bl yes, H, I.kept (t' := tk) fun _ _ k => k, rfl, q⟩
end L2.PKR
namespace PKZ
open PySem PySem.Spec PyProof.Rows L2
/-! zip of a list or a tuple with a list or a tuple, collected -/
inductive Kd where | l | t
def Kd.It : Kd → Heap → Addr → Addr → Nat → Prop
  | .l, h, i, a, k => h.IsListIter i a k
  | .t, h, i, a, k => h.IsTupleIter i a k
def Kd.Sq : Kd → Heap → Addr → Array Value → Prop
  | .l, h, a, xs => h.IsList a xs
  | .t, h, a, xs => h.IsTuple a xs
section
variable {prog : Program} {w : World} {A : Around} {E : Value → Shared → Prop} {s : Shared}
theorem Kd.it_at {kd : Kd} {h h' : Heap} {i a : Addr} {k : Nat} (q : kd.It h i a k) (e : ∀ o, h.get? i = some o → h'.get? i = some o) : kd.It h' i a k := by
  cases kd with
  | l => exact Heap.IsListIter.at q e
  | t => exact Heap.IsTupleIter.at q e
theorem Kd.sq_at {kd : Kd} {h h' : Heap} {a : Addr} {xs : Array Value} (q : kd.Sq h a xs) (e : ∀ o, h.get? a = some o → h'.get? a = some o) : kd.Sq h' a xs := by
  cases kd with
  | l => exact Heap.IsList.at q e
  | t => exact Heap.IsTuple.at q e
theorem nx_item {kd : Kd} {i a : Addr} {k : Nat} {xs : Array Value} {x : Value} {Q : Value → Shared → Prop} (q : kd.It s.heap i a k) (q2 : kd.Sq s.heap a xs) (hx : xs[k]? = some x)
    (hQ : ∀ h', kd.It h' i a (k + 1) → Heap.SameBut i s.heap h' → Q x { s with heap := h' }) : wpAny (model prog w) A (Builtin.SmallTypes.nextOf (.ref i)) Q E s := by
  cases kd with
  | l => exact wpAny_nextOf_list_item q q2 hx hQ
  | t => exact RZ.nextOf_tuple_item q q2 hx hQ
theorem nx_end {kd : Kd} {i a : Addr} {k : Nat} {xs : Array Value} {Q : Value → Shared → Prop} (hh : A.handled = none) (q : kd.It s.heap i a k) (q2 : kd.Sq s.heap a xs) (hx : xs[k]? = none)
    (hE : ∀ h' e, Heap.ExtBut i s.heap h' → (∃ o, h'.get? e = some o ∧ o.cls = .type "StopIteration") → E (.ref e) { s with heap := h' }) : wpAny (model prog w) A (Builtin.SmallTypes.nextOf (.ref i)) Q E s := by
  cases kd with
  | l => exact wpAny_nextOf_list_end hh q q2 hx hE
  | t => exact RZ.nextOf_tuple_end hh q q2 hx hE
theorem Kd.it_get {kd : Kd} {h : Heap} {i a : Addr} {k : Nat} (q : kd.It h i a k) : ∃ o, h.get? i = some o ∧ ∀ v, o.data ≠ .cell v := by
  cases kd with
  | l => obtain ⟨o, e, _, d⟩ := q; exact ⟨o, e, fun v z => by rw [d] at z; cases z⟩
  | t => obtain ⟨o, e, _, d⟩ := q; exact ⟨o, e, fun v z => by rw [d] at z; cases z⟩
/-- a zip object; b: its own pair is held elsewhere -/
abbrev Zo (h : Heap) (z TI TO : Addr) (f0 : Value) (b : Bool) : Prop :=
  h.get? z = some { cls := .type "zip", dict := none, data := .fields #[f0, .bool b, .bool false, .ref TI, .ref TO], slots := #[] }
theorem w_alive {M : Model} {a : Addr} {Q : Option Obj → Shared → Prop} (h : Q (s.heap.get? a) s) : wpAny M A (loadIfAlive a) Q E s := fun _ _ _ => h
/-- its own pair is held -/
theorem not_free {z TI TO T0 : Addr} {bb : Bool} {o0 : Obj} {Q : Bool → Shared → Prop} (hz : Zo s.heap z TI TO (rawInt T0) bb) (h0 : s.heap.get? T0 = some o0)
    (hQ : ∀ h', Zo h' z TI TO (rawInt T0) true → Heap.SameBut z s.heap h' → Q false { s with heap := h' }) : wpAny (model prog w) A (Builtin.SmallTypes.ownedTupleIsFree (.ref z)) Q E s := by
  unfold Builtin.SmallTypes.ownedTupleIsFree
  refine wpAny_bind (wpAny_field hz rfl (x := rawInt T0) rfl ?_)
  show wpAny _ _ (loadIfAlive (T0 : Int).toNat >>= _) _ _ _
  refine wpAny_bind (w_alive ?_)
  rw [Int.toNat_natCast, h0]
  show wpAny _ _ (field (.ref z) 1 >>= _) _ _ _
  refine wpAny_bind (wpAny_field hz rfl (x := .bool bb) rfl ?_)
  cases bb with
  | true => exact wpAny_pure (hQ _ hz ⟨rfl, fun _ _ => rfl⟩)
  | false =>
    show wpAny _ _ (setField (.ref z) 1 (.bool true) >>= _) _ _ _
    exact wpAny_bind (wpAny_setField_rec hz (by simp) fun h1 e1 e2 => wpAny_pure (hQ h1 e1 e2))
/-- its next pair, its own one being held -/
theorem held_item {ka kb : Kd} {z TI TO i1 i2 l1 l2 T0 : Addr} {n m : Nat} {bb : Bool} {xs ys : Array Value} {x y : Value} {o0 : Obj} {Q : Value → Shared → Prop} (D : ZipApart z TI TO i1 i2 l1 l2)
    (hz : Zo s.heap z TI TO (rawInt T0) bb) (h0 : s.heap.get? T0 = some o0) (hTI : IsPair s.heap TI (.ref i1) (.ref i2))
    (h1 : ka.It s.heap i1 l1 n) (h2 : kb.It s.heap i2 l2 m) (q1 : ka.Sq s.heap l1 xs) (q2 : kb.Sq s.heap l2 ys) (hx : xs[n]? = some x) (hy : ys[m]? = some y)
    (hQ : ∀ h', Zo h' z TI TO (rawInt T0) true → ka.It h' i1 l1 (n + 1) → kb.It h' i2 l2 (m + 1) → IsPair h' s.heap.objs.size x y → h'.objs.size = s.heap.objs.size + 1 →
      (∀ c o, c ≠ z → c ≠ i1 → c ≠ i2 → s.heap.get? c = some o → h'.get? c = some o) → Q (.ref s.heap.objs.size) { s with heap := h' }) :
    wpAny (model prog w) A (Builtin.«zip.__next__» ⟨[.ref z], []⟩) (fun fin s' => ∃ v, fin = .done (.ret v) ∧ Q v s') E s := by
  show wpAny _ _ (field (.ref z) 2 >>= _) _ _ _
  refine wpAny_bind (wpAny_field hz rfl (x := .bool false) rfl ?_)
  show wpAny _ _ (field (.ref z) 3 >>= _) _ _ _
  refine wpAny_bind (wpAny_field hz rfl (x := .ref TI) rfl (wpAny_bind (wpAny_seqItems hTI rfl ?_)))
  show wpAny _ _ (Builtin.SmallTypes.ownedTupleIsFree (.ref z) >>= _) _ _ _
  refine wpAny_bind (not_free hz h0 fun g1 z1 e1 => ?_)
  rw [if_neg Bool.false_ne_true]
  dsimp only
  refine wpAny_bind ?_
  rw [← Array.forIn_toList]
  simp only [List.forIn_cons, List.forIn_nil]
  refine wpAny_bind (wpAny_bind (wpAny_holding ?_))
  have a1 : ka.It g1 i1 l1 n := Kd.it_at h1 fun o q => e1.extBut _ _ D.i1z q
  have b1 : ka.Sq g1 l1 xs := Kd.sq_at q1 fun o q => e1.extBut _ _ D.l1z q
  show wpAny _ _ (Builtin.SmallTypes.nextOf (.ref i1) >>= _) _ _ _
  refine wpAny_bind (nx_item a1 b1 hx fun g2 a2 e2 => wpAny_pure (wpAny_pure ?_))
  dsimp only
  refine wpAny_bind (wpAny_bind (wpAny_holding ?_))
  have a3 : kb.It g2 i2 l2 m := Kd.it_at h2 fun o q => e2.extBut _ _ D.i12.symm (e1.extBut _ _ D.i2z q)
  have b3 : kb.Sq g2 l2 ys := Kd.sq_at q2 fun o q => e2.extBut _ _ D.l2i1 (e1.extBut _ _ D.l2z q)
  show wpAny _ _ (Builtin.SmallTypes.nextOf (.ref i2) >>= _) _ _ _
  refine wpAny_bind (nx_item a3 b3 hy fun g3 a4 e3 => wpAny_pure (wpAny_pure (wpAny_pure ?_)))
  have sz : g3.objs.size = s.heap.objs.size := e3.1.trans (e2.1.trans e1.1)
  have kp : ∀ c o, c ≠ z → c ≠ i1 → c ≠ i2 → s.heap.get? c = some o → g3.get? c = some o := fun c o c1 c2 c3 q => e3.extBut _ _ c3 (e2.extBut _ _ c2 (e1.extBut _ _ c1 q))
  have z3 : Zo g3 z TI TO (rawInt T0) true := e3.extBut _ _ D.i2z.symm (e2.extBut _ _ D.i1z.symm z1)
  show wpAny _ _ (newTuple [x, y] >>= _) _ _ _
  refine wpAny_bind (wpAny_newTuple (wpAny_pure ⟨_, rfl, ?_⟩))
  dsimp only
  rw [sz]
  refine hQ _ (Heap.get?_push_of_some _ z3) (Kd.it_at a2 fun o q => Heap.get?_push_of_some _ (e3.extBut _ _ D.i12 q)) (Kd.it_at a4 fun o q => Heap.get?_push_of_some _ q) ?_ (by rw [Heap.size_push, sz]) fun c o c1 c2 c3 q => Heap.get?_push_of_some _ (kp c o c1 c2 c3 q)
  rw [← sz]
  exact Heap.get?_push_size _ rfl
/-- one of the two is at its end, the own pair being held -/
theorem held_end {ka kb : Kd} {z TI TO i1 i2 l1 l2 T0 : Addr} {n m : Nat} {bb : Bool} {xs ys : Array Value} {o0 : Obj} {Q : PySem.Fin → Shared → Prop} (hh : A.handled = none) (D : ZipApart z TI TO i1 i2 l1 l2)
    (hz : Zo s.heap z TI TO (rawInt T0) bb) (h0 : s.heap.get? T0 = some o0) (hTI : IsPair s.heap TI (.ref i1) (.ref i2))
    (h1 : ka.It s.heap i1 l1 n) (h2 : kb.It s.heap i2 l2 m) (q1 : ka.Sq s.heap l1 xs) (q2 : kb.Sq s.heap l2 ys) (hend : xs[n]? = none ∨ ys[m]? = none)
    (hE : ∀ h' e, (∀ c o, c ≠ z → c ≠ i1 → c ≠ i2 → s.heap.get? c = some o → h'.get? c = some o) → (∃ o, h'.get? e = some o ∧ o.cls = .type "StopIteration") → E (.ref e) { s with heap := h' }) :
    wpAny (model prog w) A (Builtin.«zip.__next__» ⟨[.ref z], []⟩) Q E s := by
  show wpAny _ _ (field (.ref z) 2 >>= _) _ _ _
  refine wpAny_bind (wpAny_field hz rfl (x := .bool false) rfl ?_)
  show wpAny _ _ (field (.ref z) 3 >>= _) _ _ _
  refine wpAny_bind (wpAny_field hz rfl (x := .ref TI) rfl (wpAny_bind (wpAny_seqItems hTI rfl ?_)))
  show wpAny _ _ (Builtin.SmallTypes.ownedTupleIsFree (.ref z) >>= _) _ _ _
  refine wpAny_bind (not_free hz h0 fun g1 z1 e1 => ?_)
  rw [if_neg Bool.false_ne_true]
  dsimp only
  refine wpAny_bind ?_
  rw [← Array.forIn_toList]
  simp only [List.forIn_cons, List.forIn_nil]
  refine wpAny_bind (wpAny_bind (wpAny_holding ?_))
  have a1 : ka.It g1 i1 l1 n := Kd.it_at h1 fun o q => e1.extBut _ _ D.i1z q
  have b1 : ka.Sq g1 l1 xs := Kd.sq_at q1 fun o q => e1.extBut _ _ D.l1z q
  show wpAny _ _ (Builtin.SmallTypes.nextOf (.ref i1) >>= _) _ _ _
  cases hx : xs[n]? with
  | none => exact wpAny_bind (nx_end hh a1 b1 hx fun g2 e e2 he => hE g2 e (fun c o c1 c2 c3 q => e2 _ _ c2 (e1.extBut _ _ c1 q)) he)
  | some x =>
    have hy : ys[m]? = none := hend.resolve_left fun q => by rw [hx] at q; cases q
    refine wpAny_bind (nx_item a1 b1 hx fun g2 a2 e2 => wpAny_pure (wpAny_pure ?_))
    dsimp only
    refine wpAny_bind (wpAny_bind (wpAny_holding ?_))
    have a3 : kb.It g2 i2 l2 m := Kd.it_at h2 fun o q => e2.extBut _ _ D.i12.symm (e1.extBut _ _ D.i2z q)
    have b3 : kb.Sq g2 l2 ys := Kd.sq_at q2 fun o q => e2.extBut _ _ D.l2i1 (e1.extBut _ _ D.l2z q)
    show wpAny _ _ (Builtin.SmallTypes.nextOf (.ref i2) >>= _) _ _ _
    exact wpAny_bind (nx_end hh a3 b3 hy fun g3 e e3 he => hE g3 e (fun c o c1 c2 c3 q => e3 _ _ c3 (e2.extBut _ _ c2 (e1.extBut _ _ c1 q))) he)
/-- its own pair is free -/
theorem is_free {z TI TO : Addr} {Q : Bool → Shared → Prop} (hz : Zo s.heap z TI TO .none false) (hQ : Q true s) : wpAny (model prog w) A (Builtin.SmallTypes.ownedTupleIsFree (.ref z)) Q E s := by
  unfold Builtin.SmallTypes.ownedTupleIsFree
  exact wpAny_bind (wpAny_field hz rfl (x := .none) rfl (wpAny_pure hQ))
/-- its next pair, its own one being free -/
theorem free_item {ka kb : Kd} {z TI TO i1 i2 l1 l2 : Addr} {n m : Nat} {xs ys : Array Value} {x y p0 p1 : Value} {Q : Value → Shared → Prop} (D : ZipApart z TI TO i1 i2 l1 l2)
    (hz : Zo s.heap z TI TO .none false) (hTI : IsPair s.heap TI (.ref i1) (.ref i2)) (hTO : IsPair s.heap TO p0 p1)
    (h1 : ka.It s.heap i1 l1 n) (h2 : kb.It s.heap i2 l2 m) (q1 : ka.Sq s.heap l1 xs) (q2 : kb.Sq s.heap l2 ys) (hx : xs[n]? = some x) (hy : ys[m]? = some y)
    (hQ : ∀ h', Zo h' z TI TO (rawInt s.heap.objs.size) false → IsPair h' TO x y → ka.It h' i1 l1 (n + 1) → kb.It h' i2 l2 (m + 1) → IsPair h' s.heap.objs.size x y → h'.objs.size = s.heap.objs.size + 1 →
      (∀ c o, c ≠ z → c ≠ TO → c ≠ i1 → c ≠ i2 → s.heap.get? c = some o → h'.get? c = some o) → Q (.ref s.heap.objs.size) { s with heap := h' }) :
    wpAny (model prog w) A (Builtin.«zip.__next__» ⟨[.ref z], []⟩) (fun fin s' => ∃ v, fin = .done (.ret v) ∧ Q v s') E s := by
  show wpAny _ _ (field (.ref z) 2 >>= _) _ _ _
  refine wpAny_bind (wpAny_field hz rfl (x := .bool false) rfl ?_)
  show wpAny _ _ (field (.ref z) 3 >>= _) _ _ _
  refine wpAny_bind (wpAny_field hz rfl (x := .ref TI) rfl (wpAny_bind (wpAny_seqItems hTI rfl ?_)))
  show wpAny _ _ (Builtin.SmallTypes.ownedTupleIsFree (.ref z) >>= _) _ _ _
  refine wpAny_bind (is_free hz ?_)
  rw [if_pos rfl]
  refine wpAny_bind (wpAny_rule (wpAny_bind (wpAny_field hz rfl (x := .ref TO) rfl (wpAny_bind (wpAny_setField_rec hz (by simp) fun g1 z1 e1 => ?_)))))
  have z1 : Zo g1 z TI TO .ellipsis false := z1
  refine wpAny_bind ?_
  simp only [List.zipIdx_cons, List.zipIdx_nil, List.forIn_cons, List.forIn_nil]
  refine wpAny_bind (wpAny_bind (wpAny_onRaise ?_))
  have a1 : ka.It g1 i1 l1 n := Kd.it_at h1 fun o q => e1.extBut _ _ D.i1z q
  have b1 : ka.Sq g1 l1 xs := Kd.sq_at q1 fun o q => e1.extBut _ _ D.l1z q
  show wpAny _ _ (Builtin.SmallTypes.nextOf (.ref i1) >>= _) _ _ _
  refine wpAny_bind (nx_item a1 b1 hx fun g2 a2 e2 => wpAny_pure ?_)
  have t2 : IsPair g2 TO p0 p1 := e2.extBut _ _ D.TOi1 (e1.extBut _ _ D.TOz hTO)
  refine wpAny_bind (wpAny_seqItems t2 rfl (wpAny_bind (wpAny_updateSeq_pair t2 fun g3 t3 e3 => wpAny_bind (wpAny_letGo (wpAny_pure ?_)))))
  have t3 : IsPair g3 TO x p1 := t3
  refine wpAny_bind (wpAny_bind (wpAny_onRaise ?_))
  have a3 : kb.It g3 i2 l2 m := Kd.it_at h2 fun o q => e3.extBut _ _ D.TOi2.symm (e2.extBut _ _ D.i12.symm (e1.extBut _ _ D.i2z q))
  have b3 : kb.Sq g3 l2 ys := Kd.sq_at q2 fun o q => e3.extBut _ _ D.l2TO (e2.extBut _ _ D.l2i1 (e1.extBut _ _ D.l2z q))
  show wpAny _ _ (Builtin.SmallTypes.nextOf (.ref i2) >>= _) _ _ _
  refine wpAny_bind (nx_item a3 b3 hy fun g4 a4 e4 => wpAny_pure ?_)
  have t4 : IsPair g4 TO x p1 := e4.extBut _ _ D.TOi2 t3
  refine wpAny_bind (wpAny_seqItems t4 rfl (wpAny_bind (wpAny_updateSeq_pair t4 fun g5 t5 e5 => wpAny_bind (wpAny_letGo (wpAny_pure (wpAny_pure ?_))))))
  have t5 : IsPair g5 TO x y := t5
  refine wpAny_bind (wpAny_seqItems t5 rfl (wpAny_bind (wpAny_newTuple ?_)))
  have sz : g5.objs.size = s.heap.objs.size := e5.1.trans (e4.1.trans (e3.1.trans (e2.1.trans e1.1)))
  have z5 : Zo g5 z TI TO .ellipsis false := e5.extBut _ _ D.TOz.symm (e4.extBut _ _ D.i2z.symm (e3.extBut _ _ D.TOz.symm (e2.extBut _ _ D.i1z.symm z1)))
  have kp : ∀ c o, c ≠ z → c ≠ TO → c ≠ i1 → c ≠ i2 → s.heap.get? c = some o → g5.get? c = some o := fun c o c1 c2 c3 c4 q =>
    e5.extBut _ _ c2 (e4.extBut _ _ c4 (e3.extBut _ _ c2 (e2.extBut _ _ c3 (e1.extBut _ _ c1 q))))
  have k1 : ka.It g5 i1 l1 (n + 1) := Kd.it_at a2 fun o q => e5.extBut _ _ D.TOi1.symm (e4.extBut _ _ D.i12 (e3.extBut _ _ D.TOi1.symm q))
  have k2 : kb.It g5 i2 l2 (m + 1) := Kd.it_at a4 fun o q => e5.extBut _ _ D.TOi2.symm q
  have zl : z < g5.objs.size := Heap.lt_size z5
  show wpAny _ _ (Builtin.SmallTypes.ownedTupleHandOut (.ref z) (.ref g5.objs.size) >>= _) _ _ _
  refine wpAny_bind ?_
  unfold Builtin.SmallTypes.ownedTupleHandOut
  have z6 : Zo (g5.push { cls := .type "tuple", data := .seq #[x, y] }) z TI TO .ellipsis false := Heap.get?_push_of_some _ z5
  refine wpAny_bind (wpAny_setField_rec z6 (by simp) fun g7 z7 e7 => wpAny_setField_rec (show Zo g7 z TI TO (rawInt g5.objs.size) false from z7) (by simp) fun g8 z8 e8 => wpAny_pure ⟨_, rfl, ?_⟩)
  have up : ∀ c o, c ≠ z → g5.get? c = some o → g8.get? c = some o := fun c o c1 q => e8.extBut _ _ c1 (e7.extBut _ _ c1 (Heap.get?_push_of_some _ q))
  have t8 : IsPair g8 g5.objs.size x y := e8.extBut _ _ (Nat.ne_of_gt zl) (e7.extBut _ _ (Nat.ne_of_gt zl) (Heap.get?_push_size _ rfl))
  have s8 : g8.objs.size = g5.objs.size + 1 := by rw [e8.1, e7.1, Heap.size_push]
  have z8 : Zo g8 z TI TO (rawInt g5.objs.size) false := z8
  show Q (.ref g5.objs.size) _
  rw [sz] at z8 t8 s8 ⊢
  exact hQ g8 z8 (up _ _ D.TOz t5) (Kd.it_at k1 fun o q => up _ o D.i1z q) (Kd.it_at k2 fun o q => up _ o D.i2z q) t8 s8 fun c o c1 c2 c3 c4 q => up c o c1 (kp c o c1 c2 c3 c4 q)
theorem free_end {ka kb : Kd} {z TI TO i1 i2 l1 l2 : Addr} {n m : Nat} {xs ys : Array Value} {p0 p1 : Value} {Q : PySem.Fin → Shared → Prop} (hh : A.handled = none) (D : ZipApart z TI TO i1 i2 l1 l2)
    (hz : Zo s.heap z TI TO .none false) (hTI : IsPair s.heap TI (.ref i1) (.ref i2)) (hTO : IsPair s.heap TO p0 p1)
    (h1 : ka.It s.heap i1 l1 n) (h2 : kb.It s.heap i2 l2 m) (q1 : ka.Sq s.heap l1 xs) (q2 : kb.Sq s.heap l2 ys) (hend : xs[n]? = none ∨ ys[m]? = none)
    (hE : ∀ h' e, (∀ c o, c ≠ z → c ≠ TO → c ≠ i1 → c ≠ i2 → s.heap.get? c = some o → h'.get? c = some o) → (∃ o, h'.get? e = some o ∧ o.cls = .type "StopIteration") → E (.ref e) { s with heap := h' }) :
    wpAny (model prog w) A (Builtin.«zip.__next__» ⟨[.ref z], []⟩) Q E s := by
  show wpAny _ _ (field (.ref z) 2 >>= _) _ _ _
  refine wpAny_bind (wpAny_field hz rfl (x := .bool false) rfl ?_)
  show wpAny _ _ (field (.ref z) 3 >>= _) _ _ _
  refine wpAny_bind (wpAny_field hz rfl (x := .ref TI) rfl (wpAny_bind (wpAny_seqItems hTI rfl ?_)))
  show wpAny _ _ (Builtin.SmallTypes.ownedTupleIsFree (.ref z) >>= _) _ _ _
  refine wpAny_bind (is_free hz ?_)
  rw [if_pos rfl]
  refine wpAny_bind (wpAny_rule (wpAny_bind (wpAny_field hz rfl (x := .ref TO) rfl (wpAny_bind (wpAny_setField_rec hz (by simp) fun g1 z1 e1 => ?_)))))
  have z1 : Zo g1 z TI TO .ellipsis false := z1
  refine wpAny_bind ?_
  simp only [List.zipIdx_cons, List.zipIdx_nil, List.forIn_cons, List.forIn_nil]
  refine wpAny_bind (wpAny_bind (wpAny_onRaise ?_))
  have a1 : ka.It g1 i1 l1 n := Kd.it_at h1 fun o q => e1.extBut _ _ D.i1z q
  have b1 : ka.Sq g1 l1 xs := Kd.sq_at q1 fun o q => e1.extBut _ _ D.l1z q
  show wpAny _ _ (Builtin.SmallTypes.nextOf (.ref i1) >>= _) _ _ _
  cases hx : xs[n]? with
  | none =>
    refine wpAny_bind (nx_end hh a1 b1 hx fun g2 e e2 ⟨oe, he, hc⟩ => ?_)
    have z2 : Zo g2 z TI TO .ellipsis false := e2 _ _ D.i1z.symm z1
    have ne : e ≠ z := fun q => by rw [q, z2] at he; cases he; simp at hc
    exact wpAny_setField_rec z2 (by simp) fun g3 _ e3 => hE g3 e (fun c o c1 _ c3 _ q => e3.extBut _ _ c1 (e2 _ _ c3 (e1.extBut _ _ c1 q))) ⟨oe, e3.extBut _ _ ne he, hc⟩
  | some x =>
    have hy : ys[m]? = none := hend.resolve_left fun q => by rw [hx] at q; cases q
    refine wpAny_bind (nx_item a1 b1 hx fun g2 a2 e2 => wpAny_pure ?_)
    have t2 : IsPair g2 TO p0 p1 := e2.extBut _ _ D.TOi1 (e1.extBut _ _ D.TOz hTO)
    refine wpAny_bind (wpAny_seqItems t2 rfl (wpAny_bind (wpAny_updateSeq_pair t2 fun g3 t3 e3 => wpAny_bind (wpAny_letGo (wpAny_pure ?_)))))
    refine wpAny_bind (wpAny_bind (wpAny_onRaise ?_))
    have a3 : kb.It g3 i2 l2 m := Kd.it_at h2 fun o q => e3.extBut _ _ D.TOi2.symm (e2.extBut _ _ D.i12.symm (e1.extBut _ _ D.i2z q))
    have b3 : kb.Sq g3 l2 ys := Kd.sq_at q2 fun o q => e3.extBut _ _ D.l2TO (e2.extBut _ _ D.l2i1 (e1.extBut _ _ D.l2z q))
    show wpAny _ _ (Builtin.SmallTypes.nextOf (.ref i2) >>= _) _ _ _
    refine wpAny_bind (nx_end hh a3 b3 hy fun g4 e e4 ⟨oe, he, hc⟩ => ?_)
    have z4 : Zo g4 z TI TO .ellipsis false := e4 _ _ D.i2z.symm (e3.extBut _ _ D.TOz.symm (e2.extBut _ _ D.i1z.symm z1))
    have ne : e ≠ z := fun q => by rw [q, z4] at he; cases he; simp at hc
    exact wpAny_setField_rec z4 (by simp) fun g5 _ e5 => hE g5 e (fun c o c1 c2 c3 c4 q => e5.extBut _ _ c1 (e4 _ _ c4 (e3.extBut _ _ c2 (e2.extBut _ _ c3 (e1.extBut _ _ c1 q))))) ⟨oe, e5.extBut _ _ ne he, hc⟩
end
end PKZ
namespace PKZ
open PySem PySem.Spec PyProof.Rows L2
/-- the pairs that were drawn, at their places -/
structure Prs (xs ys : Array Value) (lo : Addr) (h : Heap) (as : List Addr) : Prop where
  rise : as.Pairwise (· < ·)
  above : ∀ a ∈ as, lo ≤ a
  there : ∀ a ∈ as, a < h.objs.size
  at_ : ∀ (j : Nat) (a : Addr), as[j]? = some a → ∃ x y, xs[j]? = some x ∧ ys[j]? = some y ∧ IsPair h a x y
/-- a zip of two, i pairs drawn -/
structure ZSt (ka kb : Kd) (z TI TO i1 i2 l1 l2 : Addr) (xs ys : Array Value) (i : Nat) (h : Heap) : Prop where
  ti : IsPair h TI (.ref i1) (.ref i2)
  to : ∃ a b, IsPair h TO a b
  it1 : ka.It h i1 l1 i
  it2 : kb.It h i2 l2 i
  sq1 : ka.Sq h l1 xs
  sq2 : kb.Sq h l2 ys
  zo : Zo h z TI TO .none false ∨ ∃ (T0 : Addr) (o0 : Obj) (bb : Bool), Zo h z TI TO (rawInt T0) bb ∧ h.get? T0 = some o0 ∧ T0 ≠ z ∧ T0 ≠ TO ∧ T0 ≠ i1 ∧ T0 ≠ i2
section
variable {prog : Program} {w : World} {A : Around} {E : Value → Shared → Prop} {s : Shared} {ka kb : Kd} {z TI TO i1 i2 l1 l2 : Addr} {xs ys : Array Value} {i : Nat}
theorem ZSt.zip {h : Heap} (Z : ZSt ka kb z TI TO i1 i2 l1 l2 xs ys i h) : ∃ o, h.get? z = some o ∧ o.cls = .type "zip" := by
  rcases Z.zo with q | ⟨T0, o0, bb, q, _⟩
  · exact ⟨_, q, rfl⟩
  · exact ⟨_, q, rfl⟩
theorem ZSt.type {h : Heap} (Z : ZSt ka kb z TI TO i1 i2 l1 l2 xs ys i h) {s : Shared} (e : s.heap = h) : s.TypeIs (.ref z) "zip" := by
  obtain ⟨o, q, c⟩ := Z.zip
  exact ⟨o, by rw [e]; exact q, c⟩
theorem ZSt.keep {h h' : Heap} (Z : ZSt ka kb z TI TO i1 i2 l1 l2 xs ys i h) {S : Addr} (hS : S ≠ z ∧ S ≠ TI ∧ S ≠ TO ∧ S ≠ i1 ∧ S ≠ i2 ∧ S ≠ l1 ∧ S ≠ l2) (k : ∀ b o, b ≠ S → h.get? b = some o → h'.get? b = some o) (kS : ∀ o, h.get? S = some o → ∃ o', h'.get? S = some o') :
    ZSt ka kb z TI TO i1 i2 l1 l2 xs ys i h' := by
  obtain ⟨a, b, c, d, e, f, g⟩ := hS
  refine ⟨k _ _ b.symm Z.ti, ?_, Kd.it_at Z.it1 fun o q => k _ _ d.symm q, Kd.it_at Z.it2 fun o q => k _ _ e.symm q, Kd.sq_at Z.sq1 fun o q => k _ _ f.symm q, Kd.sq_at Z.sq2 fun o q => k _ _ g.symm q, ?_⟩
  · obtain ⟨u, v, q⟩ := Z.to
    exact ⟨u, v, k _ _ c.symm q⟩
  · rcases Z.zo with q | ⟨T0, o0, bb, q, q0, n1⟩
    · exact .inl (k _ _ a.symm q)
    · by_cases e0 : T0 = S
      · subst e0
        obtain ⟨o', q'⟩ := kS _ q0
        exact .inr ⟨T0, o', bb, k _ _ a.symm q, q', n1⟩
      · exact .inr ⟨T0, o0, bb, k _ _ a.symm q, k _ _ e0 q0, n1⟩
/-- a pair is drawn -/
theorem zst_item {x y : Value} {Q : Option Value → Shared → Prop} (D : ZipApart z TI TO i1 i2 l1 l2) (Z : ZSt ka kb z TI TO i1 i2 l1 l2 xs ys i s.heap) (hx : xs[i]? = some x) (hy : ys[i]? = some y)
    (hQ : ∀ h', ZSt ka kb z TI TO i1 i2 l1 l2 xs ys (i + 1) h' → IsPair h' s.heap.objs.size x y → h'.objs.size = s.heap.objs.size + 1 →
      (∀ c o, c ≠ z → c ≠ TO → c ≠ i1 → c ≠ i2 → s.heap.get? c = some o → h'.get? c = some o) → Q (some (.ref s.heap.objs.size)) { s with heap := h' }) :
    wpAny (model prog w) A (pyNext (.ref z)) Q E s := by
  have hT := Z.type (s := s) rfl
  obtain ⟨u, v, hTO⟩ := Z.to
  have zl : z < s.heap.objs.size := by obtain ⟨o, q, _⟩ := Z.zip; exact Heap.lt_size q
  have TOl : TO < s.heap.objs.size := Heap.lt_size hTO
  have i1l : i1 < s.heap.objs.size := by obtain ⟨o, q, _⟩ := Kd.it_get Z.it1; exact Heap.lt_size q
  have i2l : i2 < s.heap.objs.size := by obtain ⟨o, q, _⟩ := Kd.it_get Z.it2; exact Heap.lt_size q
  unfold pyNext
  refine wpAny_bind (wpAny_attempt (wpAny_callSpecial?_slot (name := Str.ofString "__next__") hT F.slot_zip_next (wpAny_call_entry F.slot_zip_next hT F.entry_zip_next ?_ (F.args_zip_next_1 _))))
  rcases Z.zo with q | ⟨T0, o0, bb, q, q0, n1, n2, n3, n4⟩
  · exact free_item D q Z.ti hTO Z.it1 Z.it2 Z.sq1 Z.sq2 hx hy fun h' c1 c2 c3 c4 c5 c6 c7 => wpAny_pure (hQ h' ⟨c7 _ _ D.TIz D.TITO D.TIi1 D.TIi2 Z.ti, ⟨_, _, c2⟩, c3, c4, Kd.sq_at Z.sq1 fun o p => c7 _ _ D.l1z D.l1TO D.l1i1 D.l1i2 p, Kd.sq_at Z.sq2 fun o p => c7 _ _ D.l2z D.l2TO D.l2i1 D.l2i2 p,
      .inr ⟨_, _, _, c1, c5, Nat.ne_of_gt zl, Nat.ne_of_gt TOl, Nat.ne_of_gt i1l, Nat.ne_of_gt i2l⟩⟩ c5 c6 c7)
  · exact held_item D q q0 Z.ti Z.it1 Z.it2 Z.sq1 Z.sq2 hx hy fun h' c1 c3 c4 c5 c6 c7 => wpAny_pure (hQ h' ⟨c7 _ _ D.TIz D.TIi1 D.TIi2 Z.ti, ⟨_, _, c7 _ _ D.TOz D.TOi1 D.TOi2 hTO⟩, c3, c4, Kd.sq_at Z.sq1 fun o p => c7 _ _ D.l1z D.l1i1 D.l1i2 p, Kd.sq_at Z.sq2 fun o p => c7 _ _ D.l2z D.l2i1 D.l2i2 p,
      .inr ⟨T0, o0, true, c1, c7 _ _ n1 n3 n4 q0, n1, n2, n3, n4⟩⟩ c5 c6 fun c o d1 _ d3 d4 p => c7 c o d1 d3 d4 p)
/-- one of the two is at its end -/
theorem zst_done {Q : Option Value → Shared → Prop} (hh : A.handled = none) (D : ZipApart z TI TO i1 i2 l1 l2) (Z : ZSt ka kb z TI TO i1 i2 l1 l2 xs ys i s.heap) (hend : xs[i]? = none ∨ ys[i]? = none)
    (hQ : ∀ h', (∀ c o, c ≠ z → c ≠ TO → c ≠ i1 → c ≠ i2 → s.heap.get? c = some o → h'.get? c = some o) → Q none { s with heap := h' }) : wpAny (model prog w) A (pyNext (.ref z)) Q E s := by
  have hT := Z.type (s := s) rfl
  obtain ⟨u, v, hTO⟩ := Z.to
  have stop : ∀ h' e, (∀ c o, c ≠ z → c ≠ TO → c ≠ i1 → c ≠ i2 → s.heap.get? c = some o → h'.get? c = some o) → (∃ o, h'.get? e = some o ∧ o.cls = .type "StopIteration") →
      wpAny (model prog w) A (do if (← isInstance (.ref e) (.type "StopIteration")) = true then pure none else throw (.ref e)) Q E { s with heap := h' } := fun h' e k ⟨o, ho, hc⟩ =>
    wpAny_bind (wpAny_isInstance (T := "StopIteration") (b := true) ⟨o, ho, hc⟩ isSubtype_stop (wpAny_pure (hQ _ k)))
  unfold pyNext
  refine wpAny_bind (wpAny_attempt (wpAny_callSpecial?_slot (name := Str.ofString "__next__") hT F.slot_zip_next (wpAny_call_entry F.slot_zip_next hT F.entry_zip_next ?_ (F.args_zip_next_1 _))))
  rcases Z.zo with q | ⟨T0, o0, bb, q, q0, n1, n2, n3, n4⟩
  · exact free_end hh D q Z.ti hTO Z.it1 Z.it2 Z.sq1 Z.sq2 hend stop
  · exact held_end hh D q q0 Z.ti Z.it1 Z.it2 Z.sq1 Z.sq2 hend fun h' e k => stop h' e fun c o d1 _ d3 d4 p => k c o d1 d3 d4 p
theorem zl_loop {S lo : Addr} (hh : A.handled = none) (D : ZipApart z TI TO i1 i2 l1 l2) (hS : S ≠ z ∧ S ≠ TI ∧ S ≠ TO ∧ S ≠ i1 ∧ S ≠ i2 ∧ S ≠ l1 ∧ S ≠ l2) (lowz : z < lo) (lowTO : TO < lo) (low1 : i1 < lo) (low2 : i2 < lo) (lowS : S < lo)
    (hn : min xs.size ys.size ≤ sizeLine) (res : Value) {h₁ : Heap} {R : Result → Shared → Prop}
    (hR : ∀ (h' : Heap) (acc : Array Value) (c : Nat) (as : List Addr), (∀ b o, b ≠ S → b ≠ z → b ≠ TO → b ≠ i1 → b ≠ i2 → h₁.get? b = some o → h'.get? b = some o) → h'.get? S = some { cls := .type "list", dict := none, data := .seq acc c, slots := #[] } → as.length = min xs.size ys.size → Prs xs ys lo h' as →
      acc.toList = as.map Value.ref → R (.ok (.ret res)) { s with heap := h' }) :
    ∀ (k i : Nat) (h : Heap) (c : Nat) (acc : Array Value) (as : List Addr), min xs.size ys.size - i = k → i ≤ min xs.size ys.size → ZSt ka kb z TI TO i1 i2 l1 l2 xs ys i h → (∀ b o, b ≠ S → b ≠ z → b ≠ TO → b ≠ i1 → b ≠ i2 → h₁.get? b = some o → h.get? b = some o) →
      h.get? S = some { cls := .type "list", dict := none, data := .seq acc c, slots := #[] } → acc.toList = as.map Value.ref → as.length = i → Prs xs ys lo h as → lo ≤ h.objs.size →
      codeAny (model prog w) A (.builtin "list.extend.loop" ⟨[.ref S, .ref z, res], []⟩) R { s with heap := h } := by
  intro k
  induction k with
  | zero =>
    intro i h c acc as hk hi Z kp hSo ha hl G hlo
    have hin : i = min xs.size ys.size := by omega
    refine codeAny_builtin F.entry_extend_loop ?_
    (rw [Around.under_plainId F.plain_extend_loop])
    show wpAny _ A.in1 (pyNext (.ref z) >>= _) _ _ _
    have hend : xs[i]? = none ∨ ys[i]? = none := by
      rcases Nat.le_total xs.size ys.size with q | q
      · exact .inl (Array.getElem?_eq_none (by omega))
      · exact .inr (Array.getElem?_eq_none (by omega))
    refine wpAny_bind (zst_done (s := { s with heap := h }) (A := A.in1) hh D Z hend fun h' e => wpAny_pure (hR h' acc c as (fun b o b1 b2 b3 b4 b5 q => e b o b2 b3 b4 b5 (kp b o b1 b2 b3 b4 b5 q)) (e S _ hS.1 hS.2.2.1 hS.2.2.2.1 hS.2.2.2.2.1 hSo) (by omega) ⟨G.rise, G.above, fun a q => ?_, fun j a q => ?_⟩ ha))
    · obtain ⟨j, hj, rfl⟩ := List.getElem_of_mem q
      obtain ⟨x, y, _, _, p⟩ := G.at_ j _ (List.getElem?_eq_getElem hj)
      have lo_a := G.above _ (List.getElem_mem hj)
      exact Heap.lt_size (e _ _ (Nat.ne_of_gt (Nat.lt_of_lt_of_le lowz lo_a)) (Nat.ne_of_gt (Nat.lt_of_lt_of_le lowTO lo_a)) (Nat.ne_of_gt (Nat.lt_of_lt_of_le low1 lo_a)) (Nat.ne_of_gt (Nat.lt_of_lt_of_le low2 lo_a)) p)
    · obtain ⟨x, y, e1, e2, p⟩ := G.at_ j a q
      have lo_a := G.above _ (List.mem_of_getElem? q)
      exact ⟨x, y, e1, e2, e _ _ (Nat.ne_of_gt (Nat.lt_of_lt_of_le lowz lo_a)) (Nat.ne_of_gt (Nat.lt_of_lt_of_le lowTO lo_a)) (Nat.ne_of_gt (Nat.lt_of_lt_of_le low1 lo_a)) (Nat.ne_of_gt (Nat.lt_of_lt_of_le low2 lo_a)) p⟩
  | succ k ih =>
    intro i h c acc as hk hi Z kp hSo ha hl G hlo
    have ix : i < xs.size := by omega
    have iy : i < ys.size := by omega
    have hsz : acc.size = i := by rw [← Array.length_toList, ha, List.length_map, hl]
    refine codeAny_builtin F.entry_extend_loop ?_
    (rw [Around.under_plainId F.plain_extend_loop])
    show wpAny _ A.in1 (pyNext (.ref z) >>= _) _ _ _
    refine wpAny_bind (zst_item (s := { s with heap := h }) (A := A.in1) D Z (Array.getElem?_eq_getElem ix) (Array.getElem?_eq_getElem iy) fun h' Z' p sz e => ?_)
    dsimp only at p sz e ⊢
    have hS' := e S _ hS.1 hS.2.2.1 hS.2.2.2.1 hS.2.2.2.2.1 hSo
    have up : ∀ b o, b ≠ S → h'.get? b = some o → (h'.update S (Obj.mapSeq (·.push (Value.ref h.objs.size)))).get? b = some o := fun b o hb q => (Heap.get?_update_other _ _ (Ne.symm hb)).trans q
    have upS : ∀ o, h'.get? S = some o → ∃ o', (h'.update S (Obj.mapSeq (·.push (Value.ref h.objs.size)))).get? S = some o' := fun o q => ⟨_, Heap.get?_update_self _ hS' rfl⟩
    have Sl : S < h.objs.size := Heap.lt_size hSo
    have far : ∀ a, lo ≤ a → a ≠ z ∧ a ≠ TO ∧ a ≠ i1 ∧ a ≠ i2 ∧ a ≠ S := fun a q => ⟨Nat.ne_of_gt (Nat.lt_of_lt_of_le lowz q), Nat.ne_of_gt (Nat.lt_of_lt_of_le lowTO q), Nat.ne_of_gt (Nat.lt_of_lt_of_le low1 q), Nat.ne_of_gt (Nat.lt_of_lt_of_le low2 q), Nat.ne_of_gt (Nat.lt_of_lt_of_le lowS q)⟩
    have us : (h'.update S (Obj.mapSeq (·.push (Value.ref h.objs.size)))).objs.size = h'.objs.size := Heap.size_update ..
    show wpAny _ A.in1 (updateSeq S (·.push (Value.ref h.objs.size)) >>= _) _ _ _
    refine wpAny_bind (wpAny_updateSeq hS' rfl (wpAny_pure ⟨plainId_quiet F.plain_extend_loop _, ih (i + 1) _ _ (acc.push (Value.ref h.objs.size)) (as ++ [h.objs.size]) (by omega) (by omega) (Z'.keep hS up upS) (fun b o b1 b2 b3 b4 b5 q => up b o b1 (e b o b2 b3 b4 b5 (kp b o b1 b2 b3 b4 b5 q)))
      (Heap.get?_update_self _ hS' rfl) (by rw [Array.toList_push, ha, List.map_append]; rfl) (by rw [List.length_append, hl]; rfl) ⟨?_, ?_, ?_, ?_⟩ ?_⟩) ?_)
    · refine List.pairwise_append.mpr ⟨G.rise, List.pairwise_singleton _ _, fun a q b q2 => ?_⟩
      rw [List.mem_singleton.mp q2]
      exact G.there a q
    · intro a q
      rcases List.mem_append.mp q with q | q
      · exact G.above a q
      · rw [List.mem_singleton.mp q]; exact hlo
    · intro a q
      rw [us, sz]
      rcases List.mem_append.mp q with q | q
      · exact Nat.lt_succ_of_lt (G.there a q)
      · rw [List.mem_singleton.mp q]; exact Nat.lt_succ_self _
    · intro j b q
      by_cases hj : j < as.length
      · rw [List.getElem?_append_left hj] at q
        obtain ⟨x, y, e1, e2, e3⟩ := G.at_ j b q
        obtain ⟨f1, f2, f3, f4, f5⟩ := far b (G.above b (List.mem_of_getElem? q))
        exact ⟨x, y, e1, e2, up b _ f5 (e b _ f1 f2 f3 f4 e3)⟩
      · have hj2 : j = as.length := by
          have := (List.getElem?_eq_some_iff.mp q).1
          rw [List.length_append] at this
          have : j < as.length + 1 := this
          omega
        subst hj2
        have : h.objs.size = b := by simpa using q
        subst this
        exact ⟨xs[i], ys[i], by rw [hl]; exact Array.getElem?_eq_getElem ix, by rw [hl]; exact Array.getElem?_eq_getElem iy, up _ _ (Nat.ne_of_gt Sl) p⟩
    · rw [us, sz]; exact Nat.le_succ_of_le hlo
    · rw [hsz]; omega
theorem zip_nolen : typeLookup (.type "zip") "__len__" = pure none := by
  rw [typeLookup_type, builtinLookup_eq_fast]; kernel_rfl
theorem zip_nohint : typeLookup (.type "zip") "__length_hint__" = pure none := by
  rw [typeLookup_type, builtinLookup_eq_fast]; kernel_rfl
/-- list(zip(..)), S the new list -/
theorem zl_call {Q : Value → Shared → Prop} (hh : A.handled = none) (D : ZipApart z TI TO i1 i2 l1 l2) (Z : ZSt ka kb z TI TO i1 i2 l1 l2 xs ys 0 s.heap) (lTI : TI < s.heap.objs.size) (l1l : l1 < s.heap.objs.size) (l2l : l2 < s.heap.objs.size)
    (hn : min xs.size ys.size ≤ sizeLine)
    (hQ : ∀ (h' : Heap) (acc : Array Value) (c : Nat) (as : List Addr), (∀ b o, b ≠ z → b ≠ TO → b ≠ i1 → b ≠ i2 → s.heap.get? b = some o → h'.get? b = some o) → h'.get? s.heap.objs.size = some { cls := .type "list", dict := none, data := .seq acc c, slots := #[] } →
      as.length = min xs.size ys.size → Prs xs ys (s.heap.objs.size + 1) h' as → acc.toList = as.map Value.ref → Q (.ref s.heap.objs.size) { s with heap := h' }) :
    wpAny (model prog w) A (call (.type "list") [.ref z]) Q E s := by
  have zl : z < s.heap.objs.size := by obtain ⟨o, q, _⟩ := Z.zip; exact Heap.lt_size q
  have TOl : TO < s.heap.objs.size := by obtain ⟨_, _, q⟩ := Z.to; exact Heap.lt_size q
  have i1l : i1 < s.heap.objs.size := by obtain ⟨o, q, _⟩ := Kd.it_get Z.it1; exact Heap.lt_size q
  have i2l : i2 < s.heap.objs.size := by obtain ⟨o, q, _⟩ := Kd.it_get Z.it2; exact Heap.lt_size q
  refine callType_codes (Q₁ := fun obj s₁ => obj = .ref s.heap.objs.size ∧ s₁ = { s with heap := s.heap.push { cls := .type "list", data := .seq #[] } }) F.called_list (F.typeCall_list_1 _) F.entry_list_init (code_list_new _ ⟨rfl, rfl⟩) fun obj s₁ h₁ => ?_
  obtain ⟨rfl, rfl⟩ := h₁
  have hS0 : (s.heap.push { cls := .type "list", data := .seq #[] }).get? s.heap.objs.size = some { cls := .type "list", data := .seq #[] } := Heap.get?_push_size _ rfl
  have hS : s.heap.objs.size ≠ z ∧ s.heap.objs.size ≠ TI ∧ s.heap.objs.size ≠ TO ∧ s.heap.objs.size ≠ i1 ∧ s.heap.objs.size ≠ i2 ∧ s.heap.objs.size ≠ l1 ∧ s.heap.objs.size ≠ l2 :=
    ⟨Nat.ne_of_gt zl, Nat.ne_of_gt lTI, Nat.ne_of_gt TOl, Nat.ne_of_gt i1l, Nat.ne_of_gt i2l, Nat.ne_of_gt l1l, Nat.ne_of_gt l2l⟩
  refine ⟨⟨_, hS0, rfl⟩, F.args_list_init_2 _ _, ?_⟩
  generalize hs : s.heap.objs.size = S at hS0 hS hQ ⊢
  show wpAny _ _ (do let old ← Builtin.List.listItems (.ref S); Builtin.List.listUpdate (.ref S) (fun _ => #[]); letGo old.toList.reverse; Builtin.List.listExtendWith (.ref S) (.ref z) .none) _ _ _
  unfold Builtin.List.listItems
  refine wpAny_bind (wpAny_bind (wpAny_seqItems hS0 rfl (wpAny_pure ?_)))
  show wpAny _ _ (updateSeq S (fun _ => #[]) >>= fun _ => letGo (#[] : Array Value).toList.reverse >>= fun _ => Builtin.List.listExtendWith (.ref S) (.ref z) .none) _ _ _
  refine wpAny_bind (wpAny_updateSeq hS0 rfl (wpAny_bind (wpAny_letGo ?_)))
  have hS1 := Heap.get?_update_self (Obj.mapSeq (fun _ => (#[] : Array Value))) hS0 rfl
  have up1 : ∀ b o, b ≠ S → (s.heap.push { cls := .type "list", data := .seq #[] }).get? b = some o → ((s.heap.push { cls := .type "list", data := .seq #[] }).update S (Obj.mapSeq (fun _ => (#[] : Array Value)))).get? b = some o := fun b o hb q => (Heap.get?_update_other _ _ (Ne.symm hb)).trans q
  have Z1 : ZSt ka kb z TI TO i1 i2 l1 l2 xs ys 0 (s.heap.push { cls := .type "list", data := .seq #[] }) := Z.keep hS (fun b o _ q => Heap.get?_push_of_some _ q) fun o q => ⟨_, hS0⟩
  have Z2 := Z1.keep hS up1 fun o q => ⟨_, hS1⟩
  have base : ∀ b o, b ≠ S → b ≠ z → b ≠ TO → b ≠ i1 → b ≠ i2 → s.heap.get? b = some o → ((s.heap.push { cls := .type "list", data := .seq #[] }).update S (Obj.mapSeq (fun _ => (#[] : Array Value)))).get? b = some o := fun b o b1 _ _ _ _ q => up1 b o b1 (Heap.get?_push_of_some _ q)
  have sz1 : ((s.heap.push { cls := .type "list", data := .seq #[] }).update S (Obj.mapSeq (fun _ => (#[] : Array Value)))).objs.size = S + 1 := by rw [Heap.size_update, Heap.size_push, hs]
  generalize (s.heap.push { cls := .type "list", data := .seq #[] }).update S (Obj.mapSeq (fun _ => (#[] : Array Value))) = g at Z2 hS1 base sz1 ⊢
  unfold Builtin.List.listExtendWith
  refine wpAny_bind (wpAny_typeOf (T := "zip") (Z2.type rfl) ?_)
  have n1 : Builtin.List.listSameRef (.ref S) (.ref z) = false := by simp [Builtin.List.listSameRef, hS.1]
  have n2 : (Value.type "zip" == Value.type "list") = false := by decide
  have n3 : (Value.type "zip" == Value.type "tuple") = false := by decide
  simp only [n1, n2, n3, Bool.or_false, Bool.false_eq_true, if_false]
  have itr : ∀ {M : Around} {E' : Value → Shared → Prop} {Q' : Value → Shared → Prop} {s' : Shared}, s'.heap = g → Q' (.ref z) s' → wpAny (model prog w) M (pyIter (.ref z)) Q' E' s' := fun {M E' Q' s'} e q => by
    refine wpAny_pyIter_slot (Z2.type e) F.slot_zip_iter (wpAny_call_entry F.slot_zip_iter (Z2.type e) F.entry_zip_iter ?_ (F.args_zip_iter_1 _))
    show wpAny _ _ (ret (.ref z)) _ _ s'
    exact wpAny_pure ⟨_, rfl, "zip", _, Z2.type e, F.slot_zip_next.lookup, q⟩
  refine wpAny_bind (itr rfl (wpAny_bind (wpAny_holding ?_)))
  unfold Builtin.List.listLengthHint
  refine wpAny_bind (wpAny_specialOf (Z2.type rfl) zip_nolen ?_)
  show wpAny _ _ (specialOf (Value.ref z) (Str.ofString "__length_hint__") >>= _) _ _ _
  refine wpAny_bind (wpAny_specialOf (Z2.type rfl) zip_nohint (wpAny_pure ?_))
  rw [Bool.true_or, if_pos rfl]
  refine wpAny_bind (wpAny_rule (wpAny_bind ?_))
  show wpAny _ _ (updateSeq S (·.push .none) >>= fun _ => updateSeq S (·.pop)) _ _ _
  have hS2 := Heap.get?_update_self (Obj.mapSeq (·.push Value.none)) hS1 rfl
  refine wpAny_bind (wpAny_updateSeq hS1 rfl (wpAny_updateSeq (hz := by seq_fits) hS2 rfl ?_))
  have hS3 := Heap.get?_update_self (Obj.mapSeq (·.pop)) hS2 rfl
  have up3 : ∀ b o, b ≠ S → g.get? b = some o → ((g.update S (Obj.mapSeq (·.push Value.none))).update S (Obj.mapSeq (·.pop))).get? b = some o := fun b o hb q => (Heap.get?_update_other _ _ (Ne.symm hb)).trans ((Heap.get?_update_other _ _ (Ne.symm hb)).trans q)
  have sz3 : ((g.update S (Obj.mapSeq (·.push Value.none))).update S (Obj.mapSeq (·.pop))).objs.size = S + 1 := by rw [Heap.size_update, Heap.size_update, sz1]
  refine wpAny_pure ⟨plainId_quiet F.plain_extend_loop _, ?_⟩
  refine zl_loop (A := A.in1) (s := s) (h₁ := s.heap) (lo := S + 1) hh D hS (Nat.lt_succ_of_lt (hs ▸ zl)) (Nat.lt_succ_of_lt (hs ▸ TOl)) (Nat.lt_succ_of_lt (hs ▸ i1l)) (Nat.lt_succ_of_lt (hs ▸ i2l)) (Nat.lt_succ_self _) hn .none (fun h' acc c as k1 k2 k3 k4 k5 => ⟨rfl, hQ h' acc c as (fun b o b2 b3 b4 b5 q => ?_) k2 k3 k4 k5⟩)
    _ 0 _ _ #[] [] rfl (Nat.zero_le _) (Z2.keep hS up3 fun o q => ⟨_, hS3⟩) (fun b o b1 b2 b3 b4 b5 q => up3 b o b1 (base b o b1 b2 b3 b4 b5 q)) hS3 rfl rfl ⟨List.Pairwise.nil, (fun _ q => nomatch q), (fun _ q => nomatch q), fun j a q => by simp at q⟩ (by rw [sz3]; exact Nat.le_refl _)
  have := Heap.lt_size q
  exact k1 b o (Nat.ne_of_lt (hs ▸ this)) b2 b3 b4 b5 q
end
end PKZ
namespace PKZ
open PySem PySem.Spec PyProof.Rows L2
def Kd.nm : Kd → String
  | .l => "list_iterator"
  | .t => "tuple_iterator"
abbrev itO (kd : Kd) (a : Addr) : Obj := { cls := .type kd.nm, data := .fields #[.ref a, .int 0 0] }
abbrev zg1 (ka : Kd) (h : Heap) (a : Addr) : Heap := h.push (itO ka a)
abbrev zg2 (ka kb : Kd) (h : Heap) (a b : Addr) : Heap := (zg1 ka h a).push (itO kb b)
abbrev zg3 (ka kb : Kd) (h : Heap) (a b : Addr) : Heap := (zg2 ka kb h a b).push { cls := .type "tuple", data := .seq #[.ref h.objs.size, .ref (zg1 ka h a).objs.size] }
abbrev zg4 (ka kb : Kd) (h : Heap) (a b : Addr) : Heap := (zg3 ka kb h a b).push { cls := .type "tuple", data := .seq #[.none, .none] }
abbrev zg5 (ka kb : Kd) (h : Heap) (a b : Addr) : Heap := (zg4 ka kb h a b).push { cls := .type "zip", data := .fields #[.none, .bool false, .bool false, .ref (zg2 ka kb h a b).objs.size, .ref (zg3 ka kb h a b).objs.size] }
theorem Kd.sq_push {kd : Kd} {h : Heap} {a : Addr} {xs : Array Value} {o : Obj} (q : kd.Sq h a xs) : kd.Sq (h.push o) a xs := Kd.sq_at q fun _ e => Heap.get?_push_of_some _ e
theorem Kd.sq_lt {kd : Kd} {h : Heap} {a : Addr} {xs : Array Value} (q : kd.Sq h a xs) : a < h.objs.size := by
  cases kd with
  | l => obtain ⟨o, e, _⟩ := q; exact Heap.lt_size e
  | t => obtain ⟨o, e, _⟩ := q; exact Heap.lt_size e
theorem pyIter_kd {prog : Program} {w : World} {A : Around} {E : Value → Shared → Prop} {s : Shared} {kd : Kd} {a : Addr} {xs : Array Value} {Q : Value → Shared → Prop} (q : kd.Sq s.heap a xs)
    (h : Q (.ref s.heap.objs.size) { s with heap := s.heap.push (itO kd a) }) : wpAny (model prog w) A (pyIter (.ref a)) Q E s := by
  cases kd with
  | l => exact wpAny_pyIter_list q h
  | t => exact wpAny_pyIter_tuple q h
theorem meets_zg (ka kb : Kd) (a b : Addr) (xs ys : Array Value) :
    Meets (Builtin.«zip.__new__» ⟨[.type "zip", .ref a, .ref b], []⟩) (fun _ R s => ka.Sq s.heap a xs ∧ kb.Sq s.heap b ys ∧ R (.ok (.ret (.ref (zg4 ka kb s.heap a b).objs.size))) { s with heap := zg5 ka kb s.heap a b }) :=
  .of_wp fun prog w A R s h => by
    obtain ⟨hp, g, d, tk, os⟩ := s
    obtain ⟨h1, h2, h⟩ := h
    have hsub := sub_zip
    have p1 : ka.Sq (Shared.heap ⟨hp, g, d, tk, os⟩) a xs := h1
    have p2 : kb.Sq (Shared.heap ⟨hp.push (itO ka a), g, d, tk, os⟩) b ys := Kd.sq_push h2
    wp_walk using pyIter_kd p1, pyIter_kd p2
    exact ⟨_, rfl, h⟩
section
variable {prog : Program} {w : World} {A : Around} {E : Value → Shared → Prop} {s : Shared}
/-- zip(a, b) -/
theorem call_zg {ka kb : Kd} {a b : Addr} {xs ys : Array Value} {Q : Value → Shared → Prop} (h1 : ka.Sq s.heap a xs) (h2 : kb.Sq s.heap b ys)
    (hQ : ∀ h', ZSt ka kb (s.heap.objs.size + 4) (s.heap.objs.size + 2) (s.heap.objs.size + 3) s.heap.objs.size (s.heap.objs.size + 1) a b xs ys 0 h' → Zo h' (s.heap.objs.size + 4) (s.heap.objs.size + 2) (s.heap.objs.size + 3) .none false → h'.objs.size = s.heap.objs.size + 5 →
      (∀ c o, s.heap.get? c = some o → h'.get? c = some o) → Q (.ref (s.heap.objs.size + 4)) { s with heap := h' }) :
    wpAny (model prog w) A (call (.type "zip") [.ref a, .ref b]) Q E s := by
  refine callType_new F.called_zip (by decide) (F.typeCall_zip_2 _ _) (F.newCall_zip_2 _ _) (fun obj => F.args_object_init_3 obj _ _) F.entry_zip_new (meets_zg ka kb a b xs ys) ⟨h1, h2, ?_⟩
  have z1 : (zg1 ka s.heap a).objs.size = s.heap.objs.size + 1 := Heap.size_push ..
  have z2 : (zg2 ka kb s.heap a b).objs.size = s.heap.objs.size + 2 := by rw [Heap.size_push, z1]
  have z3 : (zg3 ka kb s.heap a b).objs.size = s.heap.objs.size + 3 := by rw [Heap.size_push, z2]
  have z4 : (zg4 ka kb s.heap a b).objs.size = s.heap.objs.size + 4 := by rw [Heap.size_push, z3]
  have z5 : (zg5 ka kb s.heap a b).objs.size = s.heap.objs.size + 5 := by rw [Heap.size_push, z4]
  have kp : ∀ c o, s.heap.get? c = some o → (zg5 ka kb s.heap a b).get? c = some o := fun c o e =>
    Heap.get?_push_of_some _ (Heap.get?_push_of_some _ (Heap.get?_push_of_some _ (Heap.get?_push_of_some _ (Heap.get?_push_of_some _ e))))
  have o5 : (zg5 ka kb s.heap a b).get? (zg4 ka kb s.heap a b).objs.size = some _ := Heap.get?_push_size _ rfl
  have o4 : (zg5 ka kb s.heap a b).get? (zg3 ka kb s.heap a b).objs.size = some _ := Heap.get?_push_of_some _ (Heap.get?_push_size _ rfl)
  have o3 : (zg5 ka kb s.heap a b).get? (zg2 ka kb s.heap a b).objs.size = some _ := Heap.get?_push_of_some _ (Heap.get?_push_of_some _ (Heap.get?_push_size _ rfl))
  have o2 : (zg5 ka kb s.heap a b).get? (zg1 ka s.heap a).objs.size = some (itO kb b) := Heap.get?_push_of_some _ (Heap.get?_push_of_some _ (Heap.get?_push_of_some _ (Heap.get?_push_size _ rfl)))
  have o1 : (zg5 ka kb s.heap a b).get? s.heap.objs.size = some (itO ka a) := Heap.get?_push_of_some _ (Heap.get?_push_of_some _ (Heap.get?_push_of_some _ (Heap.get?_push_of_some _ (Heap.get?_push_size _ rfl))))
  have it : ∀ (kd : Kd) (i c : Addr), (zg5 ka kb s.heap a b).get? i = some (itO kd c) → kd.It (zg5 ka kb s.heap a b) i c 0 := fun kd i c e => by
    cases kd with
    | l => exact ⟨_, e, rfl, rfl⟩
    | t => exact ⟨_, e, rfl, rfl⟩
  rw [z2, z3, z4] at o5
  rw [z1, z2] at o3
  rw [z3] at o4
  rw [z1] at o2
  show _ ∧ _
  rw [z4]
  exact ⟨⟨_, o5, rfl⟩, hQ _ ⟨o3, ⟨_, _, o4⟩, it _ _ _ o1, it _ _ _ o2, Kd.sq_at h1 fun o e => kp _ _ e, Kd.sq_at h2 fun o e => kp _ _ e, .inl o5⟩ o5 z5 kp⟩
end
/-- the heap has grown, some of the new objects are tracked -/
theorem inv_grow {X : Cx} {pins : List (Addr × Obj)} {σ : L2.St} {H H' : Hp} {s : Shared} {h' : Heap} {tk : Nat} (I : Inv X pins σ H s) (hk : ∀ b o, s.heap.get? b = some o → h'.get? b = some o) (kp : ∀ b u, H b = some u → H' b = some u)
    (nn : ∀ b o, s.heap.get? b = some o → H b = none → H' b = none) (hok : ∀ b u, H' b = some u → H b = some u ∨ ObjOk X.prog X.w H' h' b u) : Inv X pins σ H' { s with heap := h', toks := tk } := by
  refine I.call' (ch := []) rfl ⟨fun b o q _ _ _ => hk b o q, fun b o q _ _ _ => ⟨o.slots, hk b o q⟩, fun b o q n _ => nn b o q n, fun b o q _ => ⟨o, hk b o q⟩, fun b xs q => kp b _ q, fun b o u q => kp b _ q, fun b ps q => ⟨#[], by rw [kp b _ q]; simp⟩⟩ (fun b u q => ?_) I.bare fun b z => nomatch z
  rcases hok b u q with e | e
  · exact (I.hok b u e).stay (fun d v _ y => hk d v y) (fun d y => kp d _ y) fun d xs y => kp d _ y
  · exact e
/-- pairs tracked at their places -/
def putP : Hp → List Addr → List V → List V → Hp
  | H, a :: as, x :: xs, y :: ys => putP (upd H a (.tup [x, y])) as xs ys
  | H, _, _, _ => H
theorem putP_off {b : Addr} : ∀ (as : List Addr) (xs ys : List V) (H : Hp), b ∉ as → putP H as xs ys b = H b
  | [], _, _, _, _ => rfl
  | _ :: _, [], _, _, _ => rfl
  | _ :: _, _ :: _, [], _, _ => rfl
  | a :: as, x :: xs, y :: ys, H, h => by
    show putP (upd H a (.tup [x, y])) as xs ys b = H b
    rw [putP_off as xs ys _ (fun z => h (List.mem_cons_of_mem _ z)), upd_ne (fun z => h (by rw [z]; exact List.mem_cons_self))]
theorem putP_at : ∀ (as : List Addr) (xs ys : List V) (H : Hp), as.length ≤ xs.length → as.length ≤ ys.length → as.Nodup → ∀ (j : Nat) (a : Addr), as[j]? = some a → ∃ x y, xs[j]? = some x ∧ ys[j]? = some y ∧ putP H as xs ys a = some (.tup [x, y])
  | [], _, _, _, _, _, _, _, _, e => by simp at e
  | _ :: _, [], _, _, h, _, _, _, _, _ => by simp at h
  | _ :: _, _ :: _, [], _, _, h, _, _, _, _ => by simp at h
  | a :: as, x :: xs, y :: ys, H, h1, h2, hn, 0, b, e => by
    have e : a = b := by simpa using e
    subst e
    refine ⟨x, y, rfl, rfl, ?_⟩
    show putP (upd H a (.tup [x, y])) as xs ys a = _
    rw [putP_off as xs ys _ (List.nodup_cons.mp hn).1, upd_same]
  | a :: as, x :: xs, y :: ys, H, h1, h2, hn, j + 1, b, e => by
    obtain ⟨u, v, e1, e2, e3⟩ := putP_at as xs ys (upd H a (.tup [x, y])) (Nat.le_of_succ_le_succ h1) (Nat.le_of_succ_le_succ h2) (List.nodup_cons.mp hn).2 j b (by simpa using e)
    exact ⟨u, v, by simpa using e1, by simpa using e2, e3⟩
theorem refs_vals : ∀ as : List Addr, Vals (as.map V.ref) (as.map Value.ref)
  | [] => .nil
  | _ :: as => .cons rfl (refs_vals as)
def Sq2 (K : PySem.W.Frag) (H : Hp) (a : Addr) (xs : List V) : Prop := SqL K H a xs ∨ SqT K H a xs
theorem sq_of {X : Cx} {pins : List (Addr × Obj)} {σ : L2.St} {H : Hp} {s : Shared} {a : Addr} {xs : List V} (I : Inv X pins σ H s) (q : Sq2 X.K H a xs) : ∃ (kd : Kd) (its : List Value), Vals xs its ∧ kd.Sq s.heap a its.toArray := by
  rcases q with q | q
  · obtain ⟨its, rv, p, _⟩ := I.list q
    exact ⟨.l, its, rv, p.isList⟩
  · obtain ⟨its, rv, p, _⟩ := I.tuple q
    exact ⟨.t, its, rv, p⟩
def rListZip (K : PySem.W.Frag) : List V → Hp → VK → Prop := fun vs H Q => ∃ (a b : Addr) (xs ys : List V), vs = [.ref a, .ref b] ∧ Sq2 K H a xs ∧ Sq2 K H b ys ∧ min xs.length ys.length ≤ sizeLine ∧
  ∀ (H' : Hp) (p : Addr) (ts : List Addr), (∀ b o, H b = some o → H' b = some o) → H p = none → (∀ t ∈ ts, H t = none) → ts.length = min xs.length ys.length → H' p = some (.lst (ts.map V.ref)) →
    (∀ (j : Nat) (t : Addr), ts[j]? = some t → ∃ x y, xs[j]? = some x ∧ ys[j]? = some y ∧ H' t = some (.tup [x, y])) → Q (.ref p) H'
def tListZip (K : PySem.W.Frag) (ta : TA) : TE := fun σ H Q => ta σ H fun vs H1 => rListZip K vs H1 Q
/-- list(zip(e, e2)) -/
theorem pe_listZip {X : Cx} {e e2 : Expr} {ta : TA} {p p2 pos pos2 : Pos} (hc : X.calm = true) (hg : Gl X "list") (hm : X.mg "list" = none) (hv : bootBuiltins "list" = some (.type "list")) (hg2 : Gl X "zip") (hm2 : X.mg "zip" = none) (ha : PA X [e, e2] ta)
    (hs : starEach [.Call (.Name "zip" p2) [e, e2] [] pos2] X.env = (false, eval (.Call (.Name "zip" p2) [e, e2] [] pos2) X.env) :: starEach [] X.env := by rfl)
    (hs2 : starEach [e, e2] X.env = (false, eval e X.env) :: starEach [e2] X.env := by rfl) (hpl : (backTo pos2 (starEach [e2] X.env)).any (·.1) = false := by rfl) :
    PE X (.Call (.Name "list" p) [.Call (.Name "zip" p2) [e, e2] [] pos2] [] pos) (tListZip X.K ta) := by
  refine ⟨fun pins s σ H Q I hq => ?_⟩
  refine wpAny_Call_Name_kw (ld_blt I hg hm hv (PyProof.Rows.callWith_type1 ?_ hs rfl))
  rw [hs]
  show wpAny _ _ (spliced ((false, eval (.Call (.Name "zip" p2) [e, e2] [] pos2) X.env) :: backTo pos (starEach [] X.env))) _ _ s
  refine Calls.spliced_cons (Call_ (ld_blt I hg2 hm2 PyProof.Rows.boot_zip (PyProof.Rows.callWith_type1 (thn (ha.run pos2 pins s σ H _ I hq) fun us s1 ⟨vs, H1, I1, r1, q1⟩ => ?_) hs2 hpl)))
  obtain ⟨a, b, xs, ys, rfl, qa, qb, hmin, q⟩ := q1
  obtain ⟨u, us, rfl, ru, rr⟩ : ∃ u us', us = u :: us' ∧ RelV (V.ref a) u ∧ Vals [V.ref b] us' := by cases r1 with | cons r t => exact ⟨_, _, rfl, r, t⟩
  obtain ⟨u2, rfl, ru2⟩ : ∃ u2, us = [u2] ∧ RelV (V.ref b) u2 := by cases rr with | cons r t => cases t; exact ⟨_, rfl, r⟩
  obtain rfl : u = Value.ref a := ru
  obtain rfl : u2 = Value.ref b := ru2
  obtain ⟨ka, ia, va, sa⟩ := sq_of I1 qa
  obtain ⟨kb, ib, vb, sb⟩ := sq_of I1 qb
  have la := va.length
  have lb := vb.length
  have mn : min ia.toArray.size ib.toArray.size = min xs.length ys.length := by rw [List.size_toArray, List.size_toArray, la, lb]
  refine call_zg sa sb fun g Z zo sz kp => Calls.spliced_nil ?_
  have hal := Kd.sq_lt sa
  have hbl := Kd.sq_lt sb
  refine zl_call (s := { s1 with heap := g }) (I1.ok.hd hc) (PySem.W.ktu_apart s1.heap.objs.size a b hal hbl) Z (Heap.lt_size Z.ti) (Nat.lt_of_lt_of_le hal (by show s1.heap.objs.size ≤ g.objs.size; rw [sz]; exact Nat.le_add_right _ _)) (Nat.lt_of_lt_of_le hbl (by show s1.heap.objs.size ≤ g.objs.size; rw [sz]; exact Nat.le_add_right _ _)) (by rw [mn]; exact hmin) fun h' acc c as k1 k2 k3 k4 k5 => ?_
  dsimp only at k1 k2 k3 k4 k5 ⊢
  have hS : s1.heap.objs.size ≤ g.objs.size := by rw [sz]; exact Nat.le_add_right _ _
  have hk : ∀ b o, s1.heap.get? b = some o → h'.get? b = some o := fun b o e => by
    have lt := Heap.lt_size e
    exact k1 b o (Nat.ne_of_lt (Nat.lt_of_lt_of_le lt (Nat.le_add_right _ _))) (Nat.ne_of_lt (Nat.lt_of_lt_of_le lt (Nat.le_add_right _ _))) (Nat.ne_of_lt lt) (Nat.ne_of_lt (Nat.lt_of_lt_of_le lt (Nat.le_add_right _ _))) (kp _ _ e)
  have nS : H1 g.objs.size = none := I1.hok.fresh hS
  have nas : ∀ t ∈ as, H1 t = none := fun t ht => I1.hok.fresh (Nat.le_trans hS (Nat.le_of_lt (k4.above t ht)))
  have nd : as.Nodup := List.Pairwise.imp (fun {x y} (h : x < y) => Nat.ne_of_lt h) k4.rise
  have Sn : g.objs.size ∉ as := fun z => Nat.lt_irrefl _ (k4.above _ z)
  have lx : as.length ≤ xs.length := by rw [k3, mn]; exact Nat.min_le_left _ _
  have ly : as.length ≤ ys.length := by rw [k3, mn]; exact Nat.min_le_right _ _
  have at_ := putP_at as xs ys (upd H1 g.objs.size (.lst (as.map V.ref))) lx ly nd
  have off : ∀ b, b ∉ as → b ≠ g.objs.size → putP (upd H1 g.objs.size (.lst (as.map V.ref))) as xs ys b = H1 b := fun b h1 h2 => by rw [putP_off as xs ys _ h1, upd_ne h2]
  have eS : putP (upd H1 g.objs.size (.lst (as.map V.ref))) as xs ys g.objs.size = some (.lst (as.map V.ref)) := by rw [putP_off as xs ys _ Sn, upd_same]
  have kp2 : ∀ b u, H1 b = some u → putP (upd H1 g.objs.size (.lst (as.map V.ref))) as xs ys b = some u := fun b u e => by
    rw [off b (fun z => by rw [nas b z] at e; cases e) (fun z => by rw [z, nS] at e; cases e)]
    exact e
  refine ⟨.ref g.objs.size, _, inv_grow (tk := s1.toks) I1 hk kp2 (fun b o e n => ?_) (fun b u e => ?_), rfl, q _ _ as kp2 nS nas (by rw [k3, mn]) eS at_⟩
  · have lt := Heap.lt_size e
    rw [off b (fun z => absurd (Nat.lt_of_lt_of_le lt (Nat.le_trans hS (Nat.le_of_lt (k4.above b z)))) (Nat.lt_irrefl _)) (Nat.ne_of_lt (Nat.lt_of_lt_of_le lt hS))]
    exact n
  · by_cases hb : b ∈ as
    · right
      obtain ⟨j, hj, rfl⟩ := List.getElem_of_mem hb
      obtain ⟨x, y, e1, e2, e3⟩ := at_ j _ (List.getElem?_eq_getElem hj)
      rw [e3] at e
      cases e
      obtain ⟨vx, vy, f1, f2, f3⟩ := k4.at_ j _ (List.getElem?_eq_getElem hj)
      obtain ⟨wx, g1, r1⟩ := va.get e1
      obtain ⟨wy, g2, r2⟩ := vb.get e2
      have h1 : vx = wx := Option.some.inj (f1.symm.trans (by simpa using g1))
      have h2 : vy = wy := Option.some.inj (f2.symm.trans (by simpa using g2))
      subst h1 h2
      exact ⟨by show 2 ≤ sizeLine; decide, [vx, vy], .cons r1 (.cons r2 .nil), ⟨_, f3, rfl, _, rfl⟩⟩
    · by_cases hb2 : b = g.objs.size
      · right
        rw [hb2] at e ⊢
        rw [eS] at e
        cases e
        refine ⟨by rw [List.length_map, k3, mn]; exact hmin, acc.toList, c, by rw [k5]; exact refs_vals as, ?_⟩
        rw [Array.toArray_toList]
        exact k2
      · left
        rw [off b hb hb2] at e
        exact e
end PKZ
namespace PKZ
open PySem PySem.Spec PyProof.Rows L2
def SqV (kd : Kd) (K : PySem.W.Frag) (H : Hp) (a : Addr) (xs : List V) : Prop := match kd with
  | .l => SqL K H a xs
  | .t => SqT K H a xs
theorem sq_kd {X : Cx} {pins : List (Addr × Obj)} {σ : L2.St} {H : Hp} {s : Shared} {kd : Kd} {a : Addr} {xs : List V} (I : Inv X pins σ H s) (q : SqV kd X.K H a xs) : ∃ its : List Value, Vals xs its ∧ kd.Sq s.heap a its.toArray := by
  cases kd with
  | l => obtain ⟨its, rv, p, _⟩ := I.list q; exact ⟨its, rv, p.isList⟩
  | t => obtain ⟨its, rv, p, _⟩ := I.tuple q; exact ⟨its, rv, p⟩
/-- pairs of the items of two sequences -/
def ItP (K : PySem.W.Frag) (ka kb : Kd) (a b : Addr) (xs ys : List V) : It :=
  ⟨fun i H => SqV ka K H a xs ∧ SqV kb K H b ys ∧ i < xs.length ∧ i < ys.length,
    fun i H v H' => ∃ T x y, v = .ref T ∧ H T = none ∧ H' = upd H T (.tup [x, y]) ∧ xs[i]? = some x ∧ ys[i]? = some y,
    fun i H => SqV ka K H a xs ∧ SqV kb K H b ys ∧ (xs.length ≤ i ∨ ys.length ≤ i)⟩
theorem turn_zip {P : Program} {w : World} {K : PySem.W.Frag} {elts : List Expr} {kk : Nat} {tpos : Pos} {ka kb : Kd} {a b z TI TO i1 i2 : Addr} {xs ys : List V} (D : ZipApart z TI TO i1 i2 a b) :
    Turn P w K (.Tuple elts kk tpos) (ItP K ka kb a b xs ys) [z, TI, TO, i1, i2] z (fun i h => Zo h z TI TO .none false ∧ IsPair h TI (.ref i1) (.ref i2) ∧ (∃ x y, IsPair h TO x y) ∧ ka.It h i1 a i ∧ kb.It h i2 b i) where
  mem := List.mem_cons_self
  obj := fun i h st c hc => by
    obtain ⟨q1, q2, ⟨x, y, q3⟩, q4, q5⟩ := st
    simp only [List.mem_cons, List.not_mem_nil, or_false] at hc
    rcases hc with e | e | e | e | e
    · rw [e]; exact ⟨_, q1, fun v q => nomatch q⟩
    · rw [e]; exact ⟨_, q2, fun v q => nomatch q⟩
    · rw [e]; exact ⟨_, q3, fun v q => nomatch q⟩
    · rw [e]; exact Kd.it_get q4
    · rw [e]; exact Kd.it_get q5
  keep := fun i h h' st k => by
    obtain ⟨q1, q2, ⟨x, y, q3⟩, q4, q5⟩ := st
    exact ⟨k z (by simp) _ q1, k TI (by simp) _ q2, ⟨x, y, k TO (by simp) _ q3⟩, Kd.it_at q4 fun o q => k i1 (by simp) o q, Kd.it_at q5 fun o q => k i2 (by simp) o q⟩
  item := by
    intro X hP hw hK hc i pins s σ H E I hf st hg
    subst hP hw hK
    obtain ⟨q1, q2, ⟨x0, y0, q3⟩, q4, q5⟩ := st
    obtain ⟨sx, sy, lx, ly⟩ := hg
    obtain ⟨ia, va, sa⟩ := sq_kd I sx
    obtain ⟨ib, vb, sb⟩ := sq_kd I sy
    obtain ⟨u, hu, ru⟩ := va.get (List.getElem?_eq_getElem lx)
    obtain ⟨u2, hu2, ru2⟩ := vb.get (List.getElem?_eq_getElem ly)
    have zl : z < s.heap.objs.size := Heap.lt_size q1
    have hT : s.TypeIs (.ref z) "zip" := ⟨_, q1, rfl⟩
    unfold pyNext
    refine wpAny_bind (wpAny_attempt (wpAny_callSpecial?_slot (name := Str.ofString "__next__") hT F.slot_zip_next (wpAny_call_entry F.slot_zip_next hT F.entry_zip_next ?_ (F.args_zip_next_1 _))))
    refine free_item D q1 q2 q3 q4 q5 sa sb (x := u) (y := u2) (by simpa using hu) (by simpa using hu2) fun h' c1 c2 c3 c4 c5 c6 c7 => wpAny_pure ?_
    refine ⟨_, rfl, wpAny_letOwnedTupleGo_zip (s := { s with heap := h' }) c1 fun g d1 d2 => ?_⟩
    have t2 : g.get? s.heap.objs.size = some { cls := .type "tuple", data := .seq #[u, u2] } := (d2.2 _ (Nat.ne_of_gt zl)).trans c5
    have new : ObjOk X.prog X.w (upd H s.heap.objs.size (.tup [xs[i], ys[i]])) g s.heap.objs.size (.tup [xs[i], ys[i]]) := ⟨by show 2 ≤ sizeLine; decide, [u, u2], .cons ru (.cons ru2 .nil), ⟨_, t2, rfl, _, rfl⟩⟩
    have away : ∀ c o, c ∉ [z, TI, TO, i1, i2] → s.heap.get? c = some o → g.get? c = some o := fun c o hb q => by
      simp only [List.mem_cons, List.not_mem_nil, or_false, not_or] at hb
      exact (d2.2 c hb.1).trans (c7 c o hb.1 hb.2.2.1 hb.2.2.2.1 hb.2.2.2.2 q)
    have I1 : Inv X pins σ (upd H s.heap.objs.size (.tup [xs[i], ys[i]])) { s with heap := g } := I.turnedNew (t' := s.toks) (ch := [z, TI, TO, i1, i2]) away hf (Nat.le_refl _) new
    refine ⟨.ref s.heap.objs.size, _, I1, rfl, ⟨_, xs[i], ys[i], rfl, I.hok.fresh (Nat.le_refl _), rfl, List.getElem?_eq_getElem lx, List.getElem?_eq_getElem ly⟩, ⟨d1, (d2.2 _ D.TIz).trans (c7 _ _ D.TIz D.TITO D.TIi1 D.TIi2 q2), ⟨_, _, (d2.2 _ D.TOz).trans c2⟩, Kd.it_at c3 fun o q => (d2.2 _ D.i1z).trans q, Kd.it_at c4 fun o q => (d2.2 _ D.i2z).trans q⟩, fun c hc => ?_⟩
    have lt : c < s.heap.objs.size := by
      simp only [List.mem_cons, List.not_mem_nil, or_false] at hc
      rcases hc with e | e | e | e | e
      · rw [e]; exact zl
      · rw [e]; exact Heap.lt_size q2
      · rw [e]; exact Heap.lt_size q3
      · rw [e]; obtain ⟨o, p, _⟩ := Kd.it_get q4; exact Heap.lt_size p
      · rw [e]; obtain ⟨o, p, _⟩ := Kd.it_get q5; exact Heap.lt_size p
    rw [upd_ne (Nat.ne_of_lt lt)]
    exact (hf c hc).1
  done := by
    intro X hP hw hK hc i pins s σ H E I hf st hg
    subst hP hw hK
    obtain ⟨q1, q2, ⟨x0, y0, q3⟩, q4, q5⟩ := st
    obtain ⟨sx, sy, hend⟩ := hg
    obtain ⟨ia, va, sa⟩ := sq_kd I sx
    obtain ⟨ib, vb, sb⟩ := sq_kd I sy
    have la := va.length
    have lb := vb.length
    have he : ia.toArray[i]? = none ∨ ib.toArray[i]? = none := by
      rcases hend with q | q
      · exact .inl (by simp; omega)
      · exact .inr (by simp; omega)
    have hT : s.TypeIs (.ref z) "zip" := ⟨_, q1, rfl⟩
    unfold pyNext
    refine wpAny_bind (wpAny_attempt (wpAny_callSpecial?_slot (name := Str.ofString "__next__") hT F.slot_zip_next (wpAny_call_entry F.slot_zip_next hT F.entry_zip_next ?_ (F.args_zip_next_1 _))))
    refine free_end (I.ok.hd hc) D q1 q2 q3 q4 q5 sa sb he fun h' e k ⟨o, ho, hc2⟩ => ?_
    refine wpAny_bind (wpAny_isInstance (T := "StopIteration") (b := true) ⟨o, ho, hc2⟩ isSubtype_stop (wpAny_pure ⟨rfl, I.turnedL (t' := s.toks) (ch := [z, TI, TO, i1, i2]) (fun c o hb q => ?_) hf⟩))
    simp only [List.mem_cons, List.not_mem_nil, or_false, not_or] at hb
    exact k c o hb.1 hb.2.2.1 hb.2.2.2.1 hb.2.2.2.2 q
  self := fun A i s Q E st h => wpAny_pyIter_zip st.1 h
def iZipP (K : PySem.W.Frag) (ta : TA) : TI := fun σ H R => ta σ H fun vs H1 => ∃ (ka kb : Kd) (a b : Addr) (xs ys : List V), vs = [.ref a, .ref b] ∧ SqV ka K H1 a xs ∧ SqV kb K H1 b ys ∧ R (ItP K ka kb a b xs ys) H1
/-- for x, y in zip(e, e2), lists and tuples -/
theorem pi_zipP {X : Cx} {e e2 : Expr} {ta : TA} {p pos tpos : Pos} {elts : List Expr} {kk : Nat} (hg : Gl X "zip") (hm : X.mg "zip" = none) (ha : PA X [e, e2] ta)
    (hs : starEach [e, e2] X.env = (false, eval e X.env) :: starEach [e2] X.env := by rfl) (hpl : (backTo pos (starEach [e2] X.env)).any (·.1) = false := by rfl) :
    PI X (.Tuple elts kk tpos) (.Call (.Name "zip" p) [e, e2] [] pos) (iZipP X.K ta) := by
  refine ⟨fun pins s σ H R I h => ?_⟩
  refine Call_ (ld_blt I hg hm PyProof.Rows.boot_zip (PyProof.Rows.callWith_type1 (thn (ha.run pos pins s σ H _ I h) fun us s1 ⟨vs, H1, I1, r1, q1⟩ => ?_) hs hpl))
  obtain ⟨ka, kb, a, b, xs, ys, rfl, sx, sy, q⟩ := q1
  obtain ⟨u, u2, rfl, ru, ru2⟩ : ∃ u u2, us = [u, u2] ∧ RelV (V.ref a) u ∧ RelV (V.ref b) u2 := by
    cases r1 with
    | cons r t => cases t with
      | cons r2 t => cases t; exact ⟨_, _, rfl, r, r2⟩
  obtain rfl : u = Value.ref a := ru
  obtain rfl : u2 = Value.ref b := ru2
  obtain ⟨ia, va, sa⟩ := sq_kd I1 sx
  obtain ⟨ib, vb, sb⟩ := sq_kd I1 sy
  refine call_zg sa sb fun g Z zo sz kp => wpAny_pyIter_zip (s := { s1 with heap := g }) zo ?_
  have I2 : Inv X pins σ H1 { s1 with heap := g } := I1.kept (t' := s1.toks) kp
  refine ⟨s1.heap.objs.size + 4, [s1.heap.objs.size + 4, s1.heap.objs.size + 2, s1.heap.objs.size + 3, s1.heap.objs.size, s1.heap.objs.size + 1], _, _, H1, rfl, I2, turn_zip (PySem.W.ktu_apart s1.heap.objs.size a b (Kd.sq_lt sa) (Kd.sq_lt sb)), ⟨zo, Z.ti, Z.to, Z.it1, Z.it2⟩, fun c hc => ?_, q⟩
  have le : s1.heap.objs.size ≤ c := by
    simp only [List.mem_cons, List.not_mem_nil, or_false] at hc
    rcases hc with e | e | e | e | e
    · rw [e]; exact Nat.le_add_right _ _
    · rw [e]; exact Nat.le_add_right _ _
    · rw [e]; exact Nat.le_add_right _ _
    · rw [e]; exact Nat.le_refl _
    · rw [e]; exact Nat.le_add_right _ _
  exact I1.fpOk le (I1.hok.fresh le)
theorem walk_zipP {K : PySem.W.Frag} {ka kb : Kd} {a b : Addr} {xs ys : List V} {n : Nat} (hn : n = min xs.length ys.length) : Walk (ItP K ka kb a b xs ys) n (fun H => SqV ka K H a xs ∧ SqV kb K H b ys) (YPair (fun i => xs[i]?) (fun i => ys[i]?)) := by
  subst hn
  refine ⟨fun i _ hi q => ⟨q.1, q.2, by omega, by omega⟩, fun _ q => ⟨q.1, q.2, by omega⟩, fun i H v H' _ q y => ?_⟩
  obtain ⟨T, x, y, h1, h2, h3, h4, h5⟩ := y
  exact ⟨T, x, y, h1, h2, h3, h4, h5⟩
end PKZ
namespace PKZ
open PySem PySem.Spec PyProof.Rows L2
/-! t[::-1] of a tuple; xs.extend(t) -/
theorem adjust_back (n : Nat) : Builtin.Slice.sliceAdjust none none (-1) (n : Int) = ((n : Int) - 1, -1) := by
  unfold Builtin.Slice.sliceAdjust
  simp
theorem places_back (n : Nat) : Builtin.Slice.slicePlaces ((n : Int) - 1) (-1) (-1) = n := by
  unfold Builtin.Slice.slicePlaces
  rw [if_neg (by decide), show (- -1 : Int) = 1 by decide, Int.ediv_one]
  split <;> omega
theorem fm_congr {α β : Type} {f g : α → Option β} : ∀ {l : List α}, (∀ x ∈ l, f x = g x) → l.filterMap f = l.filterMap g
  | [], _ => rfl
  | x :: r, h => by
    have e := h x List.mem_cons_self
    have ih := fm_congr (l := r) fun y hy => h y (List.mem_cons_of_mem _ hy)
    cases q : f x with
    | none => rw [List.filterMap_cons_none q, List.filterMap_cons_none (e ▸ q), ih]
    | some y => rw [List.filterMap_cons_some q, List.filterMap_cons_some (e ▸ q), ih]
theorem pick_back (xs : List Value) : (((List.range xs.length).filterMap fun (k : Nat) => xs.toArray[((xs.length : Int) - 1 + (k : Int) * (-1)).toNat]?)) = xs.reverse := by
  have e : (List.range xs.length).filterMap (fun (k : Nat) => xs.toArray[((xs.length : Int) - 1 + (k : Int) * (-1)).toNat]?) = (List.range xs.length).filterMap fun k => xs.reverse.toArray[0 + k]? := by
    refine fm_congr fun k hk => ?_
    have hk := List.mem_range.mp hk
    have : ((xs.length : Int) - 1 + (k : Int) * (-1)).toNat = xs.length - 1 - k := by omega
    rw [this]
    simp [List.getElem?_reverse hk]
  have p := pick_run xs.reverse.toArray 0 xs.length
  rw [List.filterMap_map] at p
  rw [e]
  refine p.trans ?_
  rw [List.drop_zero]
  exact List.take_of_length_le (by rw [List.length_reverse]; exact Nat.le_refl _)
section
variable {prog : Program} {w : World} {A : Around} {E : Value → Shared → Prop} {s : Shared}
theorem applied_back {sl : Addr} {t : Tok} {n : Nat} {Q : Int × Int × Nat → Shared → Prop} (hs : s.heap.IsSliceOf sl .none .none (.int (-1) t)) (h : Q ((n : Int) - 1, -1, n) s) : wpAny (model prog w) A (Builtin.Slice.sliceApplied (.ref sl) (pure (n : Int))) Q E s := by
  obtain ⟨os, hos, hcs, hds⟩ := id hs
  unfold Builtin.Slice.sliceApplied Builtin.Slice.sliceFields
  refine wpAny_bind (wpAny_bind (wpAny_field hos hds (x := .none) rfl (wpAny_bind (wpAny_field hos hds (x := .none) rfl (wpAny_bind (wpAny_field hos hds (x := .int (-1) t) rfl (wpAny_pure ?_)))))))
  refine wpAny_bind (HT.slicePart_ (o := some (-1)) (.int _ _) ?_)
  show wpAny _ _ (if ((-1 : Int) == 0) = true then _ else _) _ _ s
  rw [if_neg (by decide)]
  refine wpAny_bind (HT.slicePart_ .none (wpAny_bind (HT.slicePart_ .none (wpAny_bind (wpAny_pure ?_)))))
  show wpAny _ _ (match Builtin.Slice.sliceAdjust none none (-1) (n : Int) with | (lo, hi) => pure (lo, (-1 : Int), Builtin.Slice.slicePlaces lo hi (-1))) _ _ s
  rw [adjust_back]
  show wpAny _ _ (pure ((n : Int) - 1, (-1 : Int), Builtin.Slice.slicePlaces ((n : Int) - 1) (-1) (-1))) _ _ s
  rw [places_back]
  exact wpAny_pure h
theorem tuple_back {t sl : Addr} {its : List Value} {tk : Tok} {Q : Value → Shared → Prop} (ht : PyProof.Rows.IsTup s.heap t its.toArray) (hs : s.heap.IsSliceOf sl .none .none (.int (-1) tk)) (hz : its.length ≤ sizeLine)
    (h : Q (.ref s.heap.objs.size) { s with heap := s.heap.push { cls := .type "tuple", data := .seq its.reverse.toArray } }) : wpAny (model prog w) A (getItem (.ref t) (.ref sl)) Q E s := by
  have fit : sizeOk (.seq its.reverse.toArray) := by
    show its.reverse.toArray.size ≤ sizeLine
    rw [List.size_toArray, List.length_reverse]; exact hz
  obtain ⟨os, hos, hcs, hds⟩ := id hs
  unfold getItem
  try with_reducible refine wpAny_holding ?_
  first | refine wpAny_bind (wpAny_pure ?_) | skip
  refine wpAny_bind (wpAny_sequenceKey ht.typeIs (by decide) (wpAny_bind (wpAny_callSpecial?_slot (name := Str.ofString "__getitem__") ht.typeIs PyProof.Rows.slot_tuple_getitem (wpAny_call_entry PyProof.Rows.slot_tuple_getitem ht.typeIs entry_tuple_getitem ?_ (args_tuple_getitem _ _)))))
  show wpAny _ _ (Builtin.Tuple.tupleItemsOf (.ref t) >>= _) _ _ s
  refine wpAny_bind (tupleItemsOf_ ht (wpAny_bind (wpAny_typeOf (T := "slice") ⟨os, hos, hcs⟩ ?_)))
  rw [if_pos (by decide)]
  refine wpAny_bind (applied_back hs ?_)
  have no : ¬ ((((its.toArray.size : Int) - 1) == 0 && (-1 : Int) == 1 && its.toArray.size == its.toArray.size) = true) := by simp
  show wpAny _ _ (if ((((its.toArray.size : Int) - 1) == 0 && (-1 : Int) == 1 && its.toArray.size == its.toArray.size)) = true then _ else _) _ _ s
  rw [if_neg no]
  have pk : ((List.range its.toArray.size).filterMap fun (k : Nat) => its.toArray[((its.toArray.size : Int) - 1 + (k : Int) * (-1)).toNat]?).toArray = its.reverse.toArray := by
    rw [List.size_toArray, pick_back]
  rw [pk]
  first
    | exact wpAny_bind (m := Builtin.Tuple.tupleExact _) (wpAny_newObj_type (wpAny_pure ⟨_, rfl, wpAny_pure h⟩) fit)
    | exact wpAny_bind (m := Builtin.Tuple.tupleExact _) (wpAny_newObj_type (wpAny_bind (wpAny_pure (wpAny_pure ⟨_, rfl, wpAny_pure h⟩))) fit)
    | exact wpAny_bind (wpAny_bind (m := Builtin.Tuple.tupleExact _) (wpAny_newObj_type (wpAny_pure (wpAny_pure ⟨_, rfl, wpAny_pure h⟩)) fit))
    | exact wpAny_bind (wpAny_bind (m := Builtin.Tuple.tupleExact _) (wpAny_newObj_type (wpAny_pure ⟨_, rfl, wpAny_pure h⟩) fit))
end
def tRevT (K : PySem.W.Frag) (te : TE) : TE := fun σ H Q => te σ H fun x H1 => ∃ a xs, x = .ref a ∧ SqT K H1 a xs ∧ ∀ p, H1 p = none → Q (.ref p) (upd H1 p (.tup xs.reverse))
/-- t[::-1] of a tuple -/
theorem pe_revT {X : Cx} {e : Expr} {te : TE} {k : Nat} {p1 p2 p3 pos : Pos} (he : PE X e te) : PE X (.Subscript e (.Slice none none (some (.UnaryOp .USub (.Constant (.int 1) k p1) p2)) p3) pos) (tRevT X.K te) := by
  refine ⟨fun pins s σ H Q I h => Subscript_ (thn (he.run pins s σ H _ I h) fun v s1 ⟨x, H1, I1, r1, q1⟩ => ?_)⟩
  obtain ⟨a, xs, ex, hx, q⟩ := q1
  subst ex
  cases r1
  have hst : PO X (some (.UnaryOp .USub (.Constant (.int 1) k p1) p2)) (tPart (tUn (rU fun i => .int (-i)) (tC (.int 1)))) := po_some (pe_un un_neg pe_int)
  refine wpAny_Slice (thn (po_none.run pins s1 σ H1 (fun o H2 => o = none ∧ H2 = H1) I1 ⟨rfl, rfl⟩) fun vl s2 ⟨l, H2, I2, pl, el, e2⟩ => ?_)
  subst el e2
  refine thn (po_none.run pins s2 σ H2 (fun o H3 => o = none ∧ H3 = H2) I2 ⟨rfl, rfl⟩) fun vu s3 ⟨u, H3, I3, pu, eu, e3⟩ => ?_
  subst eu e3
  refine thn (hst.run pins s3 σ H3 (fun o H4 => o = some (-1) ∧ H4 = H3) I3 ⟨1, rfl, -1, rfl, rfl, rfl⟩) fun vs s4 ⟨o, H4, I4, ps, eo, e4⟩ => ?_
  subst eo e4
  have I5 : Inv X pins σ H4 { s4 with heap := s4.heap.push { cls := .type "slice", data := .fields #[vl, vu, vs] } } := I4.kept (t' := s4.toks) fun b ob q => Heap.get?_push_of_some _ q
  cases pl
  cases pu
  cases ps
  obtain ⟨its, r, ht, hz⟩ := I5.tuple hx
  have hlen := r.length
  refine tail_any (ops := [.ref a, .ref s4.heap.objs.size]) ht.typeIs (PyProof.Rows.slot_tuple_getitem.lookup) (tuple_back ht (Heap.IsSliceOf.new ..) (by omega) ?_) (by with_unfolding_all rfl)
  refine ⟨.ref _, _, I5.laid (t' := s4.toks) (o := .tup xs.reverse) (fun b ob q => Heap.get?_push_of_some _ q) (Nat.le_refl _) ?_, rfl, q _ (I5.hok.fresh (Nat.le_refl _))⟩
  exact ⟨by rw [List.length_reverse]; exact hz, _, r.reverse, IsTup.new _ _⟩
/-- a list is extended by a tuple -/
theorem extend_meets (l b : Addr) (xs ys : Array Value) (n m : Nat) (od : Option Addr) (os : Array (Option Value)) (long : ¬ (!xs.isEmpty && Builtin.List.listTooLong (xs.size + ys.size)) = true) (hx : xs.size ≤ sizeLine) (hxy : (xs ++ ys).size ≤ sizeLine + 1) :
    Meets (Builtin.«list.extend» ⟨[.ref l, .ref b], []⟩) (fun _ R s => s.heap.get? l = some { cls := .type "list", dict := none, data := .seq xs n, slots := #[] } ∧ s.heap.get? b = some { cls := .type "tuple", dict := od, data := .seq ys m, slots := os } ∧
      R (.ok (.ret Value.none)) { s with heap := s.heap.update l (Obj.mapSeq (· ++ ys)) }) :=
  .of_wp fun prog w A R s h => by
    obtain ⟨hp, g, d, tk, o⟩ := s
    obtain ⟨hl, hb, h⟩ := h
    have f1 := AutoSeq1.idx_int
    have f2 := AutoSeq1.sub_tuple_tuple
    have f3 := AutoSeq1.sub_list_list
    have f4 := AutoSeq1.sub_tuple_list
    wp_walk using (wpAny_updateSeq hl rfl (hz := hx) (_hz' := hxy)), wpAny_loadPart' hl, wpAny_loadPart' hb
    exact ⟨_, rfl, h⟩
def rExtT (K : PySem.W.Frag) : V → List V → Hp → VK → Prop := fun x vs H Q => ∃ l b xs zs, x = .ref l ∧ vs = [.ref b] ∧ H l = some (.lst xs) ∧ SqT K H b zs ∧ xs.length + zs.length ≤ sizeLine ∧ Q .non (upd H l (.lst (xs ++ zs)))
theorem mt_extendT {X : Cx} : MtM X "list.extend" (rExtT X.K) := by
  intro pins s σ H x vs v us Q I rx rv h
  obtain ⟨l, b, xs, zs, rfl, rfl, hH, hB, hz, q⟩ := h
  cases rx
  obtain ⟨u, rfl, ru⟩ := rv.one
  cases ru
  obtain ⟨z, its, n, r, hl, e⟩ := I.lstM hH
  obtain ⟨its2, r2, ⟨o, ho, hc, n2, hd⟩, _⟩ := I.tuple hB
  obtain ⟨oc, od, odt, osl⟩ := o
  cases hc
  cases hd
  have l2 := r2.length
  have hsz : its.toArray.size + its2.toArray.size ≤ sizeLine := by rw [List.size_toArray, List.size_toArray]; omega
  have long : ¬ (!its.toArray.isEmpty && Builtin.List.listTooLong (its.toArray.size + its2.toArray.size)) = true := by
    rw [notLongL hsz, Bool.and_false]
    exact Bool.false_ne_true
  refine call_meets F.slot_list_extend ⟨_, e, rfl⟩ F.entry_list_extend (F.args_list_extend_2 _ _) (extend_meets l b its.toArray its2.toArray n n2 od osl long (by rw [List.size_toArray]; omega) (by rw [Array.size_append]; omega)) ⟨e, ho, ?_⟩
  refine ⟨.non, _, I.lset (its' := its ++ its2) hH e (by simp) (r.append r2) ?_, rfl, q⟩
  rw [List.length_append]
  omega
end PKZ
namespace PKZ
open PySem PySem.Spec PyProof.Rows L2
/-! dict(zip(e, e2)) -/
theorem zip_nokeys : typeLookup (.type "zip") "keys" = pure none := by
  rw [typeLookup_type, builtinLookup_eq_fast]; kernel_rfl
theorem zip_nogetattr : typeLookup (.type "zip") "__getattr__" = pure none := by
  rw [typeLookup_type, builtinLookup_eq_fast]; kernel_rfl
theorem zip_getattribute : entryFor table "zip.__getattribute__" = some Builtin.«object.__getattribute__» :=
  entryFor_alias (id' := "object.__getattribute__") (by kernel_rfl) (by decide +kernel) (by decide +kernel) (by kernel_rfl)
set_option maxRecDepth 8000 in
theorem zip_miss (a : Addr) (vs : Array Value) (u : Tok) :
    Meets (Builtin.«object.__getattribute__» ⟨[.ref a, .str "keys" u], []⟩) (fun A R s => s.heap.get? a = some { cls := .type "zip", dict := none, data := .fields vs, slots := #[] } ∧ raisesAttr (.ref a) "keys" A R s) :=
  Meets.of_wp fun prog w A R s hs => by
    obtain ⟨hp, g, d, tk, os⟩ := s
    obtain ⟨hx, hs⟩ := hs
    have hT : (⟨hp, g, d, tk, os⟩ : Shared).TypeIs (.ref a) "zip" := ⟨_, hx, rfl⟩
    have hmiss := zip_nokeys
    have hname : (["__module__", "__name__", "__qualname__", "__doc__", "__annotations__"] : List Str).contains "keys" = false := by decide +kernel
    have hsz : ("keys" : Str).length + 100 ≤ sizeLine := by first | size_fits | decide +kernel
    unfold Builtin.«object.__getattribute__»
    repeat (any_goals (first | assumption | wp_step))
    try simp only [hname, Bool.false_eq_true, if_false]
    repeat (any_goals (first | assumption | wp_step))
    exact wpAny_raiseAttrError hs.1 hs.2 (attrMsg_fits (by decide +kernel) hsz)
section
variable {prog : Program} {w : World} {A : Around} {E : Value → Shared → Prop}
set_option maxRecDepth 8000 in
theorem zip_has_no_keys {s : Shared} {a : Addr} {vs : Array Value} {Q : Option Value → Shared → Prop} (hx : s.heap.get? a = some { cls := .type "zip", dict := none, data := .fields vs, slots := #[] }) (hA : A.handled = none)
    (h : ∀ h' tk, (∀ b ob, s.heap.get? b = some ob → h'.get? b = some ob) → Q none { s with heap := h', toks := tk }) : wpAny (model prog w) A (getAttr? (.ref a) "keys") Q E s := by
  obtain ⟨hp, g, d, tk, os⟩ := s
  have hT : ∀ tk', (⟨hp, g, d, tk', os⟩ : Shared).TypeIs (.ref a) "zip" := fun _ => ⟨_, hx, rfl⟩
  have f1 := sub_AttributeError
  have f3 := PySem.F.slot_zip_getattribute.lookup
  have f4 := PySem.F.slot_zip_getattribute.bind (.ref a)
  have f5 := zip_nogetattr
  unfold getAttr? getAttrBy? getAttrBy
  repeat (any_goals (first | assumption | exact hT _ | ((with_reducible show wpAny _ _ (call (Value.builtin "zip.__getattribute__") _ _) _ _ _); refine call_meets PySem.F.slot_zip_getattribute (hT _) zip_getattribute (PySem.F.args_zip_getattribute_2 _ _) (zip_miss _ _ _) ⟨hx, hA, fun h' tk' e hx' => ?_⟩) | wp_step))
  obtain ⟨t', u', he⟩ := hx'.there
  show wpAny _ _ (getattributeRaised _ _ _ _ _ _ _) _ _ _
  unfold getattributeRaised
  repeat (any_goals (first | assumption | wp_step))
  all_goals first | exact h _ _ hx'.keeps | (dsimp only; repeat (any_goals (first | assumption | exact h _ _ hx'.keeps | wp_step)))
end
end PKZ
namespace PKZ
open PySem PySem.Spec PyProof.Rows L2
section
variable {prog : Program} {w : World} {A : Around} {E : Value → Shared → Prop} {ka kb : Kd} {z TI TO i1 i2 l1 l2 S : Addr} {xs ys : Array Value}
theorem dz_loop {R : Result → Shared → Prop} {res : Value} (hh : A.handled = none) (D : ZipApart z TI TO i1 i2 l1 l2) (hS : S ≠ z ∧ S ≠ TI ∧ S ≠ TO ∧ S ≠ i1 ∧ S ≠ i2 ∧ S ≠ l1 ∧ S ≠ l2) :
    ∀ (rest : List (Key × Value)) (i : Nat) (acc : List (Key × Value)) (ix : Int) (t : Tok) (s : Shared), (∀ (j : Nat) (q : Key × Value), rest[j]? = some q → ∃ u, xs[i + j]? = some u ∧ ys[i + j]? = some q.2 ∧ keyIs q.1 u = true) →
      min xs.size ys.size = i + rest.length → acc.length + rest.length ≤ sizeLine → ZSt ka kb z TI TO i1 i2 l1 l2 xs ys i s.heap → s.heap.DictOf (mixKind prog w) S acc →
      (∀ h' tk, h'.DictOf (mixKind prog w) S (merged acc rest) → (∀ b o, b ≠ S → b ≠ z → b ≠ TO → b ≠ i1 → b ≠ i2 → s.heap.get? b = some o → h'.get? b = some o) → R (.ok (.ret res)) { s with heap := h', toks := tk }) →
      codeAny (model prog w) A (.builtin "dict.update.loop" ⟨[.ref S, .ref z, .int ix t, res], []⟩) R s
  | [], i, acc, ix, t, s, hp, hn, hl, Z, hd, hR => by
    refine codeAny_builtin ud_entry ?_
    (rw [Around.under_plainId ud_plain])
    show wpAny _ A.in1 (pyNext (.ref z) >>= _) _ _ s
    have hend : xs[i]? = none ∨ ys[i]? = none := by
      have hn : min xs.size ys.size = i := hn
      rcases Nat.le_total xs.size ys.size with q | q
      · exact .inl (Array.getElem?_eq_none (by omega))
      · exact .inr (Array.getElem?_eq_none (by omega))
    refine wpAny_bind (zst_done (A := A.in1) hh D Z hend fun h' e => ?_)
    show wpAny _ A.in1 (Builtin.Dict.addKeywords S [] >>= _) _ _ _
    refine wpAny_bind (wpAny_pure (wpAny_pure (hR h' s.toks (hd.at fun o q => e _ o hS.1 hS.2.2.1 hS.2.2.2.1 hS.2.2.2.2.1 q) fun b o _ b2 b3 b4 b5 q => e b o b2 b3 b4 b5 q)))
  | p :: rest, i, acc, ix, t, s, hp, hn, hl, Z, hd, hR => by
    obtain ⟨u, hu, hv, hk⟩ := hp 0 p rfl
    rw [List.length_cons] at hn hl
    refine codeAny_builtin ud_entry ?_
    (rw [Around.under_plainId ud_plain])
    show wpAny _ A.in1 (pyNext (.ref z) >>= _) _ _ s
    refine wpAny_bind (zst_item (A := A.in1) D Z (by simpa using hu) (by simpa using hv) fun h1 Z1 pr sz e => ?_)
    have hd1 : h1.DictOf (mixKind prog w) S acc := hd.at fun o q => e _ o hS.1 hS.2.2.1 hS.2.2.2.1 hS.2.2.2.2.1 q
    show wpAny _ A.in1 (holding [Value.ref s.heap.objs.size] _ >>= _) _ _ _
    refine wpAny_bind (wpAny_holding (wpAny_bind (wpAny_tryCatch ?_)))
    unfold Builtin.Dict.pairItems
    refine wpAny_bind (wpAny_typeOf (T := "tuple") ⟨_, pr, rfl⟩ ?_)
    rw [if_pos (by first | decide | rfl | simp)]
    refine wpAny_bind (wpAny_seqItems pr rfl (wpAny_pure ?_))
    show wpAny _ A.in1 (holding [u, p.2] (dictSet S u p.2)) _ _ _
    refine wpAny_holding (wpAny_dictSet_pairs (knd := mixKind prog w) (k := p.1) hk hd1 (fun h2 hd2 e2 => ?_) (by omega))
    have kS : ∀ o, h1.get? S = some o → ∃ o', h2.get? S = some o' := fun o q => let ⟨q', _, _, hq, _⟩ := hd2; ⟨q', hq⟩
    refine wpAny_pure ⟨plainId_quiet ud_plain _, dz_loop hh D hS rest (i + 1) (stored acc p.1 p.2) (ix + 1) 0 _ (fun j q' h => ?_) (by omega) ?_ (Z1.keep hS (fun b o hb q => e2.extBut b o hb q) kS) hd2 fun h' tk hd' k => ?_⟩
    · obtain ⟨u', a1, a2, a3⟩ := hp (j + 1) q' (by simpa using h)
      exact ⟨u', by rw [show i + 1 + j = i + (j + 1) by omega]; exact a1, by rw [show i + 1 + j = i + (j + 1) by omega]; exact a2, a3⟩
    · have := stored_length_le acc p.1 p.2
      omega
    · exact hR h' tk hd' fun b o b1 b2 b3 b4 b5 q => k b o b1 b2 b3 b4 b5 (e2.extBut b o b1 (e b o b2 b3 b4 b5 q))
theorem dz_call {s : Shared} {prs : List (Key × Value)} {Q : Value → Shared → Prop} (hh : A.handled = none) (D : ZipApart z TI TO i1 i2 l1 l2) (Z : ZSt ka kb z TI TO i1 i2 l1 l2 xs ys 0 s.heap) (zo : Zo s.heap z TI TO .none false)
    (lTI : TI < s.heap.objs.size) (l1l : l1 < s.heap.objs.size) (l2l : l2 < s.heap.objs.size) (hp : ∀ (j : Nat) (q : Key × Value), prs[j]? = some q → ∃ u, xs[j]? = some u ∧ ys[j]? = some q.2 ∧ keyIs q.1 u = true) (hn : min xs.size ys.size = prs.length) (hl : prs.length ≤ sizeLine)
    (hQ : ∀ h' tk, h'.DictOf (mixKind prog w) s.heap.objs.size (merged [] prs) → (∀ b o, b ≠ z → b ≠ TO → b ≠ i1 → b ≠ i2 → s.heap.get? b = some o → h'.get? b = some o) → Q (.ref s.heap.objs.size) { s with heap := h', toks := tk }) :
    wpAny (model prog w) A (call (.type "dict") [.ref z]) Q E s := by
  have zl : z < s.heap.objs.size := Heap.lt_size zo
  have TOl : TO < s.heap.objs.size := by obtain ⟨_, _, q⟩ := Z.to; exact Heap.lt_size q
  have i1l : i1 < s.heap.objs.size := by obtain ⟨o, q, _⟩ := Kd.it_get Z.it1; exact Heap.lt_size q
  have i2l : i2 < s.heap.objs.size := by obtain ⟨o, q, _⟩ := Kd.it_get Z.it2; exact Heap.lt_size q
  refine callType_codes (Q₁ := fun obj s₁ => obj = .ref s.heap.objs.size ∧ s₁ = { s with heap := s.heap.push { cls := .type "dict", data := .dict #[] } }) PySem.F.kt_called_dict (PySem.F.kt_typeCall_dict_1 _) PySem.F.entry_dict_init (kt_code_dict_new _ ⟨rfl, rfl⟩) fun obj s₁ h₁ => ?_
  obtain ⟨rfl, rfl⟩ := h₁
  refine ⟨⟨_, Heap.get?_push_size _ rfl, rfl⟩, PySem.F.args_dict_init_2 _ _, ?_⟩
  have hnew : (s.heap.push { cls := .type "dict", data := .dict #[] }).DictOf (mixKind prog w) s.heap.objs.size [] := Heap.DictOf.new s.heap
  unfold Builtin.«dict.__init__»
  refine wpAny_bind ?_
  unfold Builtin.Dict.selfAndRest
  refine wpAny_bind (wpAny_notOrdered_dict hnew.typeIs ?_)
  show wpAny _ _ (pure (s.heap.objs.size, [Value.ref z])) _ _ _
  refine wpAny_pure ?_
  show wpAny _ _ (Builtin.Dict.updateFrom "dict.__init__" s.heap.objs.size (.ref z) [] .none) _ _ _
  unfold Builtin.Dict.updateFrom
  have kp : ∀ b o, s.heap.get? b = some o → (s.heap.push { cls := .type "dict", data := .dict #[] }).get? b = some o := fun b o e => Heap.get?_push_of_some _ e
  refine wpAny_bind (wpAny_typeOf (T := "zip") ⟨_, kp _ _ zo, rfl⟩ ?_)
  rw [if_pos (by first | decide | rfl | simp)]
  refine wpAny_bind (zip_has_no_keys (kp _ _ zo) hh fun h1 tk1 k1 => ?_)
  simp only [Option.isNone_none, if_true]
  refine wpAny_bind (wpAny_rule ?_)
  have k2 : ∀ b o, s.heap.get? b = some o → h1.get? b = some o := fun b o e => k1 b o (kp b o e)
  refine wpAny_bind (wpAny_pyIter_zip (k2 _ _ zo) ?_)
  refine wpAny_pure ⟨plainId_quiet ud_plain _, ?_⟩
  have ne : ∀ b, b < s.heap.objs.size → s.heap.objs.size ≠ b := fun b h => Ne.symm (Nat.ne_of_lt h)
  refine dz_loop (w := w) (prog := prog) (A := A.in1) (s := ⟨h1, _, _, _, _⟩) (ka := ka) (kb := kb) (xs := xs) (ys := ys) hh D ⟨ne _ zl, ne _ lTI, ne _ TOl, ne _ i1l, ne _ i2l, ne _ l1l, ne _ l2l⟩ prs 0 [] _ _ (fun j q e => ?_) ?_ ?_ ?_ ?_ fun h' tk hd' k => ?_
  · obtain ⟨u, a1, a2, a3⟩ := hp j q e
    exact ⟨u, by rw [Nat.zero_add]; exact a1, by rw [Nat.zero_add]; exact a2, a3⟩
  · rw [Nat.zero_add]; exact hn
  · show 0 + prs.length ≤ sizeLine
    rw [Nat.zero_add]; exact hl
  · exact Z.keep ⟨ne _ zl, ne _ lTI, ne _ TOl, ne _ i1l, ne _ i2l, ne _ l1l, ne _ l2l⟩ (fun b o _ q => k2 b o q) fun o q => absurd (Heap.lt_size q) (Nat.lt_irrefl _)
  · exact hnew.at fun o q => k1 _ o q
  · exact ⟨rfl, hQ h' tk hd' fun b o b1 b2 b3 b4 q => k b o (Nat.ne_of_lt (Heap.lt_size q)) b1 b2 b3 b4 (k2 b o q)⟩
end
end PKZ
namespace PKZ
open PySem PySem.Spec PyProof.Rows L2
def rDictZip (K : PySem.W.Frag) : List V → Hp → VK → Prop := fun vs H Q => ∃ (a b : Addr) (ks : List Key) (ys : List V), vs = [.ref a, .ref b] ∧ Sq2 K H a (ks.map kV) ∧ Sq2 K H b ys ∧ min ks.length ys.length ≤ sizeLine ∧
  ∀ p, H p = none → Q (.ref p) (upd H p (.dK (mergeK [] (ks.zip ys))))
def tDictZip (K : PySem.W.Frag) (ta : TA) : TE := fun σ H Q => ta σ H fun vs H1 => rDictZip K vs H1 Q
theorem kv_zip {X : Cx} : ∀ {ks : List Key} {ys : List V} {ia ib : List Value}, Vals (ks.map kV) ia → Vals ys ib →
    ∃ prs : List (Key × Value), KV (ks.zip ys) prs ∧ min ia.length ib.length = prs.length ∧ ∀ (j : Nat) (q : Key × Value), prs[j]? = some q → ∃ u, ia[j]? = some u ∧ ib[j]? = some q.2 ∧ keyIs q.1 u = true
  | [], ys, ia, ib, va, vb => by
    cases va
    exact ⟨[], by rw [List.zip_nil_left]; exact .nil, by simp, fun j q e => by simp at e⟩
  | k :: ks, [], ia, ib, va, vb => by
    cases vb
    exact ⟨[], by rw [List.zip_nil_right]; exact .nil, by simp, fun j q e => by simp at e⟩
  | k :: ks, y :: ys, ia, ib, va, vb => by
    rw [List.map_cons] at va
    cases va with
    | cons r t => cases vb with
      | cons r2 t2 =>
        rename_i u us u2 us2
        obtain ⟨prs, k1, k2, k3⟩ := kv_zip (X := X) t t2
        refine ⟨(k, u2) :: prs, ?_, ?_, fun j q e => ?_⟩
        · rw [List.zip_cons_cons]
          exact .cons ⟨rfl, r2⟩ k1
        · rw [List.length_cons, List.length_cons, List.length_cons, ← k2]
          omega
        · cases j with
          | zero =>
            have e' : (k, u2) = q := Option.some.inj e
            subst e'
            exact ⟨u, rfl, rfl, kV_is (P := X.prog) (w := X.w) r⟩
          | succ j =>
            obtain ⟨b, e1, e2, e3⟩ := k3 j q (by simpa using e)
            exact ⟨b, by simpa using e1, by simpa using e2, e3⟩
/-- dict(zip(e, e2)) -/
theorem pe_dictZip {X : Cx} {e e2 : Expr} {ta : TA} {p p2 pos pos2 : Pos} (hc : X.calm = true) (hg : Gl X "dict") (hm : X.mg "dict" = none) (hv : bootBuiltins "dict" = some (.type "dict")) (hg2 : Gl X "zip") (hm2 : X.mg "zip" = none) (ha : PA X [e, e2] ta)
    (hs : starEach [.Call (.Name "zip" p2) [e, e2] [] pos2] X.env = (false, eval (.Call (.Name "zip" p2) [e, e2] [] pos2) X.env) :: starEach [] X.env := by rfl)
    (hs2 : starEach [e, e2] X.env = (false, eval e X.env) :: starEach [e2] X.env := by rfl) (hpl : (backTo pos2 (starEach [e2] X.env)).any (·.1) = false := by rfl) :
    PE X (.Call (.Name "dict" p) [.Call (.Name "zip" p2) [e, e2] [] pos2] [] pos) (tDictZip X.K ta) := by
  refine ⟨fun pins s σ H Q I hq => ?_⟩
  refine wpAny_Call_Name_kw (ld_blt I hg hm hv (PyProof.Rows.callWith_type1 ?_ hs rfl))
  rw [hs]
  show wpAny _ _ (spliced ((false, eval (.Call (.Name "zip" p2) [e, e2] [] pos2) X.env) :: backTo pos (starEach [] X.env))) _ _ s
  refine Calls.spliced_cons (Call_ (ld_blt I hg2 hm2 PyProof.Rows.boot_zip (PyProof.Rows.callWith_type1 (thn (ha.run pos2 pins s σ H _ I hq) fun us s1 ⟨vs, H1, I1, r1, q1⟩ => ?_) hs2 hpl)))
  obtain ⟨a, b, ks, ys, rfl, qa, qb, hmin, q⟩ := q1
  obtain ⟨u, us, rfl, ru, rr⟩ : ∃ u us', us = u :: us' ∧ RelV (V.ref a) u ∧ Vals [V.ref b] us' := by cases r1 with | cons r t => exact ⟨_, _, rfl, r, t⟩
  obtain ⟨u2, rfl, ru2⟩ : ∃ u2, us = [u2] ∧ RelV (V.ref b) u2 := by cases rr with | cons r t => cases t; exact ⟨_, rfl, r⟩
  obtain rfl : u = Value.ref a := ru
  obtain rfl : u2 = Value.ref b := ru2
  obtain ⟨ka, ia, va, sa⟩ := sq_of I1 qa
  obtain ⟨kb, ib, vb, sb⟩ := sq_of I1 qb
  have la := va.length
  rw [List.length_map] at la
  have lb := vb.length
  obtain ⟨prs, rel, hl, hpr⟩ := kv_zip (X := X) va vb
  have hlen : prs.length ≤ sizeLine := by rw [← hl, ← la, ← lb]; exact hmin
  refine call_zg sa sb fun g Z zo sz kp => Calls.spliced_nil ?_
  have hal := Kd.sq_lt sa
  have hbl := Kd.sq_lt sb
  have hS : s1.heap.objs.size ≤ g.objs.size := by rw [sz]; exact Nat.le_add_right _ _
  refine dz_call (s := { s1 with heap := g }) (prs := prs) (I1.ok.hd hc) (PySem.W.ktu_apart s1.heap.objs.size a b hal hbl) Z zo (Heap.lt_size Z.ti) (Nat.lt_of_lt_of_le hal hS) (Nat.lt_of_lt_of_le hbl hS) (fun j q e => ?_) (by rw [List.size_toArray, List.size_toArray]; exact hl) hlen fun h' tk hd' k => ?_
  · obtain ⟨u, e1, e2, e3⟩ := hpr j q e
    exact ⟨u, by simpa using e1, by simpa using e2, e3⟩
  · dsimp only at hd' k ⊢
    have hk : ∀ b o, s1.heap.get? b = some o → h'.get? b = some o := fun b o e => by
      have lt := Heap.lt_size e
      exact k b o (Nat.ne_of_lt (Nat.lt_of_lt_of_le lt (Nat.le_add_right _ _))) (Nat.ne_of_lt (Nat.lt_of_lt_of_le lt (Nat.le_add_right _ _))) (Nat.ne_of_lt lt) (Nat.ne_of_lt (Nat.lt_of_lt_of_le lt (Nat.le_add_right _ _))) (kp _ _ e)
    have nS : H1 g.objs.size = none := I1.hok.fresh hS
    have hm : (g.objs.size == sysModules) = false := beq_eq_false_iff_ne.mpr (Nat.ne_of_gt (Nat.lt_of_lt_of_le I1.big hS))
    have hz : (mergeK [] (ks.zip ys)).length ≤ sizeLine := by
      refine Nat.le_trans (length_mergeK _ []) ?_
      rw [List.length_nil, Nat.zero_add, rel.length]
      exact hlen
    exact ⟨.ref g.objs.size, upd H1 g.objs.size (.dK (mergeK [] (ks.zip ys))), I1.laid (t' := tk) hk hS (show ObjOk X.prog X.w _ _ _ (.dK (mergeK [] (ks.zip ys))) from ⟨hz, hm, merged [] prs, KV.merge rel .nil, hd'⟩), rfl, q _ nS⟩
end PKZ
/-! del xs[-m:], m from 1 to the length: the list's last m items go -/
namespace L2.PKR
open PySem PySem.Spec PyProof.Rows
theorem keep_first {sel : Nat → Bool} {a : Nat} : ∀ (its : List Value) (j : Nat), (∀ k, k < j + its.length → sel k = decide (a ≤ k)) →
    (its.zipIdx j).filterMap (fun p => if sel p.2 = true then none else some p.1) = its.take (a - j)
  | [], _, _ => by simp
  | x :: r, j, h => by
    have ih := keep_first r (j + 1) (fun k hk => h k (by rw [List.length_cons]; omega))
    have e := h j (by rw [List.length_cons]; omega)
    rw [List.zipIdx_cons]
    by_cases q : a ≤ j
    · rw [decide_eq_true q] at e
      rw [List.filterMap_cons_none (by simp only [e, if_true]), ih, show a - (j + 1) = 0 by omega, show a - j = 0 by omega, List.take_zero, List.take_zero]
    · rw [decide_eq_false q] at e
      rw [List.filterMap_cons_some (b := x) (by simp only [e]; rfl), ih, show a - j = (a - (j + 1)) + 1 by omega, List.take_succ_cons]
theorem tail_bounds {m n : Nat} (h : m ≤ n) (h0 : 0 < m) : sliceBounds (some (-(m : Int))) none none n = (((n - m : Nat) : Int), (n : Int), 1) := by
  simp only [sliceBounds, Option.getD_none]
  have h1 : (-(m : Int)) < 0 := by omega
  simp only [h1, if_true, show (1 : Int) > 0 by decide]
  congr 1
  omega
section
variable {prog : Program} {w : World} {A : Around} {E : Value → Shared → Prop} {s : Shared}
theorem del_tail {l sl : Addr} {its : List Value} {n m : Nat} {vl : Value} {Q : Unit → Shared → Prop} (e : s.heap.get? l = some { cls := .type "list", data := .seq its.toArray n }) (hs : s.heap.IsSliceOf sl vl .none .none)
    (pl : IsPart vl (some (-(m : Int)))) (h0 : 0 < m) (hm : m ≤ its.length) (hz : its.length ≤ sizeLine)
    (h : ∀ f : Array Value → Array Value, f its.toArray = (its.take (its.length - m)).toArray → Q () { s with heap := s.heap.update l (Obj.mapSeq f) }) : wpAny (model prog w) A (delItem (.ref l) (.ref sl)) Q E s := by
  have hl : s.heap.IsList l its.toArray := PySem.IsL.isList e
  obtain ⟨os, hos, hcs, hds⟩ := id hs
  have ty : s.TypeIs (.ref sl) "slice" := ⟨os, hos, hcs⟩
  refine wpAny_delItem_slot hl.typeIs (by decide) F.slot_list_delitem (wpAny_call_entry F.slot_list_delitem hl.typeIs F.entry_list_delitem ?_ (F.args_list_delitem_2 _ _))
  show wpAny _ _ (Builtin.List.listSubscript? (.ref sl) >>= _) _ _ s
  unfold Builtin.List.listSubscript?
  refine wpAny_bind (wpAny_bind (wpAny_specialOf ty slice_no_index ?_))
  simp only [Option.isNone_none, if_true]
  refine wpAny_pure ?_
  show wpAny _ _ (typeOf (.ref sl) >>= _) _ _ s
  refine wpAny_bind (wpAny_typeOf ty ?_)
  first | (rw [if_neg (by decide)]) | (refine PySem.W.KFB.if_not (by decide) ?_)
  rw [listSliceParts_eq]
  refine wpAny_bind (wpAny_bind (wpAny_field hos hds (x := .none) rfl (wpAny_bind (wpAny_listPart .none ?_)))); rw [if_neg (show ¬ ((rawPart none == rawInt 0) = true) from Bool.false_ne_true)]
  refine wpAny_bind (wpAny_field hos hds (x := vl) rfl (wpAny_bind (wpAny_listPart pl (wpAny_bind (wpAny_field hos hds (x := .none) rfl (wpAny_bind (wpAny_listPart .none (wpAny_pure ?_))))))))
  unfold Builtin.List.listItems
  refine wpAny_bind (wpAny_bind (wpAny_seqItems e rfl (wpAny_pure ?_)))
  refine wpAny_bind (wpAny_of_eq ((sliceIndices_raw (some (-(m : Int))) none none its.toArray.size (by simp)).trans (congrArg (pure : Int × Int × Int → Sem (Int × Int × Int)) (tail_bounds (n := its.toArray.size) (by simpa using hm) h0))) ?_)
  refine wpAny_bind (wpAny_rule ?_)
  have lt : its.toArray.size = its.length := List.size_toArray
  show wpAny _ _ (updateSeq l _ >>= _) _ _ _
  refine wpAny_bind (wpAny_updateSeq (hz := by rw [lt]; exact hz) (_hz' := ?fit) e rfl (wpAny_bind (wpAny_letGo (wpAny_pure ⟨.none, rfl, h _ (congrArg List.toArray ?same)⟩))))
  case fit =>
    rw [List.size_toArray]
    exact Nat.le_succ_of_le (Nat.le_trans (List.length_filterMap_le _ _) (by rw [List.length_zipIdx]; exact hz))
  case same =>
    refine (keep_first (a := its.length - m) its 0 fun k hk => ?_)
    show (if (1 : Int) > 0 then (decide (((its.toArray.size - m : Nat) : Int) ≤ (k : Int)) && decide ((k : Int) < (its.toArray.size : Int)) && (((k : Int) - ((its.toArray.size - m : Nat) : Int)) % 1 == 0)) else _) = _
    rw [if_pos (by decide), lt, Int.emod_one]
    have k2 : (k : Int) < (its.length : Int) := by omega
    rw [decide_eq_true k2, Bool.and_true]
    by_cases q : its.length - m ≤ k
    · rw [decide_eq_true q, decide_eq_true (show ((its.length - m : Nat) : Int) ≤ (k : Int) by omega)]; rfl
    · rw [decide_eq_false q, decide_eq_false (show ¬ ((its.length - m : Nat) : Int) ≤ (k : Int) by omega)]; rfl
end
def tDelTail (to ti : TE) : TS := fun D σ H => to σ H fun x H1 => ti σ H1 fun y H2 => ∃ (l : Addr) (xs : List V) (m : Nat), x = .ref l ∧ y = .int (-(m : Int)) ∧ H2 l = some (.lst xs) ∧ 0 < m ∧ m ≤ xs.length ∧ D.nx σ (upd H2 l (.lst (xs.take (xs.length - m))))
theorem ps_delTail {X : Cx} {o i : Expr} {to ti : TE} {p2 tpos pos : Pos} (ho : PE X o to) (hi : PE X i ti) : PS X (.Delete [.Subscript o (.Slice (some i) none none p2) tpos] pos) (tDelTail to ti) := by
  refine ⟨fun pins s σ H D I h => wpAny_Delete (wpAny_deleteEach_cons (wpAny_delete_Subscript (thn (ho.run pins s σ H _ I h) fun u s1 ⟨x, H1, I1, rx, q1⟩ => wpAny_Slice ?_)))⟩
  rw [evalPart_some]
  refine thn (hi.run pins s1 σ H1 _ I1 q1) fun v s2 ⟨y, H2, I2, ry, l, xs, m, ex, ey, hH, h0, hm, q2⟩ => ?_
  subst ex ey
  cases (show u = Value.ref l from rx)
  obtain ⟨t, rfl⟩ := (show ∃ t, v = Value.int (-(m : Int)) t from ry)
  rw [evalPart_none]
  refine wpAny_pure (wpAny_pure ?_)
  have I3 : Inv X pins σ H2 { s2 with heap := s2.heap.push { cls := .type "slice", data := .fields #[.int (-(m : Int)) t, .none, .none] } } := I2.kept (t' := s2.toks) fun b ob z => Heap.get?_push_of_some _ z
  obtain ⟨hz, its, n, r, hl, e⟩ := I3.lstM hH
  refine del_tail (m := m) e (Heap.IsSliceOf.new ..) (.int _ _) h0 (by omega) (by omega) fun f hf => wpAny_deleteEach_nil ⟨σ, _, I3.lset (its' := its.take (its.length - m)) (t' := s2.toks) hH e hf (by rw [← hl]; exact r.take _) (by rw [List.length_take]; omega), q2⟩
end L2.PKR
namespace PKE
open PySem L2
/-! == and != of data of any depth that there is room for -/
section
variable {X : Cx}
def rEqN (K : PySem.W.Frag) (n : Nat) : R2 := fun x y H Q => ∃ d e, Dp K H x d ∧ Dp K H y e ∧ d.canLay0 = true ∧ e.canLay0 = true ∧ (d.depth ≤ n ∨ e.depth ≤ n) ∧ Q (.bl (PyData.eqv d e)) H
theorem op_eqN {n : Nat} (hu : X.A.units + n < cLine) : OpR X (compareOp .Eq) (rEqN X.K n) := by
  intro pins s σ H x y v u Q I rx ry h
  obtain ⟨d, e, hd, he, sd, se, hn, q⟩ := h
  obtain ⟨as, r1⟩ := Dp.reads I d x v hd rx
  obtain ⟨bs, r2⟩ := Dp.reads I e y u he ry
  refine SeqAt.compareEq_reads r1 r2 sd se ?_ ⟨.bl _, H, I, rfl, q⟩
  rcases hn with h | h
  · exact Nat.lt_of_le_of_lt (Nat.add_le_add_left (Nat.le_trans (Nat.min_le_left _ _) h) _) hu
  · exact Nat.lt_of_le_of_lt (Nat.add_le_add_left (Nat.le_trans (Nat.min_le_right _ _) h) _) hu
end
end PKE
/-! sorted(set(xs)), xs a list of texts -/
namespace PKT
open PySem PySem.Spec PyProof.Rows L2 PySem.Froz
/-- the set at a: its texts l, in some order; it can be walked -/
structure TS (P : Program) (w : World) (h : Heap) (a : Addr) (l : List Str) : Prop where
  ex : ∃ D : SD, h.get? a = some (sObj "set" D) ∧ TxOk P w D l ∧ Ris D.2.2.place.toList ∧ (w.params.followText "set-order" = true ∨ D.2.2.led = true)
  nd : l.Nodup
theorem TS.at {P : Program} {w : World} {h h' : Heap} {a : Addr} {l : List Str} (R : TS P w h a l) (k : ∀ o, h.get? a = some o → h'.get? a = some o) : TS P w h' a l := by
  obtain ⟨⟨D, e, r⟩, nd⟩ := R
  exact ⟨⟨D, k _ e, r⟩, nd⟩
theorem TS.new {P : Program} {w : World} {h : Heap} {a : Addr} (e : h.get? a = some { cls := .type "set", dict := none, data := .set #[] 0 (.fresh 0 0 (!w.params.followText "set-order")) }) : TS P w h a [] := by
  refine ⟨⟨(#[], 0, .fresh 0 0 (!w.params.followText "set-order")), e, TxOk.nil rfl, List.Pairwise.nil, ?_⟩, List.nodup_nil⟩
  show _ ∨ (!w.params.followText "set-order") = true
  cases w.params.followText "set-order" with
  | false => exact .inr rfl
  | true => exact .inl rfl
theorem tail_ris {ep : Nat} {es : Array (Int × Value)} {t : SetTable} {d : Bool} (r : Ris t.place.toList) : Ris (tailTx ep es t d).2.2.place.toList := by
  unfold tailTx
  split
  · exact relayAll_ris _ _ _
  · exact r
theorem tail_led {ep : Nat} {es : Array (Int × Value)} {t : SetTable} {d : Bool} : (tailTx ep es t d).2.2.led = t.led := by
  unfold tailTx
  split
  · exact relayAll_led _ _ _
  · rfl
theorem addTx_ris {h : Int} {v : Value} {D : SD} (r : Ris D.2.2.place.toList) : Ris (addTx h v D).2.2.place.toList := by
  have r1 := layNew_ris D.2.2 D.1 h v r
  unfold addTx
  refine tail_ris ?_
  split <;> exact r1
theorem addTx_led {h : Int} {v : Value} {D : SD} : (addTx h v D).2.2.led = D.2.2.led := by
  have r1 := layNew_led D.2.2 D.1 h v
  unfold addTx
  rw [tail_led]
  split <;> exact r1
section
variable {P : Program} {w : World} {A : Around} {E : Value → Shared → Prop} {s : Shared} {a : Addr} {l : List Str}
/-- a text is put in -/
theorem add_hashed {k : Str} {tk : Tok} {Q : Bool → Shared → Prop} (R : TS P w s.heap a l) (room : l.length + 1 < scanBound)
    (hQ : ∀ b h', Heap.SameBut a s.heap h' → TS P w h' a (if k ∈ l then l else k :: l) → Q b { s with heap := h' }) : wpAny (model P w) A (setAddHashed a (.str k tk) (hashStr w k)) Q E s := by
  obtain ⟨⟨D, eo, tx, ri, le⟩, nd⟩ := R
  by_cases hk : k ∈ l
  · have q := hQ false s.heap (Heap.SameBut.refl a s.heap) (by rw [if_pos hk]; exact ⟨⟨D, eo, tx, ri, le⟩, nd⟩)
    obtain ⟨es, ep, t⟩ := D
    have bd : es.size < scanBound := by have e : es.size = l.length := tx.sz; omega
    obtain ⟨e0, me, pe⟩ := (tx.mem k).mp hk
    cases fi : List.findIdx? (fun e => (strKind P w).is k e.2) es.toList with
    | none => have c := List.findIdx?_eq_none_iff.mp fi e0 me; rw [pe] at c; cases c
    | some j =>
      unfold setAddHashed setAddHashedIn
      refine wpAny_holding (wpAny_bind (wpAny_setState_of eo (es := es) (ep := ep) (t := t) rfl tx.fit ?_)); dsimp only
      rw [byScan_of (knd := strKind P w) rfl bd tx.el]; simp only [↓reduceIte]
      unfold setAddByScan
      refine wpAny_bind (wpAny_bind (wpAny_rule (wpAny_bind (wpAny_setScan_of (knd := strKind P w) (k := k) (is_str k tk) eo (es := es) (ep := ep) (t := t) rfl tx.fit tx.el ?_)))); rw [fi]
      exact wpAny_pure (wpAny_pure q)
  · refine add_x (l := l) (D := D) (u := tk) eo tx hk room (hQ true _ (Heap.SameBut.update s.heap a _) ?_)
    rw [if_neg hk]
    exact ⟨⟨_, get_upd _ eo rfl, add_ok tk tx, addTx_ris ri, le.imp id fun z => by rw [addTx_led]; exact z⟩, List.nodup_cons.mpr ⟨hk, nd⟩⟩
end
theorem strs_get : ∀ {vs : List Value} {xs : List Str} {i : Nat} {v : Value}, StrsAre vs xs → vs[i]? = some v → ∃ k t, xs[i]? = some k ∧ v = .str k t
  | _, _, _, _, .nil, e => by simp at e
  | _, _, 0, _, .cons n t _, e => by simp at e; exact ⟨n, t, rfl, e.symm⟩
  | _, _, i + 1, _, .cons n t r, e => by
    obtain ⟨k, t', h1, h2⟩ := strs_get (i := i) r (by simpa using e)
    exact ⟨k, t', by simpa using h1, h2⟩
/-- what was met of the first i texts -/
def Met (xs : List Str) (i : Nat) (l : List Str) : Prop := l.length ≤ i ∧ ∀ x, x ∈ l ↔ x ∈ xs.take i
theorem Met.zero (xs : List Str) : Met xs 0 [] := ⟨Nat.le_refl _, fun x => by simp⟩
theorem Met.next {xs : List Str} {i : Nat} {l : List Str} {k : Str} (m : Met xs i l) (hk : xs[i]? = some k) : Met xs (i + 1) (if k ∈ l then l else k :: l) := by
  refine ⟨?_, fun x => ?_⟩
  · split
    · exact Nat.le_succ_of_le m.1
    · exact Nat.succ_le_succ m.1
  · rw [List.take_add_one, hk]
    show _ ↔ x ∈ xs.take i ++ [k]
    rw [List.mem_append, List.mem_singleton, ← m.2 x]
    by_cases q : k ∈ l
    · rw [if_pos q]
      exact ⟨.inl, fun z => z.elim id fun e => e ▸ q⟩
    · rw [if_neg q, List.mem_cons]
      exact Or.comm
section
variable {P : Program} {w : World} {A : Around} {I : Addr} {fp wr : List Addr} {G : Array GenState → Array GenState → Prop} {n : Nat} {Pv : Nat → Value → Prop} {St : Nat → Shared → Prop} {R : Result → Shared → Prop}
theorem update_txts (W : WalksS P w A.in1 I fp wr G n Pv St) (S : Addr) (hS : S ∉ fp) (xs : List Str) (hn : n = xs.length) (few : xs.length + 1 < scanBound) (hval : ∀ i v, Pv i v → ∃ k t, xs[i]? = some k ∧ v = .str k t) :
    ∀ (k i : Nat) (s : Shared) (l : List Str), n - i = k → i ≤ n → St i s → TS P w s.heap S l → Met xs i l → (∀ s' l', Moved (S :: wr) G s s' → TS P w s'.heap S l' → Met xs n l' → R (.ok (.ret .none)) s') →
      codeAny (model P w) A (.builtin "set.update.loop" ⟨[.ref S, .ref I], []⟩) R s := by
  have hw : S ∉ wr := fun z => hS (W.sub _ z)
  have sub : ∀ b ∈ wr, b ∈ S :: wr := fun b z => List.mem_cons_of_mem _ z
  intro k
  induction k with
  | zero =>
    intro i s l hk hi st R0 m hR
    obtain rfl : i = n := by omega
    refine codeAny_builtin F.entry_set_update_loop ?_; rw [Around.under_plainId F.plain_set_update_loop _]
    show wpAny _ A.in1 (pyNext (.ref I) >>= _) _ _ s
    refine wpAny_bind (W.done s _ _ st fun s' hm => ?_); show wpAny _ A.in1 (ret Value.none) _ _ s'
    exact wpAny_pure (hR s' l (hm.mono sub) (R0.at fun o e => hm.heap S o hw e) m)
  | succ k ih =>
    intro i s l hk hi st R0 m hR
    have lt : i < n := by omega
    refine codeAny_builtin F.entry_set_update_loop ?_; rw [Around.under_plainId F.plain_set_update_loop _]
    show wpAny _ A.in1 (pyNext (.ref I) >>= _) _ _ s
    refine wpAny_bind (W.item i s _ _ lt st fun v s' hP st' hm => ?_)
    obtain ⟨x, t, hx, rfl⟩ := hval i v hP
    show wpAny _ A.in1 (holding [Value.str x t] (setAdd S (.str x t)) >>= _) _ _ s'
    refine wpAny_bind (wpAny_holding ?_); unfold setAdd; refine wpAny_holding ?_
    refine wpAny_bind ((strKind P w).pyHash (k := x) (is_str x t) ?_)
    have R1 : TS P w s'.heap S l := R0.at fun o e => hm.heap S o hw e
    refine add_hashed (s := { s' with toks := s'.toks + 1 }) R1 (by have := m.1; omega) fun b h' sb R2 => ?_
    refine wpAny_pure ⟨plainId_quiet F.plain_set_update_loop _, ih (i + 1) _ _ (by omega) lt (W.frame _ s' _ _ st' (Nat.le_add_right _ _) fun c hc o e => ?_) R2 (m.next hx) fun s2 l2 hm2 R3 m2 => hR s2 l2 (Moved.trans W.gtrans ((hm.mono sub).then_heap (Nat.le_add_right _ _) fun c o hc e => ?_) hm2) R3 m2⟩
    · rw [sb.2 c (fun z : c = S => hS (z ▸ hc))]; exact e
    · rw [sb.2 c (fun z : c = S => hc (z ▸ List.mem_cons_self))]; exact e
end
abbrev setObj0 (w : World) : Obj := { cls := .type "set", dict := none, data := .set #[] 0 (.fresh 0 0 (!w.params.followText "set-order")) }
section
variable {P : Program} {w : World} {A : Around} {E : Value → Shared → Prop} {s : Shared}
set_option maxHeartbeats 3200000 in
/-- set(xs), xs a list of texts -/
theorem set_txts {b : Addr} {its : Array Value} (xs : List Str) {Q : Value → Shared → Prop} (hh : A.handled = none) (hl : s.heap.IsList b its) (hit : StrsAre its.toList xs) (few : xs.length + 1 < scanBound)
    (h : ∀ (h' : Heap) (tk : Nat) (l : List Str), TS P w h' s.heap.objs.size l → Met xs xs.length l → (∀ c o, s.heap.get? c = some o → h'.get? c = some o) → Q (.ref s.heap.objs.size) { s with heap := h', toks := tk }) :
    wpAny (model P w) A (call (.type "set") [.ref b]) Q E s := by
  have hn : its.size = xs.length := by have q := StrsAre.length hit; rw [Array.length_toList] at q; exact q
  have f0 := F.called_set.mro; have f1 := F.called_set.made; have f2 := F.called_set.sub; have f3 := F.called_set.notType; have f4 := F.called_set.canCreate; have f5 := F.typeCall_set_1 (.ref b)
  obtain ⟨c, tl, f0⟩ := f0
  refine wpAny_call (codeAny_of_tree ?_); show wpAny _ _ (callAny (.type "set") _) _ _ _
  refine wpAny_pure ⟨Code.quiet_builtin _ (by decide +kernel), codeAny_builtin F.entry_type_call ?_⟩; rw [Around.under_plain (weight_type_call_type "set" [.ref b] []) rfl]
  repeat (any_goals (first | assumption | wp_step))
  refine codeAny_mono (code_set_led1 (.ref b) (E := E) (Q₁ := fun obj z => obj = .ref s.heap.objs.size ∧ z = { s with heap := s.heap.push (setObj0 w) }) ⟨rfl, rfl⟩) fun r z hr => ?_
  cases r with
  | error _ => exact hr
  | ok fl =>
    cases fl with
    | ret obj =>
      obtain ⟨rfl, rfl⟩ := hr
      have e0 : (s.heap.push (setObj0 w)).get? s.heap.objs.size = some (setObj0 w) := Heap.get?_push_size _ rfl
      have ty : Shared.TypeIs { s with heap := s.heap.push (setObj0 w) } (.ref s.heap.objs.size) "set" := ⟨_, e0, rfl⟩
      have i1 := F.called_set.init.lookup; have i2 := F.called_set.init.bind (.ref s.heap.objs.size)
      repeat (any_goals (first | assumption | wp_step))
      refine codeAny_mono (codeAny_call_builtin (R := wants (fun r z => r = .none ∧ ∃ h' tk l, z = { s with heap := h', toks := tk } ∧ TS P w h' s.heap.objs.size l ∧ Met xs xs.length l ∧ (∀ c o, s.heap.get? c = some o → h'.get? c = some o)) E) F.called_set.init.plain F.entry_set_init (check_set_init_1 ty ?_)) fun r2 z2 hr2 => ?_
      · have hbS : b < s.heap.objs.size := let ⟨o, ho, _⟩ := hl; Heap.lt_size ho
        have hl1 : (s.heap.push (setObj0 w)).IsList b its := hl.push _
        obtain ⟨ol, hol, hcl, nl, hdl⟩ := hl
        obtain ⟨ocls, odict, odata, oslots⟩ := ol
        simp only at hcl hdl
        subst hcl; subst hdl
        have g1 : (s.heap.push (setObj0 w)).get? b = some { cls := .type "list", dict := odict, data := .seq its nl, slots := oslots } := Heap.get?_push_of_some _ hol
        have g2 := F.sub_list_set; have g3 := F.sub_list_frozenset; have g4 : (Value.type "list" == Value.type "dict") = false := by decide
        unfold Builtin.«set.__init__» noKeywords Builtin.Frozenset.updateFrom
        generalize hPI : pyIter = PI
        wp_walk
        subst hPI
        refine wpAny_pyIter_list hl1 (wpAny_bind (wpAny_runValue ?_))
        have hI : b ≠ (s.heap.push (setObj0 w)).objs.size := by rw [Heap.size_push]; exact Nat.ne_of_lt (Nat.lt_succ_of_lt hbS)
        have hS : s.heap.objs.size ∉ [(s.heap.push (setObj0 w)).objs.size, b] := by
          rw [Heap.size_push]; simp only [List.mem_cons, List.not_mem_nil, or_false, not_or]
          exact ⟨Nat.ne_of_lt (Nat.lt_succ_self _), Nat.ne_of_gt hbS⟩
        have val : ∀ (i : Nat) (v : Value), its[i]? = some v → ∃ k t, xs[i]? = some k ∧ v = .str k t := fun i v hv => by
          have q : its.toList[i]? = some v := by rw [Array.getElem?_toList]; exact hv
          exact strs_get hit q
        refine update_txts ((Walks.list (by simp [hh]) _ b hI its).toS) s.heap.objs.size hS xs hn few val (its.size - 0) 0 _ [] (by omega) (Nat.zero_le _) ⟨⟨_, Heap.get?_push_size _ rfl, rfl, rfl⟩, (hl1.push _)⟩ (TS.new (Heap.get?_push_of_some _ e0)) (Met.zero xs) fun s' l hm R1 m => ?_
        obtain ⟨h', gs, d', tk', os'⟩ := s'
        obtain rfl : gs = s.gens := hm.gens
        obtain rfl : d' = s.drawn := hm.drawn
        obtain rfl : os' = s.os := hm.os
        refine wpAny_pure ?_; show wpAny _ _ (ret Value.none) _ _ _
        rw [hn] at m
        refine wpAny_pure ⟨rfl, h', tk', l, rfl, R1, m, fun c o e => hm.heap c o (fun z => ?_) (Heap.get?_push_of_some _ (Heap.get?_push_of_some _ e))⟩
        have lt := Heap.lt_size e
        rcases List.mem_cons.mp z with z | z
        · exact absurd lt (by rw [z]; exact Nat.lt_irrefl _)
        · rw [List.mem_singleton.mp z, Heap.size_push] at lt
          exact absurd (Nat.lt_of_succ_lt lt) (Nat.lt_irrefl _)
      · cases r2 with
        | error _ => exact hr2
        | ok fl2 =>
          cases fl2 with
          | ret r =>
            obtain ⟨rfl, h', tk, l, rfl, R1, m, k⟩ := hr2
            repeat (any_goals (first | assumption | wp_step))
            exact h _ _ _ R1 m k
          | _ => exact hr2.elim
    | _ => exact hr.elim
end
end PKT
namespace PKT
open PySem PySem.Spec PyProof.Rows L2 PySem.Froz
theorem strs_of : ∀ {vs : List Value}, (∀ v ∈ vs, ∃ k t, v = Value.str k t) → ∃ xs, StrsAre vs xs
  | [], _ => ⟨[], .nil⟩
  | v :: r, h => by
    obtain ⟨k, t, rfl⟩ := h v List.mem_cons_self
    obtain ⟨xs, q⟩ := strs_of (vs := r) fun u hu => h u (List.mem_cons_of_mem _ hu)
    exact ⟨_, .cons k t q⟩
theorem perm_sub : ∀ {l ys : List Str}, l.Nodup → (∀ x ∈ l, x ∈ ys) → ys.length = l.length → ys.Perm l
  | [], ys, _, _, e => by rw [List.length_eq_zero_iff.mp e]
  | x :: r, ys, nd, h, e => by
    obtain ⟨n1, n2⟩ := List.nodup_cons.mp nd
    have hx := h x List.mem_cons_self
    refine (List.perm_cons_erase hx).trans ((perm_sub (ys := ys.erase x) n2 (fun y hy => ?_) ?_).cons x)
    · have ne : y ≠ x := fun z => n1 (z ▸ hy)
      exact (List.mem_erase_of_ne ne).mpr (h y (List.mem_cons_of_mem _ hy))
    · rw [List.length_erase_of_mem hx, e]; rfl
/-- the texts of a payload are the set's -/
theorem TxOk.perm_of {P : Program} {w : World} {D : SD} {l ys : List Str} {vs : List Value} (F : TxOk P w D l) (nd : l.Nodup) (pm : vs.Perm (D.1.toList.map (·.2))) (hs : StrsAre vs ys) : ys.Perm l := by
  have len : ys.length = l.length := by rw [← F.sz, ← StrsAre.length hs, pm.length_eq, List.length_map, Array.length_toList]
  have sub : ∀ x ∈ l, x ∈ ys := fun x hx => by
    obtain ⟨e, me, pe⟩ := (F.mem x).mp hx
    have mv : e.2 ∈ vs := pm.mem_iff.mpr (List.mem_map.mpr ⟨e, me, rfl⟩)
    obtain ⟨i, hi⟩ := List.getElem?_of_mem mv
    obtain ⟨k, t, hk, ev⟩ := strs_get hs hi
    rw [ev] at pe
    have : x = k := (strKind P w).inj (.str k t) x k pe (is_str k t)
    rw [this]
    exact List.mem_of_getElem? hk
  exact perm_sub nd sub len
section
variable {P : Program} {w : World} {A : Around} {E : Value → Shared → Prop} {s : Shared} {a : Addr} {l : List Str}
set_option maxHeartbeats 3200000 in
theorem sorted_txts {Q : Value → Shared → Prop} (R : TS P w s.heap a l) (hh : A.handled = none) (few : l.length < 64)
    (hQ : ∀ s' p (out : Array Value) (c : Nat) (ys : List Str), (∀ b o, s.heap.get? b = some o → s'.heap.get? b = some o) → s'.gens = s.gens → s'.os = s.os → s.heap.objs.size ≤ p → s'.heap.get? p = some (seqObj "list" out c) → StrsAre out.toList ys → ys.Perm l → sortedS ys = true → Q (.ref p) s') :
    wpAny (model P w) A (call (.builtin "sorted") [.ref a]) Q E s := by
  obtain ⟨⟨D, eo, tx, ri, le⟩, nd⟩ := R
  refine Calls.call_function_entry kind_sorted plain_sorted entry_sorted (args_sorted1 _) ?_
  unfold Builtin.«sorted»; refine wpAny_bind (m := checkCount "sorted" 1 1 _) (wpAny_pure ?_)
  have sz : D.1.size < scanBound := by have := tx.sz; unfold scanBound; omega
  refine wpAny_bind (collect_set (A := A.in1) hh ⟨_, eo, rfl, rfl⟩ tx.fit sz ri le fun s1 vs k1 hz g1 o1 pm => ?_)
  have hv : vs.length = l.length := by rw [pm.length_eq, List.length_map, Array.length_toList]; exact tx.sz
  obtain ⟨ys, hs⟩ := strs_of (vs := vs) fun v hv => by
    obtain ⟨e, me, q⟩ := List.mem_map.mp (pm.mem_iff.mp hv)
    obtain ⟨⟨k, hk, _⟩, _⟩ := tx.el e me
    obtain ⟨t, q2⟩ := Value.isStrOf_shape (x := k) (v := e.2) hk
    exact ⟨k, t, by rw [← q, q2]⟩
  have py : ys.Perm l := TxOk.perm_of tx nd pm hs
  refine wpAny_bind (wpAny_newList ?_ (by rw [hv, sizeLine_eq]; omega))
  have e2 : (s1.heap.push (seqObj "list" vs.toArray 0)).get? s1.heap.objs.size = some (seqObj "list" vs.toArray 0) := Heap.get?_push_size _ rfl
  refine wpAny_bind (wpAny_holding (wpAny_call_entry slot_list_sort ⟨_, e2, rfl⟩ entry_list_sort (list_sort_treeK strKind_oneLt e2 hs.keysOf (fun _ _ _ e => keyKind_strs (by rw [← e]; exact hs)) (by rw [hv]; exact few) fun st hp hso => ⟨_, rfl, ?_⟩) (args_list_sort _)))
  obtain ⟨zs, z1, z2, z3⟩ := sorted_out_str hs hp hso
  obtain ⟨c, hc⟩ := sortedHeap_at (vs := vs) (out := (arrOf st).map (·.2)) e2
  refine wpAny_pure ⟨_, rfl, hQ _ s1.heap.objs.size _ c zs (fun b o e => ?_) g1 o1 hz hc z1 (z2.trans py) z3⟩
  have q := k1 b o e
  have lt := Heap.lt_size q
  exact (sortedHeap_old (Nat.ne_of_lt lt) (by rw [Heap.size_push]; exact Nat.lt_succ_of_lt lt)).trans (Heap.get?_push_of_some _ q)
end
end PKT
namespace PKT
open PySem PySem.Spec PyProof.Rows L2 PySem.Froz
/-- a set of texts -/
def SetX (P : Program) (w : World) (a : Addr) (l : List Str) : HO := .ext fun h => TS P w h a l
theorem setX_ok {P : Program} {w : World} {H : Hp} {h : Heap} {a : Addr} {l : List Str} (R : TS P w h a l) : ObjOk P w H h a (SetX P w a l) := by
  obtain ⟨⟨D, e, r⟩, nd⟩ := R
  exact ⟨⟨⟨D, e, r⟩, nd⟩, ⟨_, e⟩, fun h1 h2 R1 k => R1.at k⟩
def rSetS (K : PySem.W.Frag) (P : Program) (w : World) : List V → Hp → VK → Prop := fun vs H Q => ∃ (b : Addr) (xs : List Str), vs = [.ref b] ∧ SqL K H b (xs.map V.str) ∧ xs.length < 64 ∧
  ∀ a l, H a = none → Met xs xs.length l → l.Nodup → Q (.ref a) (upd H a (SetX P w a l))
theorem vals_strs : ∀ {xs : List Str} {vs : List Value}, StrsAre vs xs → Vals (xs.map V.str) vs
  | _, _, .nil => .nil
  | _, _, .cons k t r => .cons ⟨t, rfl⟩ (vals_strs r)
theorem strs_vals : ∀ {xs : List Str} {vs : List Value}, Vals (xs.map V.str) vs → StrsAre vs xs
  | [], _, .nil => .nil
  | x :: r, _, .cons h t => by obtain ⟨k, rfl⟩ := h; exact .cons x k (strs_vals t)
theorem one_ref {b : Addr} {us : List Value} (r : Vals [.ref b] us) : us = [.ref b] := by
  cases r with
  | cons h t => cases t; cases h; rfl
theorem cr_setS {X : Cx} (hc : X.calm = true) : CallR X (.type "set") (rSetS X.K X.prog X.w) := by
  intro pins s σ H vs us Q I r h
  obtain ⟨b, xs, rfl, hl, few, q⟩ := h
  rw [one_ref r]
  obtain ⟨its, rv, pl, _⟩ := I.list hl
  refine set_txts (P := X.prog) (w := X.w) xs (I.ok.hd hc) pl.isList (by simpa using strs_vals rv) (by unfold scanBound; omega) fun h' tk l R m k => ?_
  exact ⟨.ref s.heap.objs.size, _, I.laid (t' := tk) k (Nat.le_refl _) (setX_ok R), rfl, q _ l (I.hok.fresh (Nat.le_refl _)) m R.nd⟩
def rSortX (P : Program) (w : World) : List V → Hp → VK → Prop := fun vs H Q => ∃ (a : Addr) (l : List Str), vs = [.ref a] ∧ H a = some (SetX P w a l) ∧ l.length < 64 ∧
  ∀ zs p, zs.Perm l → sortedS zs = true → H p = none → Q (.ref p) (upd H p (.lst (zs.map V.str)))
theorem cr_sortX {X : Cx} (hc : X.calm = true) : CallR X (.builtin "sorted") (rSortX X.prog X.w) := by
  intro pins s σ H vs us Q I r h
  obtain ⟨a, l, rfl, ha, few, q⟩ := h
  rw [one_ref r]
  have R : TS X.prog X.w s.heap a l := (I.hok a _ ha).1
  refine sorted_txts R (I.ok.hd hc) few fun s' p out c ys k g o hp hg hy pm so => ?_
  have hn : H p = none := I.hok.fresh hp
  have hlen : (ys.map V.str).length ≤ sizeLine := by rw [List.length_map, pm.length_eq, sizeLine_eq]; omega
  have J : Inv X pins σ (upd H p (.lst (ys.map V.str))) { s with heap := s'.heap, gens := s'.gens, drawn := s'.drawn, toks := s'.toks } :=
    I.call (ch := []) (Un.laid k hp hn) (I.hok.laid k hp ⟨hlen, out.toList, c, vals_strs hy, hg⟩) (by rw [g]; exact I.bare) fun _ z => nomatch z
  have e : s' = { s with heap := s'.heap, gens := s'.gens, drawn := s'.drawn, toks := s'.toks } := by
    cases s'; cases s; cases o; rfl
  rw [e]
  exact ⟨.ref p, _, J, rfl, q ys p pm so hn⟩
end PKT
namespace PK
open PySem L2
/-- what len(xs) asks, by its name (within comprehensions) -/
def rLenS (K : PySem.W.Frag) : List V → Hp → VK → Prop := fun xs H Q => ∃ p ys, xs = [V.ref p] ∧ (SqL K H p ys ∨ SqT K H p ys) ∧ Q (.int ys.length) H
theorem call_lenS {X : Cx} : CallR X (.builtin "len") (rLenS X.K) := call_len_seq
end PK
/-! a def with keyword-only defaults that may raise: called with the defaults, or by keyword -/
namespace PKW
open PySem L2
def tCallNS (n m : Nat) (sp : Sp) (E : L2.St → XK) (t tk : TA) : TE := fun σ H Q => t σ H fun vs H1 => tk σ H1 fun zs H2 => vs.length = n ∧ zs.length = m ∧ sp (vs ++ zs) H2 Q (E σ)
/-- the def: n values stand before, m names behind; dvs: the defaults of the names -/
structure CalF (P : Program) (w : World) (K : PySem.W.Frag) (mg : Str → Option Value) (base : Heap) (k : Nat) (x : Str) (sp : Sp) (n : Nat) (ks : List Str) (dvs : List V) : Prop where
  ex : ∃ (f : Addr) (fd : FuncData) (ps : List Str), FnOk P w K mg base (L2.CX P w) k f fd ps sp ∧ mg x = some (.ref f) ∧ PySem.W.keepIn K (.ref f) = true ∧ (∃ ds, Vals dvs ds ∧ Binds K fd ps ds) ∧ ∃ g, KBn K fd ps n ks g (fun vs zs => vs ++ zs)
section
variable {X : Cx} {k j n : Nat} {x : Str} {sp : Sp} {p pos : Pos} {e : Expr} {es : List Expr} {kws : List Keyword} {t tk : TA} {W : WX} {ks : List Str} {dvs : List V}
theorem pe_cfS (c : CalF X.prog X.w X.K X.mg X.base k x sp n ks dvs) (tk : Takes X W) (hr : Room j X.A) (hk : k ≤ j) (hg : Gl X x) (ha : PA X (e :: es) t)
    (hdb : (x == ("__debug__" : Str)) = false := by decide) (he : starEach (e :: es) X.env = (false, eval e X.env) :: starEach es X.env := by rfl) (hpl : (backTo pos (starEach es X.env)).any (·.1) = false := by rfl) :
    PE X (.Call (.Name x p) (e :: es) [] pos) (tCallSD sp dvs (WE W) t) := by
  obtain ⟨f, fd, ps, F, hm, kp, ⟨ds, vd, b⟩, _⟩ := c.ex
  exact pe_callSD F (hr.mono hk) hg hm kp b vd (fun σ => passAt tk σ) ha hdb he hpl
theorem run_fnNS {CX : CXT} {E : L2.St → XK} {f : Addr} {fd : FuncData} {ps : List Str} {pins : List (Addr × Obj)} {σ : L2.St} {H : Hp} {s : Shared} {Q : VK} {us ws : List Value} {vs zs : List V} {g : List Value → List Value → List Value} (F : FnOk X.prog X.w X.K X.mg X.base CX k f fd ps sp) (hr : Room k X.A) (hb : KBn X.K fd ps n ks g (fun vs zs => vs ++ zs)) (hx : PassesAt CX X σ (E σ))
    (I : Inv X pins σ H s) (r : Vals vs us) (rz : Vals zs ws) (l1 : vs.length = n) (l2 : zs.length = ks.length) (h : sp (vs ++ zs) H Q (E σ)) : wpAny (model X.prog X.w) X.A (call (.ref f) us (ks.zip ws)) (EP X pins σ Q) X.xe s := by
  have r2 := hb.rel r rz
  refine wpAny_call (codeAny_mono (F.run X.A X.stack s H ⟨us, ks.zip ws⟩ (g us ws) (vs ++ zs) Q (E σ) hr I.env0 (hb.to s us ws I.kIn (r.length.symm.trans l1) (rz.length.symm.trans l2)) r2 h) fun r s' hq => ?_)
  cases r with
  | error e => exact hx pins H s e s' I hq
  | ok fl =>
    cases fl with
    | ret u => exact I.after hq
    | next => exact False.elim hq
    | brk => exact False.elim hq
    | cont => exact False.elim hq
theorem pe_ckS (c : CalF X.prog X.w X.K X.mg X.base k x sp n ks dvs) (tw : Takes X W) (hr : Room j X.A) (hk : k ≤ j) (hg : Gl X x)
    (ha : PA X (e :: es) t) (hkw : PK X kws tk) (hall : (backToKw pos (keywordEach kws X.env)).all (·.1.isSome) = true := by rfl) (hks : (backToKw pos (keywordEach kws X.env)).filterMap (·.1) = ks := by rfl)
    (hdb : (x == ("__debug__" : Str)) = false := by decide) (he : starEach (e :: es) X.env = (false, eval e X.env) :: starEach es X.env := by rfl)
    (hpl : ((backTo pos (starEach (e :: es) X.env)).any (·.1) || (backToKw pos (keywordEach kws X.env)).any (·.1.isNone)) = false := by rfl) :
    PE X (.Call (.Name x p) (e :: es) kws pos) (tCallNS n ks.length sp (WE W) t tk) := by
  obtain ⟨f, fd, ps, F, hm, kp, _, g, hb⟩ := c.ex
  refine ⟨fun pins s σ H Q I h => ?_⟩
  refine wpAny_Call_Name_kw (ld_glob I hg hm ?_ hdb)
  refine PySem.W.callWith_KW (h₀ := X.base) I.ok.mod.kin kp hall (thn (ha.run pos pins s σ H _ I h) fun us s1 ⟨vs, H1, I1, r, q⟩ => ?_) hpl he
  refine thn (hkw.run pos pins s1 σ H1 _ I1 q) fun ws s2 ⟨zs, H2, I2, rz, l1, l2, q2⟩ => ⟨I2.kIn, ?_⟩
  rw [hks]
  exact run_fnNS F (hr.mono hk) hb (passAt tw σ) I2 r rz l1 l2 q2
end
end PKW
namespace PKE
open PySem L2
/-! != of data of any depth that there is room for -/
section
variable {X : Cx}
def rNeN (K : PySem.W.Frag) (n : Nat) : R2 := fun x y H Q => ∃ d e, Dp K H x d ∧ Dp K H y e ∧ d.canLay0 = true ∧ e.canLay0 = true ∧ (d.depth ≤ n ∨ e.depth ≤ n) ∧ Q (.bl (!PyData.eqv d e)) H
theorem op_neN {n : Nat} (hu : X.A.units + n < cLine) : OpR X (compareOp .NotEq) (rNeN X.K n) := by
  intro pins s σ H x y v u Q I rx ry h
  obtain ⟨d, e, hd, he, sd, se, hn, q⟩ := h
  obtain ⟨as, r1⟩ := Dp.reads I d x v hd rx
  obtain ⟨bs, r2⟩ := Dp.reads I e y u he ry
  refine SeqAt.compareNe_reads r1 r2 sd se ?_ ⟨.bl _, H, I, rfl, q⟩
  rcases hn with h | h
  · exact Nat.lt_of_le_of_lt (Nat.add_le_add_left (Nat.le_trans (Nat.min_le_left _ _) h) _) hu
  · exact Nat.lt_of_le_of_lt (Nat.add_le_add_left (Nat.le_trans (Nat.min_le_right _ _) h) _) hu
end
end PKE
/-! sorted of a list of texts, any number of them -/
namespace PKS
open PySem L2
section
variable {X : Cx}
def rSortedSA (K : PySem.W.Frag) : List V → Hp → VK → Prop := fun vs H Q => ∃ (a : Addr) (xs : List Str), vs = [V.ref a] ∧ SqL K H a (xs.map V.str) ∧ xs.length ≤ sizeLine ∧
  ∀ (ys : List Str) (p : Addr), ys.Perm xs → PyProof.Rows.sortedS ys = true → H p = none → Q (.ref p) (upd H p (.lst (ys.map V.str)))
theorem cr_sortedSA : CallR X (.builtin "sorted") (rSortedSA X.K) := by
  intro pins s σ H vs us Q I r h
  obtain ⟨a, xs, rfl, hs, h64, q⟩ := h
  obtain ⟨its, rv, hl, _⟩ := I.list hs
  rw [Vals.ref1 r]
  have hlen0 := rv.length
  rw [List.length_map] at hlen0
  refine PyProof.Rows.sorted_strsAny hl.isList rv.strs (by rw [← hlen0]; exact h64) fun out ys h1 h2 h3 => ?_
  obtain ⟨ep, he'⟩ := PyProof.Rows.sortedAll_at s.heap its out
  have hlen : (ys.map V.str).length ≤ sizeLine := by rw [List.length_map, h2.length_eq]; exact h64
  exact ⟨.ref _, upd H (s.heap.objs.size + 1) (.lst (ys.map V.str)), I.laid (t' := s.toks) (fun _ _ => PyProof.Rows.sortedAll_old) (Nat.le_succ _) ⟨hlen, out.toList, ep, vals_of_strs h1, he'⟩, rfl, q ys _ h2 h3 (I.hok.fresh (Nat.le_succ _))⟩
end
end PKS
/-! repr of data (lists and tuples of any depth that there is room for), where no repr is under way -/
namespace PKP
open PySem PySem.Spec PyProof.Rows L2
section
variable {X : Cx}
def rRepr (K : PySem.W.Frag) (n : Nat) : List V → Hp → VK → Prop := fun xs H Q => ∃ (a : Addr) (d : PyData), xs = [.ref a] ∧ Dp K H (.ref a) d ∧ d.showable = true ∧ d.hasDict = false ∧ d.depth ≤ n ∧ d.shown.length ≤ sizeLine ∧ Q (.str d.shown) H
theorem call_reprD {n : Nat} (hg : X.A.guards = some []) (hu : X.A.units + (n + 1) < cLine) : CallR X (.builtin "repr") (rRepr X.K n) := by
  intro pins s σ H xs us Q I r h
  obtain ⟨a, d, rfl, hd, hs, hn, hdep, hz, q⟩ := h
  cases r with
  | cons rx rest =>
    cases rest
    obtain ⟨as, rr⟩ := Dp.reads I d _ _ hd rx
    cases rx
    exact repr_of_reads' rr hs (fun z => by rw [hn] at z; cases z) hg (by omega) (fun b o e => e) (fun h' u tk k => ⟨.str d.shown, H, I.kept (t' := tk) k, ⟨_, rfl⟩, q⟩) hz
end
end PKP
/-! repr of (data, dict of data) -/
namespace PKP
open PySem PySem.Spec PyProof.Rows L2
def kD : Key → PyData
  | .inl i => .int i
  | .inr s => .str s
/-- data of tuples alone -/
def tupD : PyData → Bool
  | .list _ => false
  | .dict _ => false
  | .tuple ds => tupAll ds
  | _ => true
where tupAll : List PyData → Bool
  | [] => true
  | d :: r => tupD d && tupAll r
section
variable {X : Cx} {pins : List (Addr × Obj)} {σ : L2.St} {H : Hp} {s : Shared}
mutual
theorem reads0 (I : Inv X pins σ H s) : ∀ (d : PyData) (v : V) (u : Value), tupD d = true → Dp X.K H v d → RelV v u → Reads s.heap u d []
  | .none, _, _, _, h, r => by
    cases h; cases r; exact .none
  | .bool _, _, _, _, h, r => by
    cases h; cases r; exact .bool _
  | .int _, _, _, _, h, r => by
    cases h
    obtain ⟨t, rfl⟩ := r
    exact .int _ t
  | .str _, _, _, _, h, r => by
    cases h
    obtain ⟨t, rfl⟩ := r
    exact .str _ t
  | .list _, _, _, z, _, _ => by unfold tupD at z; cases z
  | .dict _, _, _, z, _, _ => by unfold tupD at z; cases z
  | .tuple ds, _, _, z, h, r => by
    cases h with
    | tup sq da =>
      cases r
      obtain ⟨its, rv, ⟨o, e1, e2, n, e3⟩, _⟩ := I.tuple sq
      unfold tupD at z
      exact .tuple e1 e2 e3 (reads0All I ds _ its z da rv)
theorem reads0All (I : Inv X pins σ H s) : ∀ (ds : List PyData) (vs : List V) (us : List Value), tupD.tupAll ds = true → DpAll X.K H vs ds → Vals vs us → ReadsAll s.heap us ds []
  | [], _, _, _, h, r => by
    cases h; cases r; exact .nil
  | d :: ds, _, _, z, h, r => by
    cases h with
    | cons h1 h2 =>
      cases r with
      | cons r1 r2 =>
        unfold tupD.tupAll at z
        obtain ⟨z1, z2⟩ := Bool.and_eq_true_iff.mp z
        exact ReadsAll.cons (as := []) (bs := []) (reads0 I d _ _ z1 h1 r1) (reads0All I ds _ _ z2 h2 r2)
end
/-- a dict's rows as data -/
inductive DKv (K : PySem.W.Frag) (H : Hp) : List (Key × V) → List (PyData × PyData) → Prop
  | nil : DKv K H [] []
  | cons {k : Key} {v : V} {d : PyData} {kvs : List (Key × V)} {rows : List (PyData × PyData)} : Dp K H v d → tupD d = true → DKv K H kvs rows → DKv K H ((k, v) :: kvs) ((kD k, d) :: rows)
theorem readsKey {h : Heap} {k : Key} {u : Value} (r : RelV (kV k) u) : Reads h u (kD k) [] := by
  cases k with
  | inl i => obtain ⟨t, rfl⟩ := r; exact .int _ t
  | inr x => obtain ⟨t, rfl⟩ := r; exact .str _ t
theorem readsRows (I : Inv X pins σ H s) : ∀ {kvs : List (Key × V)} {rows : List (PyData × PyData)} {vs : List (Key × Value)} {es : List DictEntry}, DKv X.K H kvs rows → KV kvs vs → Pairs (mixKind X.prog X.w) es vs →
    ReadsAll s.heap (es.map (·.key)) (rows.map (·.1)) [] ∧ ReadsAll s.heap (es.map (·.val)) (rows.map (·.2)) []
  | _, _, _, _, .nil, .nil, p => by
    cases p
    exact ⟨.nil, .nil⟩
  | _, _, _, _, .cons hd z r, .cons q kv, p => by
    cases p with
    | cons p1 p2 p3 =>
      obtain ⟨ih1, ih2⟩ := readsRows I r kv p3
      obtain ⟨q1, q2⟩ := q
      have q1 : _ = _ := q1
      subst q1
      have rk := relV_key (show keyIs _ _ = true from p1)
      rw [List.map_cons, List.map_cons, List.map_cons, List.map_cons, p2]
      exact ⟨ReadsAll.cons (as := []) (bs := []) (readsKey rk) ih1, ReadsAll.cons (as := []) (bs := []) (reads0 I _ _ _ z hd q2) ih2⟩
def rReprD (K : PySem.W.Frag) (n : Nat) : List V → Hp → VK → Prop := fun xs H Q => ∃ (p D : Addr) (v : V) (d : PyData) (kvs : List (Key × V)) (rows : List (PyData × PyData)), xs = [.ref p] ∧ SqT K H p [v, .ref D] ∧ Dp K H v d ∧ tupD d = true ∧ H D = some (.dK kvs) ∧ DKv K H kvs rows ∧
  (PyData.tuple [d, .dict rows]).showable = true ∧ (PyData.tuple [d, .dict rows]).depth ≤ n ∧ (PyData.tuple [d, .dict rows]).shown.length ≤ sizeLine ∧ Q (.str (PyData.tuple [d, .dict rows]).shown) H
/-- repr((data, dict of data)) -/
theorem call_reprTD {n : Nat} (hg : X.A.guards = some []) (hu : X.A.units + (n + 1) < cLine) : CallR X (.builtin "repr") (rReprD X.K n) := by
  intro pins s σ H xs us Q I r h
  obtain ⟨p, D, v, d, kvs, rows, rfl, sq, hd, z, hD, hr, hs, hn, hz, q⟩ := h
  cases r with
  | cons rx rest =>
    cases rest
    cases rx
    obtain ⟨its, rv, ⟨o, e1, e2, m, e3⟩, _⟩ := I.tuple sq
    cases rv with
    | cons r1 rv =>
      cases rv with
      | cons r2 rv =>
        cases rv
        cases r2
        obtain ⟨_, ns, vs, kv, o2, es, ep, f1, ⟨f2, _, _⟩, f3, _, f4, _⟩ := I.hok D _ hD
        obtain ⟨k1, k2⟩ := readsRows I hr kv f4
        have rd : Reads s.heap (.ref D) (.dict rows) [D] := Reads.dict (as := []) (bs := []) f1 f2 f3 k1 k2
        have rt : Reads s.heap (.ref p) (.tuple [d, .dict rows]) [D] := .tuple e1 e2 e3 (ReadsAll.cons (as := []) (bs := [D]) (reads0 I d _ _ z hd r1) (ReadsAll.cons (as := [D]) (bs := []) rd .nil))
        exact repr_of_reads' rt hs (fun _ m => by
          rw [List.mem_singleton.mp m] at ns
          simp at ns) hg (by omega) (fun b o e => e) (fun h' u tk k => ⟨.str _, H, I.kept (t' := tk) k, ⟨_, rfl⟩, q⟩) hz
end
end PKP
/-! promises of defs that are called where no repr is under way (repr of data wants to know) -/
namespace FnG
open PySem PySem.Spec PyProof.Rows L2
/-- as FnOk, but only where the guards are known to be none -/
structure FnG (P : Program) (w : World) (K : PySem.W.Frag) (mg : Str → Option Value) (base : Heap) (CX : CXT) (k : Nat) (f : Addr) (fd : FuncData) (ps : List Str) (sp : Sp) : Prop where
  len : ∀ vs H Q E, sp vs H Q E → vs.length = ps.length
  run : ∀ (A : Around), A.guards = some [] → ∀ (outer : List Env) (s : Shared) (H : Hp) (args : Args) (us : List Value) (vs : List V) (Q : VK) (E : XK), Room k A → Env0 P w K mg base A outer s H → BindsTo s fd args (ps.zip us) → Vals vs us → sp vs H Q E →
    codeAny (model P w) A (.call (.ref f) args) (CR CX outer P w H s Q E) s
section
variable {P : Program} {w : World} {K : PySem.W.Frag} {mg : Str → Option Value} {base : Heap} {CX : CXT} {k : Nat} {f : Addr} {fd : FuncData} {N ps : List Str} {sp : Sp}
theorem of_ok (F : FnOk P w K mg base CX k f fd ps sp) : FnG P w K mg base CX k f fd ps sp := ⟨F.len, fun A _ => F.run A⟩
/-- a def by its body, the guards known -/
theorem of_body {x qual : Str} {st : Stmt} (F : Fun K x qual st f fd) (S : FnScope N ps (defScope st)) (len : ∀ vs H Q E, sp vs H Q E → vs.length = ps.length)
    (hbody : ∀ (cdv : Value) (A : Around), A.guards = some [] → ∀ (outer : List Env) (s : Shared) (H : Hp) (vs : List V) (Q : VK) (E : XK), Room k (A.deeper (envOfC qual (defScope st) s.heap.objs.size f cdv)) → sp vs H Q E →
      ∃ t, PSs (cxOf CX P w K mg base N qual (defScope st) f cdv A outer s H E) (defBody st) t ∧ t { nx := fun _ H' => Q .non H', rt := Q } (start N vs) H) : FnG P w K mg base CX (k + 1) f fd ps sp := by
  obtain ⟨oc, od, kV, doc, pm, an, cdv, ct, osl, rfl, lk, hcd⟩ := F.ex
  refine ⟨len, fun A gd outer s H args us vs Q E room env bd rel pre => ?_⟩
  have inK : K.In s.heap := env.mod.kin.keeps fun b o z => (env.bs b o z).1
  have noLim : s.heap.NoLimit := env.mod.nolimit.keeps fun b o z => (env.bs b o z).1
  refine codeAny_call_function room.depth (inK _ _ lk) rfl S.co S.gen rfl (PySem.W.codeRec_of inK hcd) (bd _ _ _ _ ?_)
  refine wpAny_newFunctionEnv_cells S.kind (fun y hy => ?_) fun e1 he s1 x1 => ?_
  · have m := S.par y.1 (List.of_mem_zip (show (y.1, y.2) ∈ ps.zip us from hy)).1
    exact m.imp id fun z => ⟨z, PySem.W.cellsFrom_some _ _ _ (.inl z)⟩
  subst he
  refine ⟨noLim.keeps x1.toInCall.keep, codeAny_func ?_⟩
  obtain ⟨t, ht, hq⟩ := hbody cdv A gd outer s H vs Q E (room.deeper _) pre
  have I := inv_start (CX := CX) (P := P) (w := w) (E := E) S room.hd env (len _ _ _ _ pre) rel x1
  refine wpAny_mono (ht.run [] s1 (start N vs) H _ I hq) (fun fl s2 done => ?_) fun _ _ z => z
  cases fl with
  | ret u =>
    obtain ⟨v, σ2, H2, J, rv, q⟩ := done
    exact ⟨v, H2, J.os, J.bare, J.base, J.hok, rv, q⟩
  | next =>
    obtain ⟨σ2, H2, J, q⟩ := done
    exact ⟨V.non, H2, J.os, J.bare, J.base, J.hok, rfl, q⟩
  | brk => exact done.elim fun _ z => z.elim fun _ z => z.2.elim
  | cont => exact done.elim fun _ z => z.elim fun _ z => z.2.elim
end
/-- what stands behind a law that said True: what was stands, nothing was written out -/
def Done (s1 : Shared) (r : Result) (s' : Shared) : Prop := r = .ok (.ret (.bool true)) ∧ OldK s1.heap s'.heap ∧ s'.os = s1.os ∧ AllBare s'.gens
section
variable {P : Program} {w : World} {K : PySem.W.Frag} {mg mb : Str → Option Value} {CX : CXT} {k : Nat} {fa a : Addr} {fd : FuncData} {x : Str} {sp : Sp} {s1 : Shared} {vs : List Value} {ns : List Int}
/-- the call, from a view of the heap that knows the script at most -/
theorem from_view (inK : K.In s1.heap) (gl : s1.heap.Ns mainGlobals mg) (bl : s1.heap.Ns builtinsNs mb) (bb : ∀ y : Str, y ≠ "__name__" → mb y = bootBuiltins y) (nl : s1.heap.NoLimit) (g0 : s1.gens = #[])
    (script : s1.heap.get? a = some { cls := .type "list", data := .seq vs.toArray }) (room : Room k callerA) (F : ∀ base : Heap, K.In base → base.Ns mainGlobals mg → FnG P w K mg base CX k fa fd [x] sp)
    (bd : ∀ (s : Shared) (u : Value), BindsTo s fd ⟨[u], []⟩ [(x, u)]) (noX : ∀ H e s', CX [] H s1 (fun _ _ _ => False) e s' → False)
    (H : Hp) (only : Only H) (ok : HOk P w H s1.heap) (at_ : ∀ b u, H b = some u → b = a) (notK : ∀ u, H a = some u → K.lookup a = none) (pre : sp [.ref a] H (fun v _ => v = .bl true) fun _ _ _ => False) :
    codeAny (model P w) callerA (.call (.ref fa) ⟨[.ref a], []⟩) (Done s1) s1 := by
  -- all but the script is in the base
  have low : ∀ {b : Addr} {o : Obj}, s1.heap.get? b = some o → b ≠ a → (hidT s1.heap H).get? b = some o := fun {b o} e ne => hidT_get e (by
    cases q : H b with
    | none => rfl
    | some u => exact absurd (at_ b u q) ne)
  have names : ∀ {b : Addr} {m : Str → Option Value}, s1.heap.Ns b m → (hidT s1.heap H).Ns b m := fun {b m} ⟨o, es, ep, e, d, r⟩ => ⟨o, es, ep, low e (fun z => by
    subst z
    rw [script] at e
    cases e
    cases d), d, r⟩
  have kIn : K.In (hidT s1.heap H) := fun b o e => by
    cases q : H b with
    | none => exact hidT_get (inK b o e) q
    | some u =>
      have z := at_ b u q
      subst z
      rw [notK u q] at e
      cases e
  have hM : Mod K mg (hidT s1.heap H) := ⟨kIn, names gl, ⟨mb, names bl, bb⟩, by
    obtain ⟨mc, z1, z2⟩ := nl
    exact ⟨mc, names z1, z2⟩⟩
  have none_in : ∀ b : Addr, b ∉ ([] : List Addr) := fun b z => List.not_mem_nil z
  have env : Env0 P w K mg (hidT s1.heap H) callerA [] s1 H := ⟨rfl, hM, fun _ _ => of_hidT, by rw [hidT_size]; exact Nat.le_refl _, trivial, fun b hb => (none_in b hb).elim, ok, .of_eq g0⟩
  have out := (F _ kIn (names gl)).run callerA rfl [] s1 H ⟨[.ref a], []⟩ [.ref a] [.ref a] _ _ room env (bd s1 _) (.cons rfl .nil) pre
  refine codeAny_mono out fun r s' h => ?_
  match r, h with
  | .error e, h => exact (noX H e s' h).elim
  | .ok .next, h => exact h.elim
  | .ok .brk, h => exact h.elim
  | .ok .cont, h => exact h.elim
  | .ok (.ret u), ⟨v, H2, os, bare, un, ok2, rv, q⟩ =>
    obtain rfl : v = .bl true := q
    obtain rfl : u = Value.bool true := rv
    refine ⟨rfl, OldK.of_keep fun b o e => ?_, os, bare⟩
    cases q : H b with
    | none => exact un.keep b o e q (none_in b) (none_in b)
    | some u =>
      rcases only b with z | ⟨ob, xs, z⟩
      · rw [q] at z; cases z
      · have kept := un.frzs b ob _ z
        have was := (ok b _ z).1
        have is := (ok2 b _ kept).1
        rw [e] at was
        cases was
        exact is
/-- the law is called at the top: the script is tracked as a list that is not written to, or it is an object of the module -/
theorem top_call (inK : K.In s1.heap) (gl : s1.heap.Ns mainGlobals mg) (bl : s1.heap.Ns builtinsNs mb) (bb : ∀ y : Str, y ≠ "__name__" → mb y = bootBuiltins y) (nl : s1.heap.NoLimit) (g0 : s1.gens = #[])
    (script : s1.heap.get? a = some { cls := .type "list", data := .seq vs.toArray }) (nums : IntsAre vs ns) (short : ns.length ≤ sizeLine) (room : Room k callerA) (F : ∀ base : Heap, K.In base → base.Ns mainGlobals mg → FnG P w K mg base CX k fa fd [x] sp)
    (bd : ∀ (s : Shared) (u : Value), BindsTo s fd ⟨[u], []⟩ [(x, u)]) (noX : ∀ H e s', CX [] H s1 (fun _ _ _ => False) e s' → False)
    (pre : ∀ H : Hp, SqL K H a (ns.map V.int) → sp [.ref a] H (fun v _ => v = .bl true) fun _ _ _ => False) :
    codeAny (model P w) callerA (.call (.ref fa) ⟨[.ref a], []⟩) (Done s1) s1 := by
  have rel := vals_ints nums
  cases kk : K.lookup a with
  | some o =>
    have same : o = { cls := .type "list", data := .seq vs.toArray } := Option.some.inj ((inK a o kk).symm.trans script)
    subst same
    have sq : SqL K (fun _ => none) a (ns.map V.int) := .inr ⟨_, vs.toArray, _, kk, rfl, rfl, rfl, by rw [List.size_toArray, nums.length]; exact short, by simpa using rel⟩
    exact from_view inK gl bl bb nl g0 script room F bd noX (fun _ => none) (fun _ => .inl rfl) (fun b u z => nomatch z) (fun b u z => nomatch z) (fun u z => nomatch z) (pre _ sq)
  | none =>
    let H0 : Hp := upd (fun _ => none) a (.frz { cls := .type "list", data := .seq vs.toArray } (.lst (ns.map V.int)))
    have here : H0 a = some (.frz { cls := .type "list", data := .seq vs.toArray } (.lst (ns.map V.int))) := upd_same
    have away : ∀ b, b ≠ a → H0 b = none := fun b hb => upd_ne hb
    have only : Only H0 := fun b => by
      by_cases hb : b = a
      · subst hb; exact .inr ⟨_, _, here⟩
      · exact .inl (away b hb)
    have ok : HOk P w H0 s1.heap := fun b u e => by
      by_cases hb : b = a
      · subst hb
        rw [here] at e
        cases e
        exact ⟨script, by rw [List.length_map]; exact short, vs, _, rel, script⟩
      · rw [away b hb] at e; cases e
    exact from_view inK gl bl bb nl g0 script room F bd noX H0 only ok (fun b u e => Decidable.byContradiction fun hb => by rw [away b hb] at e; cases e) (fun _ _ => kk) (pre _ (.inl (.inr ⟨_, here⟩)))
end
/-- the end of a law whose own def wants to know that no repr is under way -/
theorem walk_ofG {l : PySem.W.OpenLaw} {n k : Nat} {q : Program} {loose : List Str} {XP : (Str → Option Value) → Heap → Prop} {YP : World → Heap → Prop} {d : DefRec} {K : Params → PySem.W.Frag} {CX : World → CXT} {sp : World → Sp} {x : Str}
    (hn : l.most = some n) (hn2 : n ≤ sizeLine) (hdf : d.params.defaults = []) (room : Room k callerA) (hY : ∀ (w : World) (h : Heap), YP w h → (K w.params).In h)
    (F : ∀ (w : World) (mg : Str → Option Value) (fa : Addr) (h : Heap), (K w.params).In h → h.Ns mainGlobals mg → mg d.name = some (.ref fa) →
      ∃ fd : FuncData, (∀ (s : Shared) (u : Value), BindsTo s fd ⟨[u], []⟩ [(x, u)]) ∧ ∀ base : Heap, (K w.params).In base → base.Ns mainGlobals mg → FnG l.prog w (K w.params) mg base (CX w) k fa fd [x] (sp w))
    (pre : ∀ (w : World) (H : Hp) (a : Addr) (ns : List Int), ns.length ≤ n → SqL (K w.params) H a (ns.map V.int) → sp w [.ref a] H (fun v _ => v = .bl true) fun _ _ _ => False)
    (noX : ∀ (w : World) (H : Hp) (s : Shared) (e : Value) (s' : Shared), CX w [] H s (fun _ _ _ => False) e s' → False) : PySem.W.WalkO q loose XP YP l.row.toRowW d [] (fun f vs => PySem.call f vs) :=
  Att.attach_call hn hdf fun w s0 s1 mg mb fa o pm cd doc a vs ns G Y _ _ _ named script nums short g0 => by
    obtain ⟨fd, bd, f⟩ := F w mg fa _ (hY w _ Y) G.T.g named
    exact top_call (hY w _ Y) G.T.g G.T.b G.T.builtins G.T.nolimit g0 script nums (Nat.le_trans short hn2) room f bd (fun H e s' => noX w H s1 e s') fun H sq => pre w H a ns short sq
end FnG
/-! What runs leaves every suspended generator alone that it could not have woken: shown by a run where those would come to nothing -/
namespace GenF
open PySem
def noGen (fs : List Frame) : Bool := fs.all fun F => match F with | .ret .. => true | .gen .. => false
def noGenE : End → Prop
  | .ret _ => True
  | .susp _ _ _ _ _ _ fs => noGen fs = true
def NoG : GenState → Prop
  | .suspended _ _ _ _ fs _ => noGen fs = true
  | _ => True
def IsSusp : GenState → Prop
  | .suspended .. => True
  | _ => False
/-- suspended where it was, but with nothing behind it -/
def pz : GenState → GenState
  | .suspended _ l c p fs cl => .suspended (fun _ => .unsupported "") l c p fs cl
  | x => x
abbrev Zs := Nat → Option GenState
def mixA (Z : Zs) (a : Array GenState) : Array GenState := a.mapIdx fun i x => (Z i).getD x
def mix (Z : Zs) (s : Shared) : Shared := { s with gens := mixA Z s.gens }
structure Good (Z : Zs) (a : Array GenState) : Prop where
  held : ∀ i x, Z i = some x → a[i]? = some (pz x) ∧ IsSusp x
  free : ∀ i x, Z i = none → a[i]? = some x → NoG x
theorem mixA_get {Z : Zs} {a : Array GenState} {i : Nat} : (mixA Z a)[i]? = a[i]?.map fun x => (Z i).getD x := by
  unfold mixA; rw [Array.getElem?_mapIdx]
theorem mixA_free {Z : Zs} {a : Array GenState} {i : Nat} (h : Z i = none) : (mixA Z a)[i]? = a[i]? := by
  rw [mixA_get, h]; simp
theorem mixA_held {Z : Zs} {a : Array GenState} {i : Nat} {x : GenState} (g : Good Z a) (h : Z i = some x) : (mixA Z a)[i]? = some x := by
  rw [mixA_get, (g.held i x h).1, h]; rfl
theorem mixA_size {Z : Zs} {a : Array GenState} : (mixA Z a).size = a.size := by unfold mixA; simp
theorem mixA_set {Z : Zs} {a : Array GenState} {g : Nat} {x : GenState} (h : Z g = none) : mixA Z (a.setIfInBounds g x) = (mixA Z a).setIfInBounds g x := by
  apply Array.ext_getElem?
  intro i
  rw [mixA_get, Array.getElem?_setIfInBounds, Array.getElem?_setIfInBounds, mixA_get, mixA_size]
  by_cases e : g = i
  · subst e
    rw [if_pos rfl, if_pos rfl, h]
    split <;> rfl
  · rw [if_neg e, if_neg e]
theorem mixA_push {Z : Zs} {a : Array GenState} {x : GenState} (h : Z a.size = none) : mixA Z (a.push x) = (mixA Z a).push x := by
  apply Array.ext_getElem?
  intro i
  rw [mixA_get, Array.getElem?_push, Array.getElem?_push, mixA_get, mixA_size]
  by_cases e : i = a.size
  · subst e
    rw [if_pos rfl, if_pos rfl]
    simp [h]
  · rw [if_neg e, if_neg e]
theorem Good.none_of {Z : Zs} {a : Array GenState} {i : Nat} {x : GenState} (g : Good Z a) (h : a[i]? = some x) (n : ∀ k l c p fs cl, x ≠ .suspended k l c p fs cl) : Z i = none := by
  cases e : Z i with
  | none => rfl
  | some y =>
    obtain ⟨h1, h2⟩ := g.held i y e
    rw [h] at h1
    cases y with
    | suspended k l c p fs cl => exact absurd (Option.some.inj h1) (n _ _ _ _ _ _)
    | _ => exact h2.elim
theorem Good.none_size {Z : Zs} {a : Array GenState} (g : Good Z a) : Z a.size = none := by
  cases e : Z a.size with
  | none => rfl
  | some y =>
    have h1 := (g.held _ y e).1
    rw [Array.getElem?_eq_none (Nat.le_refl _)] at h1
    cases h1
theorem Good.set {Z : Zs} {a : Array GenState} {i : Nat} {x : GenState} (g : Good Z a) (h : Z i = none) (n : NoG x) : Good Z (a.setIfInBounds i x) := by
  refine ⟨fun j y e => ⟨?_, (g.held j y e).2⟩, fun j y e q => ?_⟩
  · have : i ≠ j := fun q => by rw [q, e] at h; cases h
    rw [Array.getElem?_setIfInBounds, if_neg this]
    exact (g.held j y e).1
  · rw [Array.getElem?_setIfInBounds] at q
    by_cases q' : i = j
    · rw [if_pos q'] at q
      split at q
      · cases q; exact n
      · cases q
    · rw [if_neg q'] at q
      exact g.free j y e q
theorem Good.push {Z : Zs} {a : Array GenState} {x : GenState} (g : Good Z a) (n : NoG x) : Good Z (a.push x) := by
  refine ⟨fun j y e => ⟨?_, (g.held j y e).2⟩, fun j y e q => ?_⟩
  · have h1 := (g.held j y e).1
    rw [Array.getElem?_push, if_neg, h1]
    intro q
    rw [q, Array.getElem?_eq_none (Nat.le_refl _)] at h1
    cases h1
  · rw [Array.getElem?_push] at q
    split at q
    · cases q; exact n
    · exact g.free j y e q
theorem mix_set {Z : Zs} {s : Shared} {g : Nat} {x : GenState} (h : Z g = none) : mix Z (s.setGen g x) = (mix Z s).setGen g x := by
  show ({ s with gens := mixA Z (s.gens.setIfInBounds g x) } : Shared) = { s with gens := (mixA Z s.gens).setIfInBounds g x }
  rw [mixA_set h]
theorem noGen_split {fs : List Frame} (h : noGen fs = true) : splitAtGen fs = none := by
  induction fs with
  | nil => rfl
  | cons F r ih =>
    have h2 : noGen r = true := by
      unfold noGen at h ⊢; rw [List.all_cons, Bool.and_eq_true] at h; exact h.2
    cases F with
    | ret k hh g l c p kp => simp [splitAtGen, ih h2]
    | gen g k l c p => simp [noGen] at h
theorem noGen_cons {F : Frame} {fs : List Frame} (h : noGen (F :: fs) = true) : noGen fs = true := by
  unfold noGen at h ⊢; rw [List.all_cons, Bool.and_eq_true] at h; exact h.2
theorem noGen_app {a b : List Frame} (ha : noGen a = true) (hb : noGen b = true) : noGen (a ++ b) = true := by
  unfold noGen at *; rw [List.all_append, ha, hb]; rfl
theorem noG_end {e : End} (h : noGenE e) : NoG e.genState := by
  cases e with
  | ret r => trivial
  | susp v g l k c p fs => exact h
theorem runs_unsup {M : Model} {m : String} : ∀ {Γ : Ctx} {p : Pos} {t : Sem PySem.Fin} {fs : List Frame} {s s' : Shared} {e : End}, Runs M Γ p t fs s e s' → t = .unsupported m → False := by
  intro Γ p t fs s s' e h
  induction h <;> intro q <;> first | (cases q; done) | (rename_i ih _; exact ih q) | (rename_i ih; exact ih q) | skip
theorem runs_mix {M : Model} {Γ : Ctx} {p : Pos} {t : Sem PySem.Fin} {fs : List Frame} {s s' : Shared} {e : End} (h : Runs M Γ p t fs s e s') :
    ∀ Z : Zs, Good Z s.gens → noGen fs = true → Good Z s'.gens ∧ noGenE e ∧ Runs M Γ p t fs (mix Z s) e (mix Z s') := by
  induction h with
  | done => exact fun Z g n => ⟨g, trivial, .done⟩
  | raise => exact fun Z g n => ⟨g, trivial, .raise⟩
  | again q _ ih => exact fun Z g n => let ⟨a, b, c⟩ := ih Z g n; ⟨a, b, .again q c⟩
  | rule _ ih => exact fun Z g n => let ⟨a, b, c⟩ := ih Z g n; ⟨a, b, .rule c⟩
  | «at» _ ih => exact fun Z g n => let ⟨a, b, c⟩ := ih Z g n; ⟨a, b, .at c⟩
  | load q _ ih => exact fun Z g n => let ⟨a, b, c⟩ := ih Z g n; ⟨a, b, .load q c⟩
  | update q _ ih => exact fun Z g n => let ⟨a, b, c⟩ := ih Z g n; ⟨a, b, .update q c⟩
  | loadIfAlive _ ih => exact fun Z g n => let ⟨a, b, c⟩ := ih Z g n; ⟨a, b, .loadIfAlive c⟩
  | point _ ih => exact fun Z g n => let ⟨a, b, c⟩ := ih Z g n; ⟨a, b, .point c⟩
  | alloc _ ih => exact fun Z g n => let ⟨a, b, c⟩ := ih Z g n; ⟨a, b, .alloc c⟩
  | fresh _ ih => exact fun Z g n => let ⟨a, b, c⟩ := ih Z g n; ⟨a, b, .fresh c⟩
  | ask _ ih => exact fun Z g n => let ⟨a, b, c⟩ := ih Z g n; ⟨a, b, .ask c⟩
  | choose q _ ih => exact fun Z g n => let ⟨a, b, c⟩ := ih Z g n; ⟨a, b, .choose q c⟩
  | os _ ih => exact fun Z g n => let ⟨a, b, c⟩ := ih Z g n; ⟨a, b, .os c⟩
  | handled _ ih => exact fun Z g n => let ⟨a, b, c⟩ := ih Z g n; ⟨a, b, .handled c⟩
  | stack _ ih => exact fun Z g n => let ⟨a, b, c⟩ := ih Z g n; ⟨a, b, .stack c⟩
  | thread _ ih => exact fun Z g n => let ⟨a, b, c⟩ := ih Z g n; ⟨a, b, .thread c⟩
  | «yield» => exact fun Z g n => ⟨g, rfl, .yield⟩
  | @genState g0 st Γ p k s e s' q _ ih =>
    intro Z g n
    obtain ⟨a, b, c⟩ := ih Z g n
    cases ez : Z g0 with
    | none => exact ⟨a, b, .genState ((mixA_free ez).trans q) c⟩
    | some y =>
      have h1 := (g.held g0 y ez)
      rw [q] at h1
      refine ⟨a, b, .genState (st := y) (mixA_held g ez) ?_⟩
      rw [Option.some.inj h1.1] at c
      cases y with
      | suspended k l c p fs cl => exact c
      | _ => exact h1.2.elim
  | @newGen Γ p k s e s' c _ ih =>
    intro Z g n
    obtain ⟨a, b, r⟩ := ih Z (g.push trivial) n
    refine ⟨a, b, .newGen ?_⟩
    have e1 : (mix Z s).gens.size = s.gens.size := mixA_size
    rw [e1]
    have e2 : ({ (mix Z s) with gens := (mix Z s).gens.push (GenState.fresh c) } : Shared) = mix Z { s with gens := s.gens.push (GenState.fresh c) } := by
      show ({ s with gens := (mixA Z s.gens).push _ } : Shared) = { s with gens := mixA Z (s.gens.push _) }
      rw [mixA_push g.none_size]
    rw [e2]; exact r
  | call _ _ ih1 ih2 =>
    intro Z g n
    obtain ⟨a, _, r⟩ := ih1 Z g rfl
    obtain ⟨a2, b2, r2⟩ := ih2 Z a rfl
    exact ⟨a2, b2, .call r r2⟩
  | callSusp _ ih1 =>
    intro Z g n
    obtain ⟨a, b, r⟩ := ih1 Z g rfl
    exact ⟨a, noGen_app b rfl, .callSusp r⟩
  | @resumeFresh Γ p g0 l k s c e₁ s₁ e s' q _ qu _ ih1 ih2 =>
    intro Z g n
    have hz := g.none_of q (by intros; exact fun q => nomatch q)
    obtain ⟨a, b, r⟩ := ih1 Z (g.set hz trivial) rfl
    obtain ⟨a2, b2, r2⟩ := ih2 Z (a.set hz (noG_end b)) rfl
    rw [mix_set hz] at r r2
    exact ⟨a2, b2, .resumeFresh ((mixA_free hz).trans q) r qu r2⟩
  | @resumeSuspended Γ p g0 rr l k s k₀ l₀ c₀ p₀ fs cl e₁ s₁ e s' q r1 qu _ ih1 ih2 =>
    intro Z g n
    cases ez : Z g0 with
    | some y =>
      have h1 := (g.held g0 y ez)
      rw [q] at h1
      cases y with
      | suspended k l c p fs cl =>
        have hh := Option.some.inj h1.1
        cases hh
        exact (runs_unsup r1 rfl).elim
      | _ => exact h1.2.elim
    | none =>
      obtain ⟨a, b, r⟩ := ih1 Z (g.set ez trivial) (g.free g0 _ ez q)
      obtain ⟨a2, b2, r2⟩ := ih2 Z (a.set ez (noG_end b)) rfl
      rw [mix_set ez] at r r2
      exact ⟨a2, b2, .resumeSuspended ((mixA_free ez).trans q) r qu r2⟩
  | resumeJustStarted q v _ ih =>
    intro Z g n
    have hz := g.none_of q (by intros; exact fun q => nomatch q)
    obtain ⟨a, b, r⟩ := ih Z g rfl
    exact ⟨a, b, .resumeJustStarted ((mixA_free hz).trans q) v r⟩
  | resumeThrowFresh q _ ih =>
    intro Z g n
    have hz := g.none_of q (by intros; exact fun q => nomatch q)
    obtain ⟨a, b, r⟩ := ih Z (g.set hz trivial) rfl
    rw [mix_set hz] at r
    exact ⟨a, b, .resumeThrowFresh ((mixA_free hz).trans q) r⟩
  | resumeRunning q _ ih =>
    intro Z g n
    have hz := g.none_of q (by intros; exact fun q => nomatch q)
    obtain ⟨a, b, r⟩ := ih Z g rfl
    exact ⟨a, b, .resumeRunning ((mixA_free hz).trans q) r⟩
  | resumeFinished q _ ih =>
    intro Z g n
    have hz := g.none_of q (by intros; exact fun q => nomatch q)
    obtain ⟨a, b, r⟩ := ih Z g rfl
    exact ⟨a, b, .resumeFinished ((mixA_free hz).trans q) r⟩
  | segRet _ _ ih1 ih2 =>
    intro Z g n
    obtain ⟨a, b, r⟩ := ih1 Z g rfl
    obtain ⟨a2, b2, r2⟩ := ih2 Z a (noGen_cons n)
    exact ⟨a2, b2, .segRet r r2⟩
  | segGen _ _ ih1 ih2 =>
    intro Z g n
    simp [noGen] at n
  | segSuspOut q _ ih1 =>
    intro Z g n
    obtain ⟨a, b, r⟩ := ih1 Z g rfl
    exact ⟨a, noGen_app b n, .segSuspOut q r⟩
  | segSuspGen q _ _ _ ih1 ih2 =>
    intro Z g n
    rw [noGen_split n] at q
    cases q
/-- what a state is with every generator that is suspended in it barred -/
def barred (s : Shared) : Shared := { s with gens := s.gens.map pz }
def zs (s : Shared) : Zs := fun i => match s.gens[i]? with
  | some (.suspended k l c p fs cl) => some (.suspended k l c p fs cl)
  | _ => none
theorem zs_some {s : Shared} {i : Nat} {x : GenState} (h : s.gens[i]? = some x) (k : IsSusp x) : zs s i = some x := by
  unfold zs; rw [h]; cases x with
  | suspended => rfl
  | _ => exact k.elim
theorem zs_inv {s : Shared} {i : Nat} {x : GenState} (h : zs s i = some x) : s.gens[i]? = some x ∧ IsSusp x := by
  unfold zs at h
  cases e : s.gens[i]? with
  | none => rw [e] at h; cases h
  | some y =>
    rw [e] at h
    cases y with
    | suspended => cases h; exact ⟨rfl, trivial⟩
    | _ => cases h
theorem good_barred (s : Shared) : Good (zs s) (barred s).gens := by
  refine ⟨fun i x h => ?_, fun i x h q => ?_⟩
  · obtain ⟨a, b⟩ := zs_inv h
    refine ⟨?_, b⟩
    show (s.gens.map pz)[i]? = _
    rw [Array.getElem?_map, a]; rfl
  · have q' : (s.gens.map pz)[i]? = some x := q
    rw [Array.getElem?_map] at q'
    cases e : s.gens[i]? with
    | none => rw [e] at q'; cases q'
    | some y =>
      rw [e] at q'
      cases q'
      cases y with
      | suspended => rw [zs_some e trivial] at h; cases h
      | _ => trivial
theorem mix_barred (s : Shared) : mix (zs s) (barred s) = s := by
  show ({ s with gens := mixA (zs s) (s.gens.map pz) } : Shared) = s
  have : mixA (zs s) (s.gens.map pz) = s.gens := by
    apply Array.ext_getElem?
    intro i
    rw [mixA_get, Array.getElem?_map]
    cases e : s.gens[i]? with
    | none => rfl
    | some y =>
      cases y with
      | suspended => rw [zs_some e trivial]; rfl
      | fresh => simp [zs, e, pz]
      | running => simp [zs, e, pz]
      | finished => simp [zs, e, pz]
  rw [this]
end GenF
namespace GenF
open PySem
variable {M : Model} {Z : Zs}
theorem wpCode_mix {Γ : Ctx} {R : Result → Shared → Prop} {p : Pos} {s : Shared} (g : Good Z s.gens) (h : wpCode M Γ R p s) :
    wpCode M Γ (fun r s' => ∃ s1, s' = mix Z s1 ∧ Good Z s1.gens ∧ R r s1) p (mix Z s) := by
  obtain ⟨r, s1, h1, h2⟩ := h
  obtain ⟨a, b, c⟩ := runs_mix h1 Z g rfl
  exact ⟨r, mix Z s1, c, s1, rfl, a, h2⟩
theorem wakes_mix {Γ : Ctx} {p : Pos} {g0 : Nat} {r : Resume} {s s' : Shared} {res : GenResult} (g : Good Z s.gens) (h : Wakes M Γ p g0 r s res s') :
    Good Z s'.gens ∧ Wakes M Γ p g0 r (mix Z s) res (mix Z s') := by
  unfold Wakes at h ⊢
  cases q : s.gens[g0]? with
  | none => rw [q] at h; exact h.elim
  | some x =>
    rw [q] at h
    cases x with
    | fresh c =>
      have hz := g.none_of q (by intros; exact fun q => nomatch q)
      rw [show (mix Z s).gens[g0]? = _ from (mixA_free hz).trans q]
      cases r with
      | throw x =>
        obtain ⟨h1, h2⟩ := h
        subst h2
        exact ⟨g.set hz trivial, h1, by rw [mix_set hz]⟩
      | send v =>
        cases v with
        | none =>
          obtain ⟨e1, s1, h1, h2, h3, h4⟩ := h
          obtain ⟨a, b, c⟩ := runs_mix h1 Z (g.set hz trivial) rfl
          rw [mix_set hz] at c
          subst h4
          exact ⟨a.set hz (noG_end b), e1, mix Z s1, c, h2, h3, by rw [mix_set hz]⟩
        | _ =>
          obtain ⟨h1, h2⟩ := h
          subst h2
          exact ⟨g, h1, rfl⟩
    | suspended k l c p0 fs cl =>
      cases ez : Z g0 with
      | some y =>
        obtain ⟨e1, s1, h1, _⟩ := h
        have h2 := (g.held g0 y ez)
        rw [q] at h2
        cases y with
        | suspended k l c p fs cl =>
          have hh := Option.some.inj h2.1
          cases hh
          exact (runs_unsup h1 rfl).elim
        | _ => exact h2.2.elim
      | none =>
        rw [show (mix Z s).gens[g0]? = _ from (mixA_free ez).trans q]
        obtain ⟨e1, s1, h1, h2, h3, h4⟩ := h
        obtain ⟨a, b, c⟩ := runs_mix h1 Z (g.set ez trivial) (g.free g0 _ ez q)
        rw [mix_set ez] at c
        subst h4
        exact ⟨a.set ez (noG_end b), e1, mix Z s1, c, h2, h3, by rw [mix_set ez]⟩
    | running =>
      have hz := g.none_of q (by intros; exact fun q => nomatch q)
      rw [show (mix Z s).gens[g0]? = _ from (mixA_free hz).trans q]
      obtain ⟨h1, h2⟩ := h
      subst h2
      exact ⟨g, h1, rfl⟩
    | finished =>
      have hz := g.none_of q (by intros; exact fun q => nomatch q)
      rw [show (mix Z s).gens[g0]? = _ from (mixA_free hz).trans q]
      obtain ⟨h1, h2⟩ := h
      subst h2
      exact ⟨g, h1, rfl⟩
theorem wp_mix {α : Type} {Γ : Ctx} {Q : α → Pos → Shared → Prop} {E : Value → Pos → Shared → Prop} (t : Sem α) : ∀ {p : Pos} {s : Shared}, Good Z s.gens → Sem.wp M Γ t Q E p s →
    Sem.wp M Γ t (fun a p' s' => ∃ s1, s' = mix Z s1 ∧ Good Z s1.gens ∧ Q a p' s1) (fun e p' s' => ∃ s1, s' = mix Z s1 ∧ Good Z s1.gens ∧ E e p' s1) p (mix Z s) := by
  induction t with
  | pure a => intro p s g h; exact ⟨s, rfl, g, h⟩
  | raise e => intro p s g h; exact ⟨s, rfl, g, h⟩
  | unsupported => intro p s g h; exact h.elim
  | finish => intro p s g h; exact h.elim
  | rule tag k ih => intro p s g h; exact ih () g h
  | «at» p' k ih => intro p s g h; exact ih () g h
  | load a part k ih => intro p s g h; obtain ⟨o, h1, h2⟩ := h; exact ⟨o, h1, ih o g h2⟩
  | update a part f k ih => intro p s g h; obtain ⟨h1, h2⟩ := h; exact ⟨h1, ih () (s := { s with heap := s.heap.update a f }) g h2⟩
  | alloc o k ih => intro p s g h; exact ih _ (s := { s with heap := s.heap.push o }) g h
  | loadIfAlive a k ih => intro p s g h; exact ih _ g h
  | point l k ih => intro p s g h; exact ih () g h
  | register => intro p s g h; exact h.elim
  | fresh k ih => intro p s g h; exact ih _ (s := { s with toks := s.toks + 1 }) g h
  | ask k ih => intro p s g h; exact ih _ g h
  | choose src n k ih => intro p s g h; obtain ⟨h1, h2⟩ := h; exact ⟨h1, ih _ (s := { s with drawn := s.drawn.bump src }) g h2⟩
  | os q l k ih => intro p s g h; exact ih _ (s := { s with os := (Os.step s.os q).fst }) g h
  | call c hh gg l k ih =>
    intro p s g h
    rw [Sem.wp_call] at h ⊢
    obtain ⟨r, s1, h1, h2⟩ := wpCode_mix g h
    obtain ⟨s2, e, g2, h3⟩ := h2
    subst e
    exact ⟨r, _, h1, ih r g2 h3⟩
  | handled own k ih => intro p s g h; exact ih _ g h
  | newGen c k ih =>
    intro p s g h
    have := ih s.gens.size (s := { s with gens := s.gens.push (GenState.fresh c) }) (g.push trivial) h
    show Sem.wp M Γ (k (mix Z s).gens.size) _ _ p { (mix Z s) with gens := (mix Z s).gens.push (GenState.fresh c) }
    have e1 : (mix Z s).gens.size = s.gens.size := mixA_size
    rw [e1]
    have e2 : ({ (mix Z s) with gens := (mix Z s).gens.push (GenState.fresh c) } : Shared) = mix Z { s with gens := s.gens.push (GenState.fresh c) } := by
      show ({ s with gens := (mixA Z s.gens).push _ } : Shared) = { s with gens := mixA Z (s.gens.push _) }
      rw [mixA_push g.none_size]
    rw [e2]; exact this
  | genState g0 k ih =>
    intro p s g h
    obtain ⟨st, q, h2⟩ := h
    have c := ih st.seen g h2
    cases ez : Z g0 with
    | none => exact ⟨st, (mixA_free ez).trans q, c⟩
    | some y =>
      have h1 := (g.held g0 y ez)
      rw [q] at h1
      refine ⟨y, mixA_held g ez, ?_⟩
      rw [Option.some.inj h1.1] at c
      cases y with
      | suspended k l c p fs cl => exact c
      | _ => exact h1.2.elim
  | resume g0 r l k ih =>
    intro p s g h
    rw [Sem.wp_resume] at h ⊢
    obtain ⟨res, s1, h1, h2⟩ := h
    obtain ⟨a, b⟩ := wakes_mix g h1
    exact ⟨res, mix Z s1, b, ih res a h2⟩
  | «yield» => intro p s g h; exact h.elim
  | stack k ih => intro p s g h; exact ih _ g h
  | fork => intro p s g h; exact h.elim
  | thread k ih => intro p s g h; exact ih _ g h
  | await => intro p s g h; exact h.elim
/-- what runs from a state with its suspended generators barred runs from the state, and they are as they were -/
theorem wpAny_kept {α : Type} {A : Around} {t : Sem α} {Q : α → Shared → Prop} {E : Value → Shared → Prop} {s : Shared} (h : wpAny M A t Q E (barred s)) :
    wpAny M A t (fun a s' => ∃ s1, s' = mix (zs s) s1 ∧ Good (zs s) s1.gens ∧ Q a s1) (fun e s' => ∃ s1, s' = mix (zs s) s1 ∧ Good (zs s) s1.gens ∧ E e s1) s := by
  intro Γ p i
  have := wp_mix (Z := zs s) t (good_barred s) (h Γ p i)
  rw [mix_barred] at this
  exact this
theorem bare_pz {x : GenState} (h : x.bare = true) : (pz x).bare = true := by cases x <;> exact h
theorem bare_barred {s : Shared} (h : PyProof.Rows.AllBare s.gens) : PyProof.Rows.AllBare (barred s).gens := by
  intro y hy
  obtain ⟨x, hx, e⟩ := Array.mem_map.mp (show y ∈ s.gens.map pz from hy)
  rw [← e]; exact bare_pz (h x hx)
theorem bare_mix {s s1 : Shared} (h : PyProof.Rows.AllBare s.gens) (h1 : PyProof.Rows.AllBare s1.gens) : PyProof.Rows.AllBare (mix (zs s) s1).gens := by
  intro y hy
  obtain ⟨i, hi⟩ := Array.getElem?_of_mem hy
  rw [show (mix (zs s) s1).gens[i]? = _ from mixA_get] at hi
  cases e : s1.gens[i]? with
  | none => rw [e] at hi; cases hi
  | some x =>
    rw [e] at hi
    cases ez : zs s i with
    | none => rw [ez] at hi; cases hi; exact h1 _ (Array.mem_of_getElem? e)
    | some z => rw [ez] at hi; cases hi; exact h _ (Array.mem_of_getElem? (zs_inv ez).1)
theorem mix_gen {s s1 : Shared} {g : Nat} {x : GenState} (h : s.gens[g]? = some x) (k : IsSusp x) (g1 : Good (zs s) s1.gens) : (mix (zs s) s1).gens[g]? = some x :=
  mixA_held g1 (zs_some h k)
end GenF
/-! a generator that sleeps, as its consumer sees it -/
namespace GenF
open PySem PySem.Spec PyProof.Rows GenW L2
/-- the heap below n -/
def cutH (h : Heap) (n : Nat) : Heap := { h with objs := h.objs.extract 0 n }
theorem cutH_get {h : Heap} {n b : Nat} (hb : b < n) : (cutH h n).get? b = h.get? b := by
  have e : (h.objs.extract 0 n)[b]? = h.objs[b]? := by
    rw [Array.getElem?_extract]
    simp only [Nat.sub_zero, Nat.zero_add]
    by_cases q : b < h.objs.size
    · rw [if_pos (by omega)]
    · rw [if_neg (by omega), Array.getElem?_eq_none (by omega)]
  unfold Heap.get? cutH
  rw [e]
theorem cutH_size {h : Heap} {n : Nat} (hn : n ≤ h.objs.size) : (cutH h n).objs.size = n := by
  show (h.objs.extract 0 n).size = n
  rw [Array.size_extract]; omega
theorem cutH_of {h : Heap} {n b : Nat} {o : Obj} (e : (cutH h n).get? b = some o) : b < n ∧ h.get? b = some o := by
  have lt : b < n := by
    refine Nat.lt_of_lt_of_le (Heap.lt_size e) ?_
    show (h.objs.extract 0 n).size ≤ n
    rw [Array.size_extract]; omega
  exact ⟨lt, by rw [← cutH_get lt]; exact e⟩
/-- what the frame at F owns: itself, and what stands under x -/
def OwnF (x : Str) (h : Heap) (F b : Addr) : Prop := b = F ∨ ∃ m, h.Ns F m ∧ m x = some (.ref b)
theorem OwnF.at {x : Str} {h h' : Heap} {F b : Addr} (k : ∀ o, h.get? F = some o → h'.get? F = some o) (ex : ∃ o, h.get? F = some o) (q : OwnF x h' F b) : OwnF x h F b := by
  rcases q with q | ⟨m, ⟨o, es, ep, ho, r⟩, hm⟩
  · exact .inl q
  · obtain ⟨o', e'⟩ := ex
    have e2 := k o' e'
    rw [ho] at e2
    cases e2
    exact .inr ⟨m, ⟨o, es, ep, e', r⟩, hm⟩
/-- the tuples of H -/
def tupsOf (H : Hp) : Hp := fun b => match H b with
  | some (.tup xs) => some (.tup xs)
  | some (.frz _ (.tup xs)) => some (.tup xs)
  | _ => none
theorem tupsOf_inv {H : Hp} {b : Addr} {u : HO} (e : tupsOf H b = some u) : ∃ xs, u = .tup xs ∧ Rd H b (.tup xs) := by
  unfold tupsOf at e
  cases q : H b with
  | none => rw [q] at e; cases e
  | some v =>
    rw [q] at e
    cases v with
    | tup xs => cases e; exact ⟨xs, rfl, .inl q⟩
    | frz o v =>
      cases v with
      | tup xs => cases e; exact ⟨xs, rfl, .inr ⟨o, q⟩⟩
      | _ => cases e
    | _ => cases e
theorem tupsOf_rd {H : Hp} {b : Addr} {xs : List V} (r : Rd H b (.tup xs)) : tupsOf H b = some (.tup xs) := by
  unfold tupsOf
  rcases r with r | ⟨o, r⟩ <;> rw [r]
theorem tupsOf_none {H : Hp} {b : Addr} (e : H b = none) : tupsOf H b = none := by unfold tupsOf; rw [e]
/-- all tuples of H stand in H' -/
def TK (H H' : Hp) : Prop := ∀ b xs, Rd H b (.tup xs) → Rd H' b (.tup xs)
theorem TK.refl (H : Hp) : TK H H := fun _ _ r => r
theorem TK.trans {H H1 H2 : Hp} (a : TK H H1) (b : TK H1 H2) : TK H H2 := fun c xs r => b c xs (a c xs r)
theorem TK.sq {K : PySem.W.Frag} {H H' : Hp} (t : TK H H') : ∀ a xs, SqT K (tupsOf H) a xs → SqT K H' a xs := fun a xs s => by
  rcases s with (s | ⟨o, s⟩) | s
  · obtain ⟨ys, e, r⟩ := tupsOf_inv s
    cases e
    exact .inl (t a xs r)
  · obtain ⟨ys, e, _⟩ := tupsOf_inv s
    cases e
  · exact .inr s
/-- a generator of the program's own, made by its consumer: what stands fixed -/
structure Gs where
  P : Program
  w : World
  K : PySem.W.Frag
  base : Heap
  A : Around
  stk : List Env
  F : Addr
  a : Addr
  g : Nat
  go : Obj
  x : Str
  H1 : Hp
  n : Nat
  it : Nat → V → Prop
abbrev Gs.M (G : Gs) : Model := model G.P G.w
/-- what its waking asks -/
structure Wk (G : Gs) (own : List (Addr × Obj)) (s : Shared) : Prop where
  bare : AllBare s.gens
  bs : ∀ b o, G.base.get? b = some o → s.heap.get? b = some o
  funs : s.heap.FunFrames G.base G.stk
  own : ∀ p ∈ own, s.heap.get? p.1 = some p.2
  data : ∀ b xs, Rd G.H1 b (.tup xs) → ObjOk G.P G.w G.H1 s.heap b (.tup xs)
/-- what a piece of its run leaves -/
structure Stp (G : Gs) (s s1 : Shared) : Prop where
  os : s1.os = s.os
  bare : AllBare s1.gens
  keep : ∀ b o, s.heap.get? b = some o → ¬ OwnF G.x s.heap G.F b → b ∉ frs G.stk → s1.heap.get? b = some o
  slot : ∀ b o, s.heap.get? b = some o → b ∈ frs G.stk → ∃ sl, s1.heap.get? b = some { o with slots := sl }
  there : ∀ b o, s.heap.get? b = some o → ∃ o', s1.heap.get? b = some o'
structure OwnOk (G : Gs) (s : Shared) (own : List (Addr × Obj)) (s1 : Shared) : Prop where
  at_ : ∀ p ∈ own, s1.heap.get? p.1 = some p.2 ∧ ∀ v, p.2.data ≠ .cell v
  new : ∀ p ∈ own, OwnF G.x s.heap G.F p.1 ∨ s.heap.objs.size ≤ p.1 ∨ p.1 = G.a
  all : ∀ b, OwnF G.x s1.heap G.F b → b ∈ own.map (·.1)
  a : (G.a, G.go) ∈ own
def GYp (G : Gs) : Protocol := fun n s v s1 kap => ∃ x own, n + 1 ≤ G.n ∧ G.it (G.n - (n + 1)) x ∧ RelV x v ∧ Stp G s s1 ∧ OwnOk G s own s1 ∧ ∀ sn, Wk G own sn → kap (.send .none) sn ∧ kap (.send (.bool true)) sn
def GRe (G : Gs) : GenEnd := fun n s r s1 => ((r = .ok (.ret .none) ∨ r = .ok .next) ∧ n = 0 ∧ Stp G s s1) ∨ ∃ e, r = .error e ∧ False
/-- it sleeps; i items are out; fp: its objects -/
def Slp (G : Gs) (i : Nat) (fp : List Addr) (s : Shared) : Prop := ∃ gs own, s.gens[G.g]? = some gs ∧ fp = own.map (·.1) ∧ (G.a, G.go) ∈ own ∧ (∀ p ∈ own, s.heap.get? p.1 = some p.2 ∧ ∀ v, p.2.data ≠ .cell v) ∧ (∀ b, OwnF G.x s.heap G.F b → b ∈ fp) ∧ (i = 0 ∨ IsSusp gs) ∧
  ∀ sn, Wk G own sn → gs.Goes G.M G.A.in1 (GRe G) (GYp G) (G.n - i) (.send .none) sn
theorem Slp.mem {G : Gs} {i : Nat} {fp : List Addr} {s : Shared} (h : Slp G i fp s) : G.a ∈ fp := by
  obtain ⟨gs, own, _, e, m, _⟩ := h
  rw [e]; exact List.mem_map.mpr ⟨_, m, rfl⟩
theorem Slp.memF {G : Gs} {i : Nat} {fp : List Addr} {s : Shared} (h : Slp G i fp s) : G.F ∈ fp := by
  obtain ⟨gs, own, _, e, m, _, q, _⟩ := h
  exact q _ (.inl rfl)
theorem Slp.obj {G : Gs} {i : Nat} {fp : List Addr} {s : Shared} (h : Slp G i fp s) : ∀ b ∈ fp, ∃ o, s.heap.get? b = some o ∧ ∀ v, o.data ≠ .cell v := by
  obtain ⟨gs, own, _, e, m, q, _⟩ := h
  intro b hb
  rw [e] at hb
  obtain ⟨p, hp, rfl⟩ := List.mem_map.mp hb
  exact ⟨p.2, q p hp⟩
/-- what keeps its objects, and it in the table, keeps its sleep -/
theorem Slp.keep {G : Gs} {i : Nat} {fp : List Addr} {s s' : Shared} (h : Slp G i fp s) (k : ∀ b ∈ fp, ∀ o, s.heap.get? b = some o → s'.heap.get? b = some o) (kg : s'.gens = s.gens ∨ (0 < i ∧ ∀ (g : Nat) (x : GenState), s.gens[g]? = some x → IsSusp x → s'.gens[g]? = some x)) : Slp G i fp s' := by
  have hF := h.memF
  obtain ⟨oF, eF, _⟩ := h.obj _ hF
  obtain ⟨gs, own, h1, h2, h3, h4, h5, h6, h7⟩ := h
  refine ⟨gs, own, ?_, h2, h3, fun p hp => ⟨k _ (by rw [h2]; exact List.mem_map.mpr ⟨p, hp, rfl⟩) _ (h4 p hp).1, (h4 p hp).2⟩, fun b hb => h5 b (hb.at (k _ hF) ⟨oF, eF⟩), h6, h7⟩
  rcases kg with kg | ⟨hi, kg⟩
  · rw [kg]; exact h1
  · rcases h6 with h6 | h6
    · omega
    · exact kg _ _ h1 h6
theorem funs_slots {base h h' : Heap} : ∀ {l : List Env}, h.FunFrames base l → (∀ b ∈ frs l, ∀ o, h.get? b = some o → ∃ sl, h'.get? b = some { o with slots := sl }) → h'.FunFrames base l
  | [], _, _ => trivial
  | env :: r, ⟨hk, ⟨L, o, hf, hn, ho, hd⟩, hr⟩, q => by
    have hL : L ∈ frs (env :: r) := by unfold frs; rw [List.filterMap_cons, hf]; exact List.mem_cons_self
    obtain ⟨sl, e⟩ := q L hL o ho
    refine ⟨hk, ⟨L, _, hf, hn, e, hd⟩, funs_slots hr fun b hb => q b ?_⟩
    unfold frs
    rw [List.filterMap_cons, hf]
    exact List.mem_cons_of_mem _ hb
/-- the consumer's context is of this generator's -/
structure GOk (G : Gs) (X : Cx) : Prop where
  eP : X.prog = G.P
  ew : X.w = G.w
  eK : X.K = G.K
  eb : X.base = G.base
  eA : X.A = G.A
  es : X.stack = G.stk
  hd : G.A.handled = none
  room : G.A.depth < recursionLimit
  gen : ∀ h : Heap, h.get? G.a = some G.go → h.IsGen G.a G.g
section
variable {G : Gs} {X : Cx} {pins : List (Addr × Obj)} {σ : L2.St} {H : Hp} {s s1 : Shared} {fp : List Addr} {i : Nat}
theorem wk_of (O : GOk G X) (I : Inv X pins σ H s) (t : TK G.H1 H) {own : List (Addr × Obj)} {gs : GenState} (ho : ∀ p ∈ own, s.heap.get? p.1 = some p.2) (hb : AllBare (s.setGen G.g gs).gens) : Wk G own (s.setGen G.g gs) := by
  refine ⟨hb, fun b o e => I.bk b o (by rw [O.eb]; exact e), ?_, ho, fun b xs r => ?_⟩
  · have := I.stack
    rw [O.eb, O.es] at this
    exact this
  · have := (t b xs r).ok I.hok
    rw [O.eP, O.ew] at this
    exact this
/-- behind a piece of its run -/
theorem inv_stp (O : GOk G X) (I : Inv X pins σ H s) (hf : ∀ b ∈ fp, FpOk X pins H b) (ho : ∀ b, OwnF G.x s.heap G.F b → b ∈ fp) (q : Stp G s s1) {h' : Heap} (k : ∀ b o, s1.heap.get? b = some o → h'.get? b = some o) {gs : GenState} (hg : gs.bare = true) :
    Inv X pins σ H { s1.setGen G.g gs with heap := h' } := by
  refine I.call' (ch := fp) q.os ⟨fun b o e n hb hx => k _ _ (q.keep b o e (fun z => hx (ho b z)) (by rw [← O.es]; exact hb)), fun b o e n hb hx => ?_, fun _ _ _ n _ => n, fun b o e hx => ?_, fun _ _ e => e, fun _ _ _ e => e, fun b ps e => ⟨#[], by rw [e]; simp⟩⟩ (fun b u e => ?_) (allBare_setGen q.bare hg) fun b hb => ?_
  · obtain ⟨sl, e1⟩ := q.slot b o e (by rw [← O.es]; exact hb)
    exact ⟨sl, k _ _ e1⟩
  · obtain ⟨o', e1⟩ := q.there b o e
    exact ⟨o', k _ _ e1⟩
  · refine (I.hok b u e).stay (fun c v hc z => k _ _ ?_) (fun _ z => z) fun _ _ z => z
    have tr : ∃ u, H c = some u := by
      rcases hc with rfl | hc
      · exact ⟨u, e⟩
      · exact ⟨_, hc⟩
    obtain ⟨u', tr⟩ := tr
    refine q.keep c v z (fun y => ?_) fun y => ?_
    · have := (hf c (ho c y)).1
      rw [this] at tr; cases tr
    · have := I.stkFree c (by rw [O.es]; exact y)
      rw [this] at tr; cases tr
  · obtain ⟨_, f1, _, f3, f4, f5⟩ := hf b hb
    exact ⟨f3, f1, f4, f5⟩
theorem next_item {E : Value → Shared → Prop} (O : GOk G X) (I : Inv X pins σ H s) (hf : ∀ b ∈ fp, FpOk X pins H b) (st : Slp G i fp s) (hi : i < G.n) (t : TK G.H1 H) :
    wpAny (model X.prog X.w) X.A (pyNext (.ref G.a)) (fun r s1 => ∃ u x fp', r = some u ∧ Inv X pins σ H s1 ∧ RelV x u ∧ G.it i x ∧ Slp G (i + 1) fp' s1 ∧ ∀ b ∈ fp', FpOk X pins H b) E s := by
  obtain ⟨gs, own, h1, h2, h3, h4, h5, h6, h7⟩ := st
  obtain ⟨m, hm⟩ : ∃ m, G.n - i = m + 1 := ⟨G.n - i - 1, by omega⟩
  rw [hm] at h7
  have hgl : G.g < s.gens.size := (Array.getElem?_eq_some_iff.mp h1).1
  have hA : X.A.handled = none := by rw [O.eA]; exact O.hd
  have hgo := h7 _ (wk_of (gs := .running) O I t (fun p hp => (h4 p hp).1) (allBare_setGen I.bare rfl))
  rw [← O.eA] at hgo
  have hgo' : gs.Goes (model X.prog X.w) X.A.in1 (fun n s₀ r s₁ => ((r = .ok (.ret .none) ∨ r = .ok .next) ∧ (n = 0 ∧ Stp G s₀ s₁)) ∨ ∃ e, r = .error e ∧ False) (GYp G) (m + 1) (.send .none) (s.setGen G.g .running) := by
    rw [O.eP, O.ew]; exact hgo
  refine wpAny_gsz (n := G.g + 1) hgl (next_genG hA I.nolimit (by rw [O.eA]; exact O.room) (O.gen _ (h4 _ h3).1) h1 hgo' (fun v s₁ gs' hbare hY => ?_) (fun s₁ hp h' hk => ?_) fun e s₁ he => he.elim)
  · intro hsz
    obtain ⟨x, own', hn, hx, rv, sp, oo, kap⟩ := hY
    have sp' : Stp G s s₁ := ⟨sp.os, sp.bare, sp.keep, sp.slot, sp.there⟩
    have I1 : Inv X pins σ H (s₁.setGen G.g gs') := inv_stp (h' := s₁.heap) O I hf h5 sp' (fun _ _ e => e) hbare
    have hg1 : G.g < s₁.gens.size := by
      have q : (s₁.setGen G.g gs').gens.size = s₁.gens.size := setGen_size _ _ _
      have hsz' : G.g + 1 ≤ (s₁.setGen G.g gs').gens.size := hsz
      omega
    have hwk := wk_of (own := own') (gs := gs') O I1 t (fun p hp => (oo.at_ p hp).1) (allBare_setGen I1.bare hbare)
    have sus : IsSusp gs' := by
      have q := (kap _ hwk).2
      cases gs' with
      | suspended => trivial
      | fresh c =>
        obtain ⟨q, _⟩ := q
        cases q
      | running => exact q.elim
      | finished => exact q.elim
    have hx' : G.it i x := by
      have e : G.n - (m + 1 - 1 + 1) = i := by omega
      rw [e] at hx; exact hx
    refine ⟨v, x, own'.map (·.1), rfl, I1, rv, hx', ⟨gs', own', setGen_at hg1, rfl, oo.a, oo.at_, fun b hb => oo.all b hb, .inr sus, fun sn hw => ?_⟩, fun b hb => ?_⟩
    · have e : G.n - (i + 1) = m := by omega
      have q := (kap sn hw).1
      rw [e, ← O.eA]
      rw [O.eP, O.ew] at q
      exact q
    · obtain ⟨p, hp, rfl⟩ := List.mem_map.mp hb
      rcases oo.new p hp with q | q | q
      · exact hf _ (h5 _ q)
      · exact I.fpOk q (I.hok.fresh q)
      · rw [q]
        exact hf _ (by rw [h2]; exact List.mem_map.mpr ⟨_, h3, rfl⟩)
  · intro _
    exact absurd hp.1 (Nat.succ_ne_zero m)
theorem next_done {E : Value → Shared → Prop} (O : GOk G X) (I : Inv X pins σ H s) (hf : ∀ b ∈ fp, FpOk X pins H b) (st : Slp G i fp s) (hi : i = G.n) (t : TK G.H1 H) :
    wpAny (model X.prog X.w) X.A (pyNext (.ref G.a)) (fun r s1 => r = none ∧ Inv X pins σ H s1) E s := by
  obtain ⟨gs, own, h1, h2, h3, h4, h5, h6, h7⟩ := st
  have hm : G.n - i = 0 := by omega
  rw [hm] at h7
  have hA : X.A.handled = none := by rw [O.eA]; exact O.hd
  have hgo := h7 _ (wk_of (gs := .running) O I t (fun p hp => (h4 p hp).1) (allBare_setGen I.bare rfl))
  rw [← O.eA] at hgo
  have hgo' : gs.Goes (model X.prog X.w) X.A.in1 (fun n s₀ r s₁ => ((r = .ok (.ret .none) ∨ r = .ok .next) ∧ (n = 0 ∧ Stp G s₀ s₁)) ∨ ∃ e, r = .error e ∧ False) (GYp G) 0 (.send .none) (s.setGen G.g .running) := by
    rw [O.eP, O.ew]; exact hgo
  refine next_genG hA I.nolimit (by rw [O.eA]; exact O.room) (O.gen _ (h4 _ h3).1) h1 hgo' (fun v s₁ gs' hbare hY => ?_) (fun s₁ hp h' hk => ?_) fun e s₁ he => he.elim
  · obtain ⟨x, own', hn, hx, rv, sp, oo, kap⟩ := hY
    have sp' : Stp G s s₁ := ⟨sp.os, sp.bare, sp.keep, sp.slot, sp.there⟩
    have I1 : Inv X pins σ H (s₁.setGen G.g gs') := inv_stp (h' := s₁.heap) O I hf h5 sp' (fun _ _ e => e) hbare
    have hwk := wk_of (own := own') (gs := gs') O I1 t (fun p hp => (oo.at_ p hp).1) (allBare_setGen I1.bare hbare)
    exact (kap _ hwk).1.elim
  · obtain ⟨_, sp⟩ := hp
    have sp' : Stp G s s₁ := ⟨sp.os, sp.bare, sp.keep, sp.slot, sp.there⟩
    exact ⟨rfl, inv_stp (gs := .finished) O I hf h5 sp' hk rfl⟩
end
end GenF
/-! for, and a list comprehension, over a generator of the program's own -/
namespace GenF
open PySem PySem.Spec PyProof.Rows GenW L2
def Itg (G : Gs) : It := ⟨fun i H => i < G.n ∧ TK G.H1 H, fun i H x H' => H' = H ∧ G.it i x, fun i H => i = G.n ∧ TK G.H1 H⟩
def PIEG (X : Cx) (pins : List (Addr × Obj)) (σ : L2.St) (R : It → Hp → Prop) (v : Value) (s2 : Shared) : Prop :=
  ∃ (G : Gs) (fp : List Addr) (H2 : Hp), v = .ref G.a ∧ GOk G X ∧ Inv X pins σ H2 s2 ∧ Slp G 0 fp s2 ∧ (∀ b ∈ fp, FpOk X pins H2 b) ∧ R (Itg G) H2
structure PIG (X : Cx) (iter : Expr) (wi : TI) : Prop where
  run : ∀ (pins : List (Addr × Obj)) (s : Shared) (σ : L2.St) (H : Hp) (R : It → Hp → Prop), Inv X pins σ H s → wi σ H R →
    wpAny (model X.prog X.w) X.A (eval iter X.env) (fun v s1 => wpAny (model X.prog X.w) X.A (pyIter v) (PIEG X pins σ R) X.xe s1) X.xe s
section
variable {X : Cx} {pins : List (Addr × Obj)} {σ : L2.St} {H : Hp} {s s1 : Shared}
theorem inv_gens {gs : Array GenState} (I : Inv X pins σ H s) (hb : AllBare gs) : Inv X pins σ H { s with gens := gs } :=
  ⟨I.ok, I.os, hb, I.base, I.loc, I.cell, I.free, I.freeC, I.pin, I.hok, I.len⟩
theorem inv_barred (I : Inv X pins σ H s) : Inv X pins σ H (barred s) := inv_gens I (bare_barred I.bare)
theorem inv_mix (hb : AllBare s.gens) (I : Inv X pins σ H s1) : Inv X pins σ H (mix (zs s) s1) := inv_gens I (bare_mix hb I.bare)
theorem sp_mix {D : Ends} {f : Flow} (hb : AllBare s.gens) (h : SP X pins D f s1) : SP X pins D f (mix (zs s) s1) := by
  cases f with
  | next => obtain ⟨σ', H', I, q⟩ := h; exact ⟨σ', H', inv_mix hb I, q⟩
  | brk => obtain ⟨σ', H', I, q⟩ := h; exact ⟨σ', H', inv_mix hb I, q⟩
  | cont => obtain ⟨σ', H', I, q⟩ := h; exact ⟨σ', H', inv_mix hb I, q⟩
  | ret u => obtain ⟨v, σ', H', I, r, q⟩ := h; exact ⟨v, σ', H', inv_mix hb I, r, q⟩
/-- what sleeps in the table sleeps on -/
def GKp (s s' : Shared) : Prop := ∀ (g : Nat) (x : GenState), s.gens[g]? = some x → IsSusp x → s'.gens[g]? = some x
theorem GKp.trans {s s' s'' : Shared} (a : GKp s s') (b : GKp s' s'') : GKp s s'' := fun g x e k => b g x (a g x e k) k
/-- a piece that raises nothing, run while generators sleep -/
theorem kept_run {α : Type} {A : Around} {t : Sem α} {Q Q' : α → Shared → Prop} {E E' : Value → Shared → Prop} {M : Model} (hE : ∀ e s, ¬ E e s) (h : wpAny M A t Q E (barred s)) (hQ : ∀ a s1, Q a s1 → GKp s (mix (zs s) s1) → Q' a (mix (zs s) s1)) : wpAny M A t Q' E' s := by
  refine wpAny_mono (wpAny_kept h) (fun a s' ⟨s1, e, g, q⟩ => ?_) fun e s' ⟨s1, _, _, q⟩ => (hE _ _ q).elim
  subst e
  exact hQ a s1 q fun n x hx k => mix_gen hx k g
theorem gen_go {G : Gs} {tg : Expr} {u : Value} {M : Model} {A : Around} {E : Value → Shared → Prop} {Q : Unit → Shared → Prop} (hg : s.heap.IsGen G.a G.g) (h : Q () s) : wpAny M A (letOwnedTupleGo tg (.ref G.a) u) Q E s := by
  obtain ⟨o, nm, qn, ho, hc, hd, _⟩ := hg
  exact go_of ho hc hd (by decide) h
theorem Slp.gen {G : Gs} {i : Nat} {fp : List Addr} (O : GOk G X) (st : Slp G i fp s) : s.heap.IsGen G.a G.g := by
  obtain ⟨gs, own, h1, h2, h3, h4, _⟩ := st
  exact O.gen _ (h4 _ h3).1
/-- behind a turn: its objects were pinned -/
theorem slp_on {G : Gs} {i : Nat} {fp : List Addr} {s' : Shared} {pins2 : List (Addr × Obj)} {σ' : L2.St} {H' : Hp} (hi : 0 < i) (st : Slp G i fp s) (fr : ∀ b ∈ fp, FpOk X pins H b) (I : Inv X (pins2 ++ pinsAt fp s.heap) σ' H' s') (k : GKp s s') :
    Slp G i fp s' ∧ ∀ b ∈ fp, FpOk X pins H' b := by
  have pin : ∀ b ∈ fp, ∀ o, s.heap.get? b = some o → s'.heap.get? b = some o ∧ H' b = none := fun b hb o e =>
    let z := I.pin (b, o) (List.mem_append_right _ (List.mem_append_right _ (mem_pinsAt hb e)))
    ⟨z.1, z.2.1⟩
  refine ⟨st.keep (fun b hb o e => (pin b hb o e).1) (.inr ⟨hi, k⟩), fun b hb => ?_⟩
  obtain ⟨o, e, _⟩ := st.obj b hb
  exact ⟨(pin b hb o e).2, (fr b hb).2⟩
end
section
variable {X : Cx}
theorem ps_forG {tg iter : Expr} {body : List Stmt} {wi : TI} {g : TG} {tb : TS} {pos : Pos} (hx : X.xe = fun _ _ => False) (hi : PIG X iter wi) (hg : PG X tg g) (hb : PSs X body tb)
    (hs : ∀ x, foldedSetIterable iter X.env x = pure x := by intro _; rfl) : PS X (.For tg iter body [] pos) (tFor wi g tb) := by
  refine ⟨fun pins s σ H D I h => ?_⟩
  have nx : ∀ e s, ¬ X.xe e s := fun e s z => by rw [hx] at z; exact z
  have nv : ∀ {α : Type} {t : Sem α} {Q : α → Shared → Prop} {E : Value → Shared → Prop} {s : Shared}, wpAny (model X.prog X.w) X.A t Q X.xe s → wpAny (model X.prog X.w) X.A t Q E s := fun q => wpAny_mono q (fun _ _ z => z) fun e s z => (nx e s z).elim
  refine wpAny_For (thn (hi.run pins s σ H _ I h) fun v s1 h1 => thn h1 fun itv s2 h2 => ?_) hs
  obtain ⟨G, fp, H2, e, O, I2, st2, f2, W, ⟨m0, w0⟩, turn⟩ := h2
  subst e
  refine codeAny_forLoop_any (fun n s' => ∃ i fp σ' H', Inv X pins σ' H' s' ∧ Slp G i fp s' ∧ (∀ b ∈ fp, FpOk X pins H' b) ∧ W i n σ' H') ?_ m0 ⟨0, fp, σ, H2, I2, st2, f2, w0⟩
  rintro n s3 ⟨i, fp3, σ3, H3, I3, st3, fr3, w3⟩
  rcases turn i n σ3 H3 w3 with ⟨⟨he, tk⟩, qn⟩ | ⟨⟨hl, tk⟩, N, hN, step⟩
  · refine nv (thn (next_done O I3 fr3 st3 he tk) fun r s4 ⟨hr, I4⟩ => ?_)
    subst hr
    exact wpAny_execs_nil ⟨σ3, H3, I4, qn⟩
  · refine nv (thn (next_item O I3 fr3 st3 hl tk) fun r s4 ⟨u, x, fp4, hr, I4, rx, hx4, st4, fr4⟩ => ?_)
    subst hr
    refine gen_go (st4.gen O) ?_
    have I5 := I4.pinned fr4 st4.obj
    refine kept_run nx (hg.run _ _ σ3 H3 x u _ (inv_barred I5) rx (step x H3 ⟨rfl, hx4⟩)) fun _ s5 ⟨σ6, H6, I6, q6⟩ k6 => ?_
    have I6' := inv_mix I5.bare I6
    refine kept_run nx (hb.run _ _ σ6 H6 _ (inv_barred I6') q6) fun f s7 q7 k7 => ?_
    have q7' := sp_mix (s := mix (zs s4) s5) I6'.bare q7
    have kk := k6.trans k7
    have again : ∀ {σ7 : L2.St} {H7 : Hp}, Inv X (pins ++ pinsAt fp4 s4.heap) σ7 H7 (mix (zs (mix (zs s4) s5)) s7) → N σ7 H7 → ∃ m, m < n ∧ ∃ i fp σ' H', Inv X pins σ' H' (mix (zs (mix (zs s4) s5)) s7) ∧ Slp G i fp (mix (zs (mix (zs s4) s5)) s7) ∧ (∀ b ∈ fp, FpOk X pins H' b) ∧ W i m σ' H' := fun {σ7 H7} I7 n7 => by
      obtain ⟨m', hm, w7⟩ := hN σ7 H7 n7
      obtain ⟨st7, fr7⟩ := slp_on (Nat.succ_pos i) st4 fr4 I7 kk
      exact ⟨m', hm, i + 1, fp4, σ7, H7, I7.unpinned, st7, fr7, w7⟩
    cases f with
    | next => obtain ⟨σ7, H7, I7, n7⟩ := q7'; exact again I7 n7
    | cont => obtain ⟨σ7, H7, I7, n7⟩ := q7'; exact again I7 n7
    | brk => obtain ⟨σ7, H7, I7, q7⟩ := q7'; exact ⟨σ7, H7, I7.unpinned, q7⟩
    | ret v => obtain ⟨x7, σ7, H7, I7, r7, q7⟩ := q7'; exact ⟨x7, σ7, H7, I7.unpinned, r7, q7⟩
theorem lc_coreG {pins : List (Addr × Obj)} {s : Shared} {σ : L2.St} {H : Hp} {Q : VK} {elt tg iter : Expr} {ifs : List Expr} {scope : Scope} {own : List (Str × Nat)} {pos pos' : Pos} {wi : TI} {g : TG} {tt : TT} {te : TE} {use : Option (Value → Sem Unit)} {Qf : Value → Shared → Prop}
    (hN : X.N.Nodup) (I : Inv X pins σ H s) (hi : PIG X iter wi) (ok : BlkOk X.N X.env.scope scope own)
    (hg : ∀ (s : Shared) (H : Hp) (C : Addr) (cl : List (Str × Addr)) (fp : List Addr), PG (X.blk s H scope (compEnvC scope cl C X.env) fp) tg g)
    (ht : ∀ (s : Shared) (H : Hp) (C : Addr) (cl : List (Str × Addr)) (fp : List Addr), PTs (X.blk s H scope (compEnvC scope cl C X.env) fp) ifs tt)
    (he : ∀ (s : Shared) (H : Hp) (C : Addr) (cl : List (Str × Addr)) (fp : List Addr), PE (X.blk s H scope (compEnvC scope cl C X.env) fp) elt te)
    (hs : ∀ x, foldedSetIterable iter X.env x = pure x) (h : tLc wi g tt te (own.map (·.2)) σ H Q)
    (hRR : ∀ D C s' m H', Inv X pins σ H' s' → Q (.ref D) H' → s'.heap.Ns C m → FpOk X pins H' C → compPost (model X.prog X.w) X.A X.xe use Qf (.ref D) C (.ok .next) s') :
    wpAny (model X.prog X.w) X.A (comprehension (.ListComp elt [⟨tg, iter, ifs, 0⟩] scope pos) scope X.env pos' (newList []) false (eval iter X.env) use) Qf X.xe s := by
  have hfree : ∀ y ∈ scope.names, y.2 = .free → ∃ c, X.env.cells.lookup y.1 = some c := fun y hy e => (ok.free y hy e).elim (fun k => I.ok.has _ (.inl k)) fun k => I.ok.has _ (.inr k)
  refine wpAny_comprehension_free (use := use) rfl hs (closure_ok hfree) ok.kind (fun y hy e => by rw [ok.uniq y hy, e]) (thn (hi.run pins s σ H _ I h) fun xv s1 h1 => thn h1 fun itv s2 h2 => ?_)
  obtain ⟨G, fp, H2, e, O, I2, st2, f2, q⟩ := h2
  subst e
  refine wpAny_newObj_type (newEnv_comp ?_) (by show 0 ≤ sizeLine; decide)
  generalize hD : s2.heap.objs.size = D
  obtain ⟨W, ⟨m0, w0⟩, turn⟩ := q D (I2.hok.fresh (Nat.le_of_eq hD))
  generalize hs3 : ({ s2 with heap := s2.heap.push { cls := .type "list", data := .seq ([] : List Value).toArray } } : Shared) = s3
  have h3 : s3.heap = s2.heap.push { cls := .type "list", data := .seq ([] : List Value).toArray } := by rw [← hs3]
  have I3 : Inv X pins σ (upd H2 D (.lst [])) s3 := by
    rw [← hs3]
    refine I2.laid (t' := s2.toks) (fun b o e => Heap.get?_push_of_some _ e) (Nat.le_of_eq hD) ⟨Nat.zero_le _, [], 0, .nil, ?_⟩
    rw [← hD]
    exact Heap.get?_push_size _ rfl
  have f3 : ∀ b ∈ fp, FpOk X pins (upd H2 D (.lst [])) b ∧ b < s3.heap.objs.size := fun b hb => by
    obtain ⟨o, e, _⟩ := st2.obj b hb
    have hlt := Heap.lt_size e
    refine ⟨⟨?_, (f2 b hb).2⟩, by rw [h3, Heap.size_push]; exact Nat.lt_succ_of_lt hlt⟩
    rw [upd_ne (by rw [← hD]; exact Nat.ne_of_lt hlt)]
    exact (f2 b hb).1
  have st3 : Slp G 0 fp s3 := st2.keep (fun b _ o e => by rw [h3]; exact Heap.get?_push_of_some _ e) (.inl (by rw [← hs3]))
  have I4 := block_start I3 ok hN f3
  have pg := hg s3 (upd H2 D (.lst [])) s3.heap.objs.size (cellsFrom (s3.heap.objs.size + 1) scope.names (cloFrom X.env.cells scope.names [])) fp
  have pt := ht s3 (upd H2 D (.lst [])) s3.heap.objs.size (cellsFrom (s3.heap.objs.size + 1) scope.names (cloFrom X.env.cells scope.names [])) fp
  have pe := he s3 (upd H2 D (.lst [])) s3.heap.objs.size (cellsFrom (s3.heap.objs.size + 1) scope.names (cloFrom X.env.cells scope.names [])) fp
  show codeAny _ _ (.compStart (.ListComp elt [⟨tg, iter, ifs, 0⟩] scope pos) 0 (.ref G.a) (.ref D) (compEnvC scope (cellsFrom (s3.heap.objs.size + 1) scope.names (cloFrom X.env.cells scope.names [])) s3.heap.objs.size X.env)) (compPost (model X.prog X.w) X.A X.xe use Qf (.ref D) s3.heap.objs.size) { s3 with heap := pushCells (s3.heap.push { cls := .type "dict", data := .dict #[] }) scope.names }
  generalize hce : compEnvC scope (cellsFrom (s3.heap.objs.size + 1) scope.names (cloFrom X.env.cells scope.names [])) s3.heap.objs.size X.env = ce at I4 pg pt pe ⊢
  have cL : ce.locals = s3.heap.objs.size := by subst hce; rfl
  generalize hH3 : upd H2 D (.lst []) = H3 at I3 I4 pg pt pe w0 f3
  generalize hs4 : ({ s3 with heap := pushCells (s3.heap.push { cls := .type "dict", data := .dict #[] }) scope.names } : Shared) = s4 at I4 ⊢
  have st4 : Slp G 0 fp s4 := st3.keep (fun b _ o e => by rw [← hs4]; exact pushCells_keeps _ _ _ _ (Heap.get?_push_of_some _ e)) (.inl (by rw [← hs4]))
  have OB : GOk G (X.blk s3 H3 scope ce fp) := ⟨O.eP, O.ew, O.eK, O.eb, O.eA, O.es, O.hd, O.room, O.gen⟩
  have f4 : ∀ b ∈ fp, FpOk (X.blk s3 H3 scope ce fp) [] H3 b := fun b hb => ⟨(f3 b hb).1.1, (I4.ok.exf b hb).1, I4.ok.exfs b hb, .inl hb, fun x c e => (I4.ok.exf b hb).2 x c e, fun p hp => absurd (show p ∈ ([] : List (Addr × Obj)) ++ [] from hp) (by simp)⟩
  have nx : ∀ (e : Value) (s : Shared), ¬ (X.blk s3 H3 scope ce fp).xe e s := fun _ _ z => z
  have loop : codeAny (model X.prog X.w) X.A (.compLoop (.ListComp elt [⟨tg, iter, ifs, 0⟩] scope pos) 0 (.ref G.a) (.ref D) ce) (compPost (model X.prog X.w) X.A X.xe use Qf (.ref D) s3.heap.objs.size) s4 := by
    refine compLoop_any (fun n s' => ∃ i fq H', Inv (X.blk s3 H3 scope ce fp) [] (wipe σ (own.map (·.2))) H' s' ∧ Slp G i fq s' ∧ (∀ b ∈ fq, FpOk (X.blk s3 H3 scope ce fp) [] H' b) ∧ W i n H') ?_ m0 ⟨0, fp, H3, I4, st4, f4, w0⟩
    rintro n s5 ⟨i, fq, H5, I5, st5, f5, w5⟩
    rcases turn i n H5 w5 with ⟨⟨hend, tk⟩, qq⟩ | ⟨⟨hl, tk⟩, Nx, hNx, step⟩
    · refine thnF (next_done (X := X.blk s3 H3 scope ce fp) (E := fun _ _ => False) OB I5 f5 st5 hend tk) fun r s6 ⟨hr, I6⟩ => ?_
      subst hr
      have I7 : Inv X pins σ H5 s6 := I3.call' (ch := fp) I6.os I6.base I6.hok I6.bare fun b hb => ⟨(f3 b hb).1.2.2.2.1, (f3 b hb).1.2.1, (f3 b hb).1.2.2.2.2.1, (f3 b hb).1.2.2.2.2.2⟩
      have nC : H5 s3.heap.objs.size = none := by
        have z : H5 ce.locals = none := I6.free
        rw [cL] at z
        exact z
      obtain ⟨m, hn, _⟩ := I6.loc
      have hn : s6.heap.Ns ce.locals m := hn
      rw [cL] at hn
      exact hRR D s3.heap.objs.size s6 m H5 I7 qq hn (I3.fpOk (Nat.le_refl _) nC)
    · refine thnF (next_item (X := X.blk s3 H3 scope ce fp) (E := fun _ _ => False) OB I5 f5 st5 hl tk) fun r s6 ⟨u, x, fp6, hr, I6, rx, hx6, st6, f6⟩ => ?_
      subst hr
      refine gen_go (st6.gen OB) ?_
      have I7 := I6.pinned f6 st6.obj
      refine kept_run nx (pg.run _ _ _ H5 x u _ (inv_barred I7) rx (step x H5 ⟨rfl, hx6⟩)) fun _ s7 ⟨σ8, H8, I8, hw8, q8⟩ k8 => ?_
      have I8' := inv_mix I7.bare I8
      refine kept_run nx (pt.run _ _ σ8 H8 _ (inv_barred I8') q8) fun b s8 ⟨H9, I9, q9⟩ k9 => ?_
      have I9' := inv_mix I8'.bare I9
      have k9' := k8.trans k9
      have fin : ∀ {s' : Shared} {H' : Hp}, Inv (X.blk s3 H3 scope ce fp) ([] ++ pinsAt fp6 s6.heap) σ8 H' s' → GKp s6 s' → Nx H' → ∃ m, m < n ∧ ∃ i fq H', Inv (X.blk s3 H3 scope ce fp) [] (wipe σ (own.map (·.2))) H' s' ∧ Slp G i fq s' ∧ (∀ b ∈ fq, FpOk (X.blk s3 H3 scope ce fp) [] H' b) ∧ W i m H' := fun {s' H'} I' k' nxt => by
        obtain ⟨m', hm, w'⟩ := hNx H' nxt
        obtain ⟨st', f'⟩ := slp_on (Nat.succ_pos i) st6 f6 I' k'
        have hl : (wipe σ (own.map (·.2))).length = σ8.length := by rw [← hw8, wipe_length]
        refine ⟨m', hm, i + 1, fp6, H', (I'.unpinned (pins := [])).weak hl (fun j v e => ?_), st', f', w'⟩
        rw [← hw8] at e
        exact (wipe_some e).1
      cases b with
      | false =>
        simp only [Bool.false_eq_true, if_false] at q9 ⊢
        exact fin I9' k9' q9
      | true =>
        simp only [if_true] at q9 ⊢
        refine kept_run nx (pe.run _ _ σ8 H9 _ (inv_barred I9') q9) fun z s9 ⟨yv, H10, I10, r10, acc, hD10, hz10, nxt⟩ k10 => ?_
        have I10' := inv_mix I9'.bare I10
        refine kept_run (E := fun _ _ => False) (fun _ _ z => z) (app_ok (X := X.blk s3 H3 scope ce fp) (Q := fun _ s' => ∃ H', Inv (X.blk s3 H3 scope ce fp) ([] ++ pinsAt fp6 s6.heap) σ8 H' s' ∧ Nx H') (inv_barred I10') hD10 hz10 r10 fun s11 I11 => ⟨_, I11, nxt⟩) fun _ s10 ⟨H11, I11, n11⟩ k11 => ?_
        exact fin (inv_mix I10'.bare I11) ((k9'.trans k10).trans k11) n11
  exact codeAny_compStart_list loop (wpAny_pyIter_gen (st4.gen OB) loop)
theorem pe_lcG {elt tg iter : Expr} {ifs : List Expr} {scope : Scope} {own : List (Str × Nat)} {pos : Pos} {wi : TI} {g : TG} {tt : TT} {te : TE} (hN : X.N.Nodup) (hi : PIG X iter wi) (ok : BlkOk X.N X.env.scope scope own)
    (hg : ∀ (s : Shared) (H : Hp) (C : Addr) (cl : List (Str × Addr)) (fp : List Addr), PG (X.blk s H scope (compEnvC scope cl C X.env) fp) tg g)
    (ht : ∀ (s : Shared) (H : Hp) (C : Addr) (cl : List (Str × Addr)) (fp : List Addr), PTs (X.blk s H scope (compEnvC scope cl C X.env) fp) ifs tt)
    (he : ∀ (s : Shared) (H : Hp) (C : Addr) (cl : List (Str × Addr)) (fp : List Addr), PE (X.blk s H scope (compEnvC scope cl C X.env) fp) elt te) (hs : ∀ x, foldedSetIterable iter X.env x = pure x := by intro _; rfl) :
    PE X (.ListComp elt [⟨tg, iter, ifs, 0⟩] scope pos) (tLc wi g tt te (own.map (·.2))) := by
  refine ⟨fun pins s σ H Q I h => ?_⟩
  rw [eval_ListComp]
  refine lc_coreG hN I hi ok hg ht he hs h fun D C s' m H' I' q hn f => ⟨m, hn, fun h'' sb => ?_⟩
  obtain ⟨f0, f1, f2, f3, f4, f5⟩ := f
  exact ⟨.ref D, H', I'.turned (t' := s'.toks) (fun b o hb e => (sb.2 b hb).trans e) f0 f1 f3 f4 f5, rfl, q⟩
end
end GenF
/-! how an own generator is made, and woken -/
namespace GenF
open PySem PySem.Spec PyProof.Rows GenW L2
/-- what stands fixed, as the generator's side sees it -/
structure GStat (G : Gs) (mg : Str → Option Value) : Prop where
  mod : Mod G.K mg G.base
  bsz : G.base.objs.size ≤ G.F
  bnt : ∀ b o, G.base.get? b = some o → G.H1 b = none
  stk : ∀ b ∈ frs G.stk, b < G.F ∧ G.H1 b = none
  frames : G.A.frames = some G.stk
  hd : G.A.handled = none
  tup : ∀ b xs, Rd G.H1 b (.tup xs) → b < G.F
  Fa : G.F < G.a
  goc : ∀ v, G.go.data ≠ .cell v
/-- the generator's view: the tuples it may read, and all that is younger than its frame, as they stand -/
def Hw0 (G : Gs) (sn : Shared) : Hp := fun b =>
  if b < G.F then (match tupsOf G.H1 b, sn.heap.get? b with
    | some (.tup xs), some o => some (.frz o (.tup xs))
    | _, _ => none)
  else if b = G.F then none else (sn.heap.get? b).map fun o => .frz o (.own b)
theorem Hw0_none {G : Gs} {sn : Shared} {b : Addr} (lt : b < G.F) (e : G.H1 b = none) : Hw0 G sn b = none := by
  unfold Hw0
  rw [if_pos lt, tupsOf_none e]
theorem Hw0_F {G : Gs} {sn : Shared} : Hw0 G sn G.F = none := by
  unfold Hw0
  rw [if_neg (Nat.lt_irrefl _), if_pos rfl]
theorem Hw0_up {G : Gs} {sn : Shared} {b : Addr} {o : Obj} (lt : G.F < b) (e : sn.heap.get? b = some o) : Hw0 G sn b = some (.frz o (.own b)) := by
  unfold Hw0
  rw [if_neg (Nat.lt_asymm lt), if_neg (Nat.ne_of_gt lt), e]; rfl
theorem Hw0_upn {G : Gs} {sn : Shared} {b : Addr} (lt : G.F < b) (e : sn.heap.get? b = none) : Hw0 G sn b = none := by
  unfold Hw0
  rw [if_neg (Nat.lt_asymm lt), if_neg (Nat.ne_of_gt lt), e]; rfl
theorem Hw0_lt {G : Gs} {sn : Shared} {b : Addr} {u : HO} (lt : b < G.F) (e : Hw0 G sn b = some u) : ∃ xs o, u = .frz o (.tup xs) ∧ Rd G.H1 b (.tup xs) ∧ sn.heap.get? b = some o := by
  unfold Hw0 at e
  rw [if_pos lt] at e
  cases q : tupsOf G.H1 b with
  | none => rw [q] at e; cases e
  | some v =>
    obtain ⟨xs, rfl, r⟩ := tupsOf_inv q
    rw [q] at e
    cases q2 : sn.heap.get? b with
    | none => rw [q2] at e; cases e
    | some o => rw [q2] at e; cases e; exact ⟨xs, o, rfl, r, rfl⟩
theorem Hw0_ok {G : Gs} {own : List (Addr × Obj)} {sn : Shared} (W : Wk G own sn) : HOk G.P G.w (Hw0 G sn) sn.heap := fun b u e => by
  by_cases lt : b < G.F
  · obtain ⟨xs, o, rfl, r, e2⟩ := Hw0_lt lt e
    exact ⟨e2, W.data b xs r⟩
  · by_cases eq : b = G.F
    · rw [eq, Hw0_F] at e; cases e
    · have gt : G.F < b := Nat.lt_of_le_of_ne (Nat.le_of_not_lt lt) (Ne.symm eq)
      cases q : sn.heap.get? b with
      | none => rw [Hw0_upn gt q] at e; cases e
      | some o => rw [Hw0_up gt q] at e; cases e; exact ⟨q, _, q⟩
/-- the tuples are read in it -/
theorem Hw0_sq {G : Gs} {mg : Str → Option Value} {own : List (Addr × Obj)} {sn : Shared} (S : GStat G mg) (W : Wk G own sn) : ∀ a xs, SqT G.K (tupsOf G.H1) a xs → SqT G.K (Hw0 G sn) a xs := fun a xs s => by
  rcases s with (s | ⟨o, s⟩) | s
  · obtain ⟨ys, e, r⟩ := tupsOf_inv s
    cases e
    obtain ⟨_, its, _, o, ho, _⟩ := W.data a xs r
    refine .inl (.inr ⟨o, ?_⟩)
    unfold Hw0
    rw [if_pos (S.tup a xs r), tupsOf_rd r, ho]
  · obtain ⟨ys, e, _⟩ := tupsOf_inv s
    cases e
  · exact .inr s
/-- .. and back -/
theorem Hw0_qs {G : Gs} {mg : Str → Option Value} {sn : Shared} : ∀ a xs, (Hw0 G sn a = some (.tup xs) ∨ ∃ o, Hw0 G sn a = some (.frz o (.tup xs))) → tupsOf G.H1 a = some (.tup xs) := fun a xs s => by
  have low : ∀ u, Hw0 G sn a = some u → (∀ o b, u ≠ .frz o (.own b)) → a < G.F := fun u e n => by
    by_cases lt : a < G.F
    · exact lt
    · by_cases eq : a = G.F
      · rw [eq, Hw0_F] at e; cases e
      · have gt : G.F < a := Nat.lt_of_le_of_ne (Nat.le_of_not_lt lt) (Ne.symm eq)
        cases q : sn.heap.get? a with
        | none => rw [Hw0_upn gt q] at e; cases e
        | some o => rw [Hw0_up gt q] at e; cases e; exact absurd rfl (n _ _)
  rcases s with s | ⟨o, s⟩
  · obtain ⟨ys, o', e, _⟩ := Hw0_lt (low _ s (fun _ _ => HO.noConfusion)) s
    cases e
  · obtain ⟨ys, o', e, r, _⟩ := Hw0_lt (low _ s (fun _ _ z => by cases z)) s
    cases e
    exact tupsOf_rd r
/-- the context of a piece of its run -/
def cxG (G : Gs) (mg : Str → Option Value) (N : List Str) (qual : Str) (scope : Scope) (f : Addr) (cd : Value) (Hw : Hp) (sn : Shared) : Cx where
  prog := G.P
  w := G.w
  K := G.K
  mg := mg
  base := G.base
  A := G.A.in1.deeper (envOfC qual scope G.F f cd)
  N := N
  s_0 := { sn with heap := cutH sn.heap G.F }
  H_0 := Hw
  env := envOfC qual scope G.F f cd
  outer := G.stk
  stack := envOfC qual scope G.F f cd :: G.stk
  ex := []
  calm := true
  fn := fun _ => true
  pn := []
  xe := fun _ _ => False
structure NoCells (sc : Scope) : Prop where
  kind : sc.kind = .function
  co : sc.isCoroutine = false
  gen : sc.isGenerator = true
  cells : ∀ n, cellsFrom n sc.names [] = []
  none : ∀ x, sc.names.lookup x ≠ some .cell ∧ sc.names.lookup x ≠ some .free
section
variable {G : Gs} {mg : Str → Option Value} {N : List Str} {qual : Str} {scope : Scope} {f : Addr} {cd : Value} {own : List (Addr × Obj)} {sn s1 : Shared} {Hw : Hp} {σ : L2.St}
theorem inv_wake (S : GStat G mg) (C : NoCells scope) (W : Wk G own sn) (lo : ∀ b, b < G.F → Hw b = Hw0 G sn b) (hF : Hw G.F = none) (ok : HOk G.P G.w Hw sn.heap) {m : Str → Option Value} (hN : sn.heap.Ns G.F m) (hl : σ.length = N.length)
    (hσ : ∀ (i : Nat) (x : Str) (v : V), N[i]? = some x → σ[i]? = some (some v) → ∃ u, RelV v u ∧ m x = some u ∧ scope.names.lookup x = some .local) : Inv (cxG G mg N qual scope f cd Hw sn) [] σ Hw sn := by
  have lt := hN.lt
  have csz : (cutH sn.heap G.F).objs.size = G.F := cutH_size (Nat.le_of_lt lt)
  have cu : ∀ b o, b < G.F → sn.heap.get? b = some o → (cutH sn.heap G.F).get? b = some o := fun b o l e => by rw [cutH_get l]; exact e
  have nc : ∀ x, (envOfC qual scope G.F f cd).cells.lookup x = none := fun x => by
    show (cellsFrom (G.F + 1) scope.names []).lookup x = none
    rw [C.cells]; rfl
  have nc' : ∀ {x c} {p : Prop}, (envOfC qual scope G.F f cd).cells.lookup x = some c → p := fun {x c p} e => by rw [nc x] at e; cases e
  have noA : ∀ {b : Addr} {p : Prop}, b ∈ (cxG G mg N qual scope f cd Hw sn).ex → p := fun {b p} z => absurd (show b ∈ ([] : List Addr) from z) (by simp)
  have hlow : ∀ b, b < G.F → G.H1 b = none → Hw b = none := fun b l e => by rw [lo b l]; exact Hw0_none l e
  refine ⟨⟨S.mod, C.kind, rfl, rfl, Nat.le_of_eq csz, fun _ _ _ e _ => nc' e, fun x hx => ?_, fun _ _ _ e => nc' e, fun _ => S.hd, Around.frames_deeper (A := G.A.in1) S.frames, .inr ⟨rfl, rfl⟩, fun b hb => noA hb, fun b o e => ?_, Nat.le_trans S.bsz (Nat.le_of_eq csz.symm), fun b o _ hb => noA hb, fun b hb => noA hb, ?_, fun b hb => ?_⟩,
    rfl, W.bare, Un.kept fun b o e => (cutH_of e).2, ⟨m, hN, fun i x v h1 h2 _ => ?_⟩, fun _ _ e => nc' e, hF, fun _ _ e => nc' e, fun p hp => absurd (show p ∈ ([] : List (Addr × Obj)) ++ [] from hp) (by simp), ok, hl⟩
  · rcases hx with hx | hx
    · exact absurd hx (C.none x).1
    · exact absurd hx (C.none x).2
  · have l := Nat.lt_of_lt_of_le (Heap.lt_size e) S.bsz
    exact ⟨cu b o l (W.bs b o e), hlow b l (S.bnt b o e)⟩
  · exact funs_slots W.funs fun b hb o e => ⟨o.slots, cu b o (S.stk b hb).1 e⟩
  · exact hlow b (S.stk b hb).1 (S.stk b hb).2
  · obtain ⟨u, r, e, k⟩ := hσ i x v h1 h2
    exact ⟨u, r, .inl ⟨k, e⟩⟩
theorem stp_of {pins : List (Addr × Obj)} {H : Hp} (S : GStat G mg) (W : Wk G own sn) (I : Inv (cxG G mg N qual scope f cd Hw sn) pins σ H s1) (hw : ∀ b, ¬ OwnF G.x sn.heap G.F b → Hw b = Hw0 G sn b) (lo : ∀ b, b < G.F → Hw b = Hw0 G sn b)
    (there : ∀ b, OwnF G.x sn.heap G.F b → b ≠ G.F → ∃ o, s1.heap.get? b = some o) : Stp G sn s1 := by
  have frz : ∀ b o u, Hw b = some (.frz o u) → s1.heap.get? b = some o := fun b o u e => (I.hok b _ (I.base.frzs b o u e)).1
  have noA : ∀ b : Addr, b ∉ (cxG G mg N qual scope f cd Hw sn).ex := fun b z => absurd (show b ∈ ([] : List Addr) from z) (by simp)
  have keep : ∀ b o, sn.heap.get? b = some o → ¬ OwnF G.x sn.heap G.F b → b ∉ frs G.stk → s1.heap.get? b = some o := fun b o e no nf => by
    by_cases lt : b < G.F
    · cases q : Hw b with
      | none => exact I.base.keep b o (by show (cutH sn.heap G.F).get? b = _; rw [cutH_get lt]; exact e) q nf (noA b)
      | some u =>
        have q' := q
        rw [hw b no] at q'
        obtain ⟨xs, o', rfl, _, e2⟩ := Hw0_lt lt q'
        rw [e] at e2
        cases e2
        exact frz b o _ q
    · have ne : b ≠ G.F := fun z => no (.inl z)
      have gt : G.F < b := Nat.lt_of_le_of_ne (Nat.le_of_not_lt lt) (Ne.symm ne)
      have q := hw b no
      rw [Hw0_up gt e] at q
      exact frz b o _ q
  have slot : ∀ b o, sn.heap.get? b = some o → b ∈ frs G.stk → ∃ sl, s1.heap.get? b = some { o with slots := sl } := fun b o e hb => by
    obtain ⟨lt, hn⟩ := S.stk b hb
    exact I.base.slot b o (by show (cutH sn.heap G.F).get? b = _; rw [cutH_get lt]; exact e) (by show Hw b = none; rw [lo b lt]; exact Hw0_none lt hn) hb (noA b)
  refine ⟨I.os, I.bare, keep, slot, fun b o e => ?_⟩
  by_cases q : OwnF G.x sn.heap G.F b
  · by_cases ne : b = G.F
    · obtain ⟨m, ⟨o', _, _, e', _⟩, _⟩ := I.loc
      exact ⟨o', by rw [ne]; exact e'⟩
    · exact there b q ne
  · by_cases hb : b ∈ frs G.stk
    · obtain ⟨sl, e1⟩ := slot b o e hb
      exact ⟨_, e1⟩
    · exact ⟨o, keep b o e q hb⟩
end
/-- what a generator def promises: n items, the i-th one as «it» says, read in the tuples of the heap of its making -/
abbrev SpI := List V → Hp → Nat → (Nat → V → Prop) → Prop
def GMk (P : Program) (w : World) (K : PySem.W.Frag) (base : Heap) (A : Around) (outer : List Env) (s : Shared) (H : Hp) (n : Nat) (it : Nat → V → Prop) (u : Value) (s' : Shared) : Prop :=
  ∃ (G : Gs) (fp : List Addr), u = .ref G.a ∧ (G.P = P ∧ G.w = w ∧ G.K = K ∧ G.base = base ∧ G.A = A ∧ G.stk = outer ∧ G.H1 = H ∧ G.n = n ∧ G.it = it) ∧ Slp G 0 fp s' ∧ s'.os = s.os ∧ AllBare s'.gens ∧ (∀ b o, s.heap.get? b = some o → s'.heap.get? b = some o) ∧ (∀ b ∈ fp, s.heap.objs.size ≤ b) ∧
    (∀ h : Heap, h.get? G.a = some G.go → h.IsGen G.a G.g) ∧ A.handled = none ∧ A.depth < recursionLimit
structure GFnG (P : Program) (w : World) (K : PySem.W.Frag) (mg : Str → Option Value) (base : Heap) (k : Nat) (f : Addr) (fd : FuncData) (ps : List Str) (sp : SpI) : Prop where
  len : ∀ vs H n it, sp vs H n it → vs.length = ps.length
  run : ∀ (A : Around) (outer : List Env) (s : Shared) (H : Hp) (args : Args) (us : List Value) (vs : List V) (n : Nat) (it : Nat → V → Prop), Room k A → Env0 P w K mg base A outer s H → BindsTo s fd args (ps.zip us) → Vals vs us → sp vs H n it →
    codeAny (model P w) A (.call (.ref f) args) (fun r s' => match r with | .ok (.ret u) => GMk P w K base A outer s H n it u s' | _ => False) s
/-- a generator def, by its body. x: the one name under which it keeps a list of its own -/
theorem gfnG_of {P : Program} {w : World} {K : PySem.W.Frag} {mg : Str → Option Value} {base : Heap} {k : Nat} {f : Addr} {name qual : Str} {params : Arguments} {body : List Stmt} {scope : Scope} {dV kV doc pm cdv ct oc : Value} {an od : Option Addr}
    {osl : Array (Option Value)} {N ps : List Str} {sp : SpI} (x : Str) (lk : K.lookup f = some ⟨oc, od, .func (PySem.W.fnOf name qual params body scope dV kV doc pm an cdv ct), osl⟩) (hcd : PySem.W.codeIn K cdv qual = true) (C : NoCells scope) (hpre : N.take ps.length = ps) (hnd : N.Nodup)
    (hpar : ∀ y ∈ ps, scope.names.lookup y = some .local) (hx : x ∉ ps) (len : ∀ vs H n it, sp vs H n it → vs.length = ps.length)
    (hbody : ∀ (G : Gs) (vs : List V) (own : List (Addr × Obj)) (sn : Shared), G.P = P → G.w = w → G.K = K → G.base = base → G.x = x → GStat G mg → Room k (G.A.in1.deeper (envOfC qual scope G.F f cdv)) → sp vs G.H1 G.n G.it → Wk G own sn → (G.a, G.go) ∈ own →
      (∀ b, ¬ (OwnF x sn.heap G.F b ∧ b ≠ G.F)) → Inv (cxG G mg N qual scope f cdv (Hw0 G sn) sn) [] (L2.start N vs) (Hw0 G sn) sn →
      Seg (model G.P G.w) G.A.in1 (GRe G) (GYp G) G.n sn (.func body (envOfC qual scope G.F f cdv)) ((model G.P G.w).den (.func body (envOfC qual scope G.F f cdv))) [] sn) :
    GFnG P w K mg base (k + 2) f (PySem.W.fnOf name qual params body scope dV kV doc pm an cdv ct) ps sp := by
  refine ⟨len, fun A outer s H args us vs n it hr e0 hb r hsp => ?_⟩
  have hl := len _ _ _ _ hsp
  have KX : K.In s.heap := e0.mod.kin.keeps fun b o e => (e0.bs b o e).1
  have lim : s.heap.NoLimit := e0.mod.nolimit.keeps fun b o e => (e0.bs b o e).1
  have hkind : ∀ y ∈ ps.zip us, scope.names.lookup y.1 = some .local ∨ (scope.names.lookup y.1 = some .cell ∧ ((cellsFrom (s.heap.objs.size + 1) scope.names []).lookup y.1).isSome = true) := fun ⟨n, v⟩ hy => .inl (hpar n (List.of_mem_zip hy).1)
  refine codeAny_call_generator hr.depth (KX _ _ lk) rfl C.co C.gen rfl (PySem.W.codeRec_of KX hcd) (hb _ _ _ _ ?_)
  refine wpAny_newFunctionEnv_cells C.kind hkind fun env he s1 xx => ?_
  subst he
  have lim1 : s1.heap.NoLimit := lim.keeps xx.toInCall.keep
  refine ⟨lim1, ?_⟩
  obtain ⟨h1, tk, es1, hk1⟩ := xx.done
  have os1 : s1.os = s.os := by rw [es1]
  have gen1 : s1.gens = s.gens := by rw [es1]
  have lt1 : s.heap.objs.size < s1.heap.objs.size := xx.toInCall.ns.lt
  have kp1 : ∀ b o, s.heap.get? b = some o → s1.heap.get? b = some o := xx.toInCall.keep
  have main : ∀ (go : Obj) (nm qn : Value) (tk2 : Nat), go.cls = .type "generator" → go.data = .fields #[.int s1.gens.size 0, nm, qn] → go.slots = #[] → (∀ h : Heap, (h.push go).get? h.objs.size = some go) →
      GMk P w K base A outer s H n it (.ref s1.heap.objs.size) { s1 with gens := s1.gens.push (.fresh (.func body (envOfC qual scope s.heap.objs.size f cdv))), toks := tk2, heap := s1.heap.push go } := by
    intro go nm qn tk2 hgc hgd0 hgs hgp
    have hns := xx.toInCall.ns
    obtain ⟨fo, fes, fep, hfo, hfd, hfr⟩ := id hns
    have hfo2 : (s1.heap.push go).get? s.heap.objs.size = some fo := Heap.get?_push_of_some _ hfo
    have ng : ∀ v, go.data ≠ .cell v := fun v q => by rw [hgd0] at q; cases q
    have nF : ∀ v, fo.data ≠ .cell v := fun v q => by rw [hfd] at q; cases q
    have ownE : ∀ (h : Heap) (b : Addr), h.get? s.heap.objs.size = some fo → OwnF x h s.heap.objs.size b → b = s.heap.objs.size := fun h b e q => by
      rcases q with q | ⟨m, hm, hmx⟩
      · exact q
      · have hn2 : h.Ns s.heap.objs.size _ := ⟨fo, fes, fep, e, hfd, hfr⟩
        have := hn2.agree hm x
        rw [hmx, bindL_out fun v hv => hx (List.of_mem_zip hv).1] at this
        cases this
    refine ⟨⟨P, w, K, base, A, outer, s.heap.objs.size, s1.heap.objs.size, s1.gens.size, go, x, H, n, it⟩, [s1.heap.objs.size, s.heap.objs.size], rfl, ⟨rfl, rfl, rfl, rfl, rfl, rfl, rfl, rfl, rfl⟩,
      ⟨_, [(s1.heap.objs.size, go), (s.heap.objs.size, fo)], Array.getElem?_push_size .., rfl, List.mem_cons_self, fun p hp => ?_, fun b hb => ?_, .inl rfl, fun sn W => ⟨rfl, ?_⟩⟩, os1, ?_, fun b o e => Heap.get?_push_of_some _ (kp1 b o e), fun b hb => ?_, fun h e => ⟨go, nm, qn, e, hgc, hgd0, hgs⟩, hr.hd, hr.depth⟩
    · rcases List.mem_cons.mp hp with z | z
      · rw [z]; exact ⟨hgp _, ng⟩
      · rw [List.mem_singleton.mp z]
        exact ⟨hfo2, nF⟩
    · rw [ownE _ b hfo2 hb]
      exact List.mem_cons_of_mem _ List.mem_cons_self
    · have S : GStat ⟨P, w, K, base, A, outer, s.heap.objs.size, s1.heap.objs.size, s1.gens.size, go, x, H, n, it⟩ mg := by
        refine ⟨e0.mod, e0.bsz, fun b o e => (e0.bs b o e).2, fun b hb => ⟨?_, e0.frf b hb⟩, e0.frames, hr.hd, fun b xs r => ?_, lt1, ng⟩
        · obtain ⟨_, o, ho, _⟩ := e0.funs.mem hb
          exact Heap.lt_size ho
        · exact (r.ok e0.hok).lt
      have eF : sn.heap.get? s.heap.objs.size = some fo := W.own (s.heap.objs.size, fo) (List.mem_cons_of_mem _ List.mem_cons_self)
      refine hbody ⟨P, w, K, base, A, outer, s.heap.objs.size, s1.heap.objs.size, s1.gens.size, go, x, H, n, it⟩ vs [(s1.heap.objs.size, go), (s.heap.objs.size, fo)] sn rfl rfl rfl rfl rfl S ((hr.in1).deeper _) hsp W List.mem_cons_self (fun b z => z.2 (ownE _ b eF z.1)) ?_
      refine inv_wake S C W (fun _ _ => rfl) Hw0_F (Hw0_ok W) (m := bindL (envOfC qual scope s.heap.objs.size f cdv).kindOf (ps.zip us) fun _ => none) ⟨fo, fes, fep, eF, hfd, hfr⟩ ?_ fun i y v h1 h2 => ?_
      · unfold L2.start
        have := congrArg List.length hpre
        rw [List.length_take] at this
        rw [List.length_append, List.length_map, List.length_replicate]
        omega
      · have hi : i < vs.length := by
          unfold L2.start at h2
          by_cases hi : i < vs.length
          · exact hi
          · rw [List.getElem?_append_right (by simpa using hi), List.getElem?_replicate] at h2
            split at h2 <;> cases h2
        have ha : vs[i]? = some v := by
          unfold L2.start at h2
          rw [List.getElem?_append_left (by simpa using hi), List.getElem?_map] at h2
          cases e : vs[i]? with
          | none => rw [e] at h2; cases h2
          | some a => rw [e] at h2; cases h2; rfl
        obtain ⟨u, hu, rv⟩ := r.get ha
        have hp : ps[i]? = some y := by
          rw [← hpre, List.getElem?_take_of_lt (by omega)]; exact h1
        have ndP : ps.Nodup := by rw [← hpre]; exact hnd.sublist (List.take_sublist _ _)
        have k := hpar y (List.mem_of_getElem? hp)
        exact ⟨u, rv, bindL_get ndP hp hu k, k⟩
    · exact AllBare.push (by rw [gen1]; exact e0.bare) rfl
    · rcases List.mem_cons.mp hb with z | z
      · rw [z]; exact Nat.le_of_lt lt1
      · rw [List.mem_singleton.mp z]; exact Nat.le_refl _
  exact main _ _ _ _ rfl rfl rfl fun h => Heap.get?_push_size _ rfl
section
variable {X : Cx} {k : Nat} {f : Addr} {fd : FuncData} {ps : List Str} {sp : SpI} {x : Str} {p pos' : Pos} {e : Expr} {es : List Expr} {t : TA}
def iGen (sp : SpI) (t : TA) : TI := fun σ H R => t σ H fun vs H1 => ∃ n it, sp vs H1 n it ∧ ∀ G : Gs, G.H1 = H1 → G.n = n → G.it = it → R (Itg G) H1
/-- f(e, ..) of a generator def, walked -/
theorem pig_call (F : GFnG X.prog X.w X.K X.mg X.base k f fd ps sp) (hr : Room k X.A) (hg : Gl X x) (hm : X.mg x = some (.ref f)) (hk : PySem.W.keepIn X.K (.ref f) = true) (hb : Binds X.K fd ps [])
    (ha : PA X (e :: es) t) (hdb : (x == ("__debug__" : Str)) = false := by decide) (he : starEach (e :: es) X.env = (false, eval e X.env) :: starEach es X.env := by rfl) (hpl : (backTo pos' (starEach es X.env)).any (·.1) = false := by rfl) :
    PIG X (.Call (.Name x p) (e :: es) [] pos') (iGen sp t) := by
  refine ⟨fun pins s σ H R I h => ?_⟩
  refine wpAny_Call_Name_kw (ld_glob I hg hm ?_ hdb)
  refine PySem.W.callWith_K (h₀ := X.base) I.ok.mod.kin hk (thn (ha.run pos' pins s σ H _ I h) fun us s1 ⟨vs, H1, I1, r, n, it, hsp, q⟩ => ⟨I1.kIn, ?_⟩) he hpl
  have hl2 : us.length = ps.length := by rw [← r.length]; exact F.len _ _ _ _ hsp
  refine wpAny_call (codeAny_mono (F.run X.A X.stack s1 H1 ⟨us, []⟩ us vs n it hr I1.env0 (by have := hb s1 us I1.kIn (by rw [List.append_nil]; exact hl2); rw [List.append_nil] at this; exact this) r hsp) fun r s' hq => ?_)
  cases r with
  | error e => exact False.elim hq
  | ok fl =>
    cases fl with
    | next => exact False.elim hq
    | brk => exact False.elim hq
    | cont => exact False.elim hq
    | ret u =>
      obtain ⟨G, fp, rfl, ⟨e1, e2, e3, e4, e5, e6, e7, e8, e9⟩, st, hos, hba, kp, hfp, hgen, hh, hd⟩ := hq
      have O : GOk G X := ⟨e1.symm, e2.symm, e3.symm, e4.symm, e5.symm, e6.symm, by rw [e5]; exact hh, by rw [e5]; exact hd, hgen⟩
      have I2 : Inv X pins σ H1 s' := I1.call' (ch := []) hos (Un.kept kp) (I1.hok.kept kp) hba fun b z => by simp at z
      refine wpAny_pyIter_gen (st.gen O) ⟨G, fp, H1, rfl, O, I2, st, fun b hb => ?_, q G e7 e8 e9⟩
      exact I1.fpOk (hfp b hb) (I1.hok.fresh (hfp b hb))
end
end GenF
/-! the forms one uses -/
namespace GenF
open PySem PySem.Spec PyProof.Rows GenW L2
theorem walk_gen {G : Gs} : Walk (Itg G) G.n (fun H => TK G.H1 H) (fun i H x H' => H' = H ∧ G.it i x) :=
  ⟨fun i _ hi q => ⟨hi, q⟩, fun _ q => ⟨rfl, q⟩, fun _ _ _ _ _ _ y => y⟩
theorem walk_genE {G : Gs} {H1 : Hp} {n : Nat} {it : Nat → V → Prop} (e1 : G.H1 = H1) (e2 : G.n = n) (e3 : G.it = it) : Walk (Itg G) n (fun H => TK H1 H) (fun i H x H' => H' = H ∧ it i x) := by
  subst e1 e2 e3
  exact walk_gen
/-- a generator def that may be called by its name -/
structure CalG (P : Program) (w : World) (K : PySem.W.Frag) (mg : Str → Option Value) (base : Heap) (k : Nat) (x : Str) (sp : SpI) : Prop where
  ex : ∃ (f : Addr) (fd : FuncData) (ps : List Str), GFnG P w K mg base k f fd ps sp ∧ mg x = some (.ref f) ∧ PySem.W.keepIn K (.ref f) = true ∧ Binds K fd ps []
theorem GFnG.mono {P : Program} {w : World} {K : PySem.W.Frag} {mg : Str → Option Value} {base : Heap} {j k : Nat} {f : Addr} {fd : FuncData} {ps : List Str} {sp : SpI} (F : GFnG P w K mg base j f fd ps sp) (h : j ≤ k) : GFnG P w K mg base k f fd ps sp :=
  ⟨F.len, fun A outer s H args us vs n it hr => F.run A outer s H args us vs n it (hr.mono h)⟩
section
variable {X : Cx}
theorem pig_c {j k : Nat} {x : Str} {sp : SpI} {p pos' : Pos} {e : Expr} {es : List Expr} {t : TA} (c : CalG X.prog X.w X.K X.mg X.base k x sp) (hr : Room j X.A) (hk : k ≤ j) (hg : Gl X x) (ha : PA X (e :: es) t) (hdb : (x == ("__debug__" : Str)) = false := by decide)
    (he : starEach (e :: es) X.env = (false, eval e X.env) :: starEach es X.env := by rfl) (hpl : (backTo pos' (starEach es X.env)).any (·.1) = false := by rfl) : PIG X (.Call (.Name x p) (e :: es) [] pos') (iGen sp t) := by
  obtain ⟨f, fd, ps, F, m, kp, b⟩ := c
  exact pig_call (F.mono hk) hr hg m kp b ha hdb he hpl
theorem PS.nox {st : Stmt} {t : TS} (h : PS X.nox st t) : PS X st t := ⟨fun pins s σ H D I hw =>
  wpAny_mono (h.run pins s σ H D (I.wish _) hw) (fun _ _ q => q.unwish) fun _ _ z => False.elim z⟩
end
end GenF
namespace PK
open PySem L2
def topS (i : Nat) : Stmt := PySem.Challenge.pw_passproven_k05_filling.main.body.getD i (.Pass ⟨0, 0, 0, 0⟩)
/-- xs[j] of a name -/
theorem vIx {K : PySem.W.Frag} {σ : L2.St} {H : Hp} {Q : VK} {i : Nat} {p : Addr} {xs : List V} {j : Int} {v : V} (h : σ[i]? = some (some (.ref p))) (hl : H p = some (.lst xs)) (ha : atI xs j = some v) (q : Q v H) :
    tOp (rIxL K) (tVar i) (tC (.int j)) σ H Q := ⟨_, h, p, xs, j, v, rfl, rfl, SqL.of hl, ha, q⟩
structure Txt (K : PySem.W.Frag) (mg : Str → Option Value) : Prop where
  z_len : mg "len" = none
  z_int : mg "int" = none
  z_range : mg "range" = none
  z_min : mg "min" = none
  z_str : mg "str" = none
  z_tuple : mg "tuple" = none
  z_sorted : mg "sorted" = none
  z_isinstance : mg "isinstance" = none
  z_any : mg "any" = none
  z_all : mg "all" = none
  z_list : mg "list" = none
  z_bool : mg "bool" = none
/-- all but what stands at l is as it was -/
def Keep (l : Addr) (H H' : Hp) : Prop := ∀ b o, b ≠ l → H b = some o → H' b = some o
def PoolR (H : Hp) (l c : Addr) (pos : Prop) : Prop := ∃ (ns : List Int) (i r s : Int), H l = some (.lst [.ref c, .int i, .int r, .int s]) ∧ H c = some (.lst (ns.map V.int)) ∧ c ≠ l ∧ (∀ n ∈ ns, 0 ≤ n) ∧ 0 ≤ i ∧ 0 ≤ r ∧ 0 ≤ s ∧ s < 2147483647 ∧ (pos → 0 < r)
abbrev Pool (H : Hp) (l c : Addr) : Prop := PoolR H l c False
/-- from H to H' the pool at l was drawn from, all else is kept -/
structure Ext (l c : Addr) (H H' : Hp) : Prop where
  keep : Keep l H H'
  pool : Pool H' l c
theorem Pool.ne {H : Hp} {l c p : Addr} (P : Pool H l c) (h : H p = none) : p ≠ l ∧ p ≠ c := by
  obtain ⟨ns, i, r, s, hl, hc, _⟩ := P
  exact ⟨(ne_of_none hl h).symm, (ne_of_none hc h).symm⟩
theorem Pool.upd {H : Hp} {l c p : Addr} {o : HO} (P : Pool H l c) (h1 : p ≠ l) (h2 : p ≠ c) : Pool (upd H p o) l c := by
  obtain ⟨ns, i, r, s, hl, hc, z⟩ := P
  exact ⟨ns, i, r, s, by rw [upd_ne h1.symm]; exact hl, by rw [upd_ne h2.symm]; exact hc, z⟩
theorem Ext.refl {l c : Addr} {H : Hp} (P : Pool H l c) : Ext l c H H := ⟨fun _ _ _ h => h, P⟩
theorem Ext.trans {l c : Addr} {H H1 H2 : Hp} (x : Ext l c H H1) (y : Ext l c H1 H2) : Ext l c H H2 := ⟨fun b o hb h => y.keep b o hb (x.keep b o hb h), y.pool⟩
/-- what was free ahead of the draws was free -/
theorem Ext.free {l c p : Addr} {H H' : Hp} (x : Ext l c H H') (P : Pool H l c) (h : H' p = none) : H p = none := by
  cases e : H p with
  | none => rfl
  | some o =>
    by_cases hb : p = l
    · subst hb
      obtain ⟨ns, i, r, s, hl, _⟩ := x.pool
      rw [hl] at h; cases h
    · rw [x.keep p o hb e] at h; cases h
theorem Ext.upd {l c p : Addr} {H H' : Hp} {o : HO} (x : Ext l c H H') (P : Pool H l c) (h : H p = none) : Ext l c H (L2.upd H' p o) :=
  ⟨fun b u hb hu => by rw [upd_ne (ne_of_none hu h)]; exact x.keep b u hb hu, x.pool.upd (P.ne h).1 (P.ne h).2⟩
theorem Ext.new {l c p : Addr} {H H' : Hp} {o : HO} (x : Ext l c H H') (P : Pool H l c) (h : H' p = none) : Ext l c H (L2.upd H' p o) := x.upd P (x.free P h)
theorem Ext.seqT {l c a : Addr} {K : PySem.W.Frag} {H H' : Hp} {xs : List V} (x : Ext l c H H') (P : Pool H l c) (h : SqT K H a xs) : SqT K H' a xs := by
  have nl : ∀ {o : HO}, H a = some o → (∀ ys, o ≠ .lst ys) → a ≠ l := fun e d z => by
    subst z
    obtain ⟨ns, i, r, s, hl, _⟩ := P
    rw [hl] at e; cases e
    exact d _ rfl
  rcases h with (h | ⟨o, h⟩) | h
  · exact .inl (.inl (x.keep _ _ (nl h (fun _ => HO.noConfusion)) h))
  · exact .inl (.inr ⟨o, x.keep _ _ (nl h (fun _ => HO.noConfusion)) h⟩)
  · exact .inr h
def spTake (n : Nat) : Sp := fun vs H Q _ => ∃ (l c : Addr) (m : Int) (p : Prop), vs = [.ref l, .int m] ∧ PoolR H l c p ∧ 0 < m ∧ m < 18446744073709551616 ∧ (2 ≤ n ∨ (1 ≤ n ∧ p)) ∧
  ∀ (d : Int) (H' : Hp), 0 ≤ d → d < m → Ext l c H H' → Q (.int d) H'
theorem vTake {σ : L2.St} {H : Hp} {Q : VK} {i : Nat} {m : Int} {l c : Addr} (h : σ[i]? = some (some (.ref l))) (P : Pool H l c) (h0 : 0 < m) (hm : m < 18446744073709551616)
    (q : ∀ (d : Int) (H' : Hp), 0 ≤ d → d < m → Ext l c H H' → Q (.int d) H') : tCall (spTake 2) [] E0 (tCons (tVar i) (tCons (tC (.int m)) tNil)) σ H Q :=
  ⟨_, h, l, c, m, False, rfl, P, h0, hm, .inl (Nat.le_refl 2), q⟩
section
variable {P : Program} {w : World} {K : PySem.W.Frag} {mg : Str → Option Value} {base : Heap}
abbrev s_law_take : Stmt := topS 16
theorem sc_law_take : FnScope ["pool", "many", "digit", "cell", "mixed"] ["pool", "many"] (defScope s_law_take) := ⟨rfl, rfl, rfl, by decide +kernel, rfl, by decide +kernel, by decide +kernel⟩
-- slots: 0:pool 1:many 2:digit 3:cell 4:mixed
theorem ok_take {n : Nat} {f : Addr} {fd : FuncData} (F : Fun K "_law_take" "_law_take" s_law_take f fd) (T : Txt K mg) (C_law_take : C8.Cal P w K mg base n "_law_take" (spTake n) []) :
    FnOk P w K mg base CX0 (n + 1) f fd ["pool", "many"] (spTake (n + 1)) := by
  refine F.ok sc_law_take (fun vs H Q E h => ?_) (fun cdv A outer s H vs Q E hr h => ?_)
  · obtain ⟨l, c, m, p, rfl, _⟩ := h
    rfl
  obtain ⟨l, c, m, p, rfl, ⟨ns, i, r, st, hl, hc, hcl, hns, hi, h0r, hs, hs2, hp⟩, hm, hm2, hn, q⟩ := h
  have hk : n ≤ n := Nat.le_refl n
  refine ⟨_, (pss_cons (ps_if (pt_cmpR op_gt (pe_ix ix_list (pv 0) pe_int (fun _ _ => rfl)) pe_int (nomark _)) (pss_cons (ps_set (i := 2) sc_law_take.nd rfl (Or.inl rfl) (pe_op op_mod (pe_callTy call_int1 (by rfl) T.z_int (by decide +kernel) (pa_cons (pe_ix ix_list (pv 0) pe_int (fun _ _ => rfl)) pa_nil)) (pv 1)))
    (pss_cons (ps_asg (pe_op op_fdivW (pe_ix ix_list (pv 0) pe_int (fun _ _ => rfl)) (pv 1)) (pg_sub (pv 0) pe_int set_list))
    (pss_one (ps_ret (pv 2))))) pss_nil)
    (pss_cons (ps_set (i := 3) sc_law_take.nd rfl (Or.inl rfl) pe_int)
    (C8.pss_cut (ps_if (pt_cmpR op_lt (pe_ix ix_list (pv 0) pe_int (fun _ _ => rfl)) (pe_callB call_len_seq (by rfl) T.z_len (by decide +kernel) (pa_cons (pe_ix ix_list (pv 0) pe_int (fun _ _ => rfl)) pa_nil)) (nomark _)) (pss_one (ps_set (i := 3) sc_law_take.nd rfl (Or.inl rfl) (pe_ix ix_list (pe_ix ix_list (pv 0) pe_int (fun _ _ => rfl)) (pe_ix ix_list (pv 0) pe_int (fun _ _ => rfl)) (fun _ _ => rfl)))) pss_nil)
    (pss_cons (ps_asg (pe_op op_add (pe_ix ix_list (pv 0) pe_int (fun _ _ => rfl)) pe_int) (pg_sub (pv 0) pe_int set_list))
    (pss_cons (ps_if (pt_cmpR op_ge (pv 3) (pe_op op_pow pe_int pe_int) (nomark _)) (pss_cons (ps_asg (pe_op op_fdivW (pv 3) pe_int) (pg_sub (pv 0) pe_int set_list))
    (pss_one (ps_ret (C8.pe_c C_law_take hr hk rfl (pa_cons (pv 0) (pa_cons (pv 1) pa_nil)))))) pss_nil)
    (pss_cons (ps_asg (pe_op op_mod (pe_callTy call_int1 (by rfl) T.z_int (by decide +kernel) (pa_cons (pe_op op_add (pe_op op_add (pe_op op_mul (pe_ix ix_list (pv 0) pe_int (fun _ _ => rfl)) pe_int) (pe_op op_mul (pv 3) pe_int)) (pe_op op_mul (pe_ix ix_list (pv 0) pe_int (fun _ _ => rfl)) pe_int)) pa_nil)) pe_int) (pg_sub (pv 0) pe_int set_list))
    (pss_cons (ps_set (i := 4) sc_law_take.nd rfl (Or.inl rfl) (pe_op op_mod (pe_callTy call_int1 (by rfl) T.z_int (by decide +kernel) (pa_cons (pe_op op_add (pe_op op_add (pe_op op_mul (pe_ix ix_list (pv 0) pe_int (fun _ _ => rfl)) (pe_ix ix_list (pv 0) pe_int (fun _ _ => rfl))) (pe_op op_mul (pe_ix ix_list (pv 0) pe_int (fun _ _ => rfl)) pe_int)) pe_int) pa_nil)) pe_int))
    (pss_one (ps_ret (pe_op op_mod (pe_callTy call_int1 (by rfl) T.z_int (by decide +kernel) (pa_cons (pe_op op_fdivW (pv 4) pe_int) pa_nil)) (pv 1))))))))))), ?_⟩
  have lgm : m.natAbs.log2 < 9000 := (wide_div (i := 0) (b := 64) hm (by rw [show (2 : Nat) ^ 64 = 18446744073709551616 from rfl]; omega) (by decide) (by decide)).2
  have lg2 : (2 : Int).natAbs.log2 < 9000 := by decide
  have ext : ∀ i' r' s' : Int, 0 ≤ i' → 0 ≤ r' → 0 ≤ s' → s' < 2147483647 → ∀ pp : Prop, (pp → 0 < r') → Keep l H (upd H l (.lst [.ref c, .int i', .int r', .int s'])) ∧ PoolR (upd H l (.lst [.ref c, .int i', .int r', .int s'])) l c pp := fun i' r' s' h1 h2 h3 h4 pp hpp =>
    ⟨fun b o hb hbo => by rw [upd_ne hb]; exact hbo, ns, i', r', s', upd_same, by rw [upd_ne hcl]; exact hc, hcl, hns, h1, h2, h3, h4, hpp⟩
  -- pool[2] > 0
  refine vIx rfl hl rfl ⟨_, _, rfl, rfl, _, rfl, ?_⟩
  refine ite2 (fun e => ?_) (fun e => ?_)
  · have e' : 0 < r := of_decide_eq_true e
    refine ⟨_, rfl, l, _, _, _, rfl, rfl, SqL.of hl, rfl, .inl ⟨_, rfl, _, rfl, _, _, rfl, rfl, hm, ?_⟩⟩
    refine vIx rfl hl rfl ⟨_, rfl, _, _, rfl, rfl, ⟨hm, lgm⟩, ?_⟩
    refine ⟨_, rfl, l, _, 2, 2, rfl, rfl, hl, rfl, _, rfl, ?_⟩
    have z := ext i (r / m) st hi (Int.ediv_nonneg h0r (by omega)) hs hs2 False False.elim
    exact q _ _ (Int.emod_nonneg _ (by omega)) (Int.emod_lt_of_pos _ hm) ⟨z.1, z.2⟩
  · have e0 : r = 0 := by have := of_decide_eq_false (Bool.eq_false_iff.mpr e); omega
    subst e0
    have n2 : 1 ≤ n := by
      rcases hn with hn | ⟨_, hn⟩
      · omega
      · exact absurd (hp hn) (by omega)
    refine ⟨fun σ' H' => ∃ z : Int, 0 ≤ z ∧ σ' = [some (.ref l), some (.int m), none, some (.int z), none] ∧ H' = H, ?_, ?_⟩
    · refine vIx rfl hl rfl (vIx rfl hl rfl ⟨c, _, rfl, .inl (SqL.of hc), _, _, rfl, rfl, _, rfl, ?_⟩)
      refine ite2 (fun e1 => ?_) (fun e1 => ⟨0, by omega, rfl, rfl⟩)
      have e1' : i < ((ns.map V.int).length : Nat) := of_decide_eq_true e1
      rw [List.length_map] at e1'
      obtain ⟨j, rfl⟩ : ∃ j : Nat, i = j := ⟨i.toNat, by omega⟩
      have hj : j < ns.length := by omega
      have g : (ns.map V.int)[j]? = some (.int ns[j]) := by rw [List.getElem?_map, List.getElem?_eq_getElem hj]; rfl
      refine vIx rfl hl rfl (vIx rfl hl rfl ⟨c, _, _, _, rfl, rfl, SqL.of hc, atI_nat g, ?_⟩)
      exact ⟨_, hns _ (List.getElem_mem hj), rfl, rfl⟩
    · rintro σ' H' ⟨z, hz, rfl, rfl⟩
      refine vIx rfl hl rfl ⟨_, _, rfl, rfl, _, rfl, l, _, 1, 1, rfl, rfl, hl, rfl, ?_⟩
      refine ⟨_, rfl, _, _, rfl, rfl, ⟨by decide, by decide, by decide⟩, _, _, rfl, rfl, _, rfl, ?_⟩
      refine ite2 (fun e1 => ?_) (fun e1 => ?_)
      · have e1' : (10 : Int) ^ 18 ≤ z := of_decide_eq_true e1
        refine ⟨_, rfl, _, _, rfl, rfl, ⟨by decide, lg2⟩, _, rfl, l, _, 2, 2, rfl, rfl, upd_same, rfl, ?_⟩
        refine ⟨_, rfl, _, rfl, ?_⟩
        have zz := ext (i + 1) (z / 2) st (by omega) (Int.ediv_nonneg hz (by omega)) hs hs2 True (fun _ => by omega)
        refine ⟨l, c, m, True, rfl, ?_, hm, hm2, .inr ⟨n2, trivial⟩, fun d H' h1 h2 x => q d H' h1 h2 ⟨?_, x.pool⟩⟩
        · show PoolR (upd (upd H' l _) l _) l c True
          rw [upd_upd]
          exact zz.2
        · intro b o hb hbo
          refine x.keep b o hb ?_
          show upd (upd _ l _) l _ b = _
          rw [upd_upd, upd_ne hb]
          exact hbo
      · have c1 : CMul st 48271 := .inr ⟨by decide, by decide⟩
        have c2 : CMul z 69621 := .inr ⟨by decide, by decide⟩
        have c3 : CMul (i + 1) 613 := .inr ⟨by decide, by decide⟩
        refine vIx rfl upd_same rfl ⟨_, _, rfl, rfl, c1, _, rfl, _, _, rfl, rfl, c2, _, _, rfl, rfl, vIx rfl upd_same rfl ⟨_, _, rfl, rfl, c3, _, _, rfl, rfl, .inl ⟨_, rfl, _, _, rfl, rfl, (show (0 : Int) < 2147483647 by decide), ?_⟩⟩⟩
        refine ⟨_, rfl, l, _, 3, 3, rfl, rfl, upd_same, rfl, ?_⟩
        have b1 : 0 ≤ (st * 48271 + z * 69621 + (i + 1) * 613) % 2147483647 := Int.emod_nonneg _ (by decide)
        have b2 : (st * 48271 + z * 69621 + (i + 1) * 613) % 2147483647 < 2147483647 := Int.emod_lt_of_pos _ (by decide)
        have c4 : CMul ((st * 48271 + z * 69621 + (i + 1) * 613) % 2147483647) ((st * 48271 + z * 69621 + (i + 1) * 613) % 2147483647) := .inr ⟨by omega, by omega⟩
        have c5 : CMul ((st * 48271 + z * 69621 + (i + 1) * 613) % 2147483647) 7919 := .inr ⟨by decide, by decide⟩
        refine vIx rfl upd_same rfl (vIx rfl upd_same rfl ⟨_, _, rfl, rfl, c4, vIx rfl upd_same rfl ⟨_, _, rfl, rfl, c5, _, _, rfl, rfl, _, _, rfl, rfl, .inl ⟨_, rfl, _, _, rfl, rfl, (show (0 : Int) < 1000000007 by decide), ?_⟩⟩⟩)
        have c6 : CDivW ((((st * 48271 + z * 69621 + (i + 1) * 613) % 2147483647) * ((st * 48271 + z * 69621 + (i + 1) * 613) % 2147483647) + ((st * 48271 + z * 69621 + (i + 1) * 613) % 2147483647) * 7919 + 104729) % 1000000007) 3 := ⟨by decide, by decide⟩
        refine ⟨_, rfl, _, _, rfl, rfl, c6, .inl ⟨_, rfl, _, rfl, _, _, rfl, rfl, hm, ?_⟩⟩
        have zz := ext (i + 1) 0 ((st * 48271 + z * 69621 + (i + 1) * 613) % 2147483647) (by omega) (by omega) b1 b2 False False.elim
        refine q _ _ (Int.emod_nonneg _ (by omega)) (Int.emod_lt_of_pos _ hm) ⟨?_, ?_⟩
        · show Keep l _ (upd (upd _ l _) l _)
          rw [upd_upd]
          exact zz.1
        · show Pool (upd (upd _ l _) l _) l c
          rw [upd_upd]
          exact zz.2
end
end PK
namespace PK
open PySem L2
/-! ### words -/
abbrev LET : Str := "abcdefghijklmnopqrstuvwxyz"
abbrev OTH : Str := "abcdefghijklmnopqrstuvwxyz0123456789_"
abbrev BARRED : List Str := ["get", "set", "plus", "minus", "new", "read", "write", "put"]
theorem let_len : LET.cps.toList.length = 26 := by decide +kernel
theorem oth_len : OTH.cps.toList.length = 37 := by decide +kernel
theorem line_big : (16777216 : Nat) ≤ sizeLine := by rw [sizeLine_eq]; decide
theorem small {n : Nat} (h : n ≤ 16777216) : n ≤ sizeLine := Nat.le_trans h line_big
theorem smallL {n : Nat} (h : n < 16777216) : n < sizeLine := Nat.lt_of_lt_of_le h line_big
theorem len_list (z : Str) : z.length = z.cps.toList.length := by unfold Str.length; simp
theorem yes_ {A B : Hp → Prop} {σ : L2.St} {H : Hp} (h : A H) : tYes σ H fun b H3 => if b = true then A H3 else B H3 := by
  show if true = true then A H else B H
  exact iteT h
/-- a drawn sign of a text -/
theorem strAt (z : Str) {n : Nat} (hz : z.cps.toList.length = n) (hn : n ≤ 1000) {d : Int} {H : Hp} {Q : VK} (h0 : 0 ≤ d) (h1 : d < (n : Int)) (q : ∀ s : Nat, s ∈ z.cps.toList → Q (.str ⟨#[s]⟩) H) : rIxS (.str z) (.int d) H Q := by
  obtain ⟨j, rfl⟩ : ∃ j : Nat, d = j := ⟨d.toNat, by omega⟩
  have hj : j < z.cps.toList.length := by omega
  exact ⟨z, _, _, rfl, rfl, by rw [len_list, hz]; exact small (by omega), atI_nat (List.getElem?_eq_getElem hj), q _ (List.getElem_mem hj)⟩
/-- the j-th word that is tried for the k-th place -/
def cand (j k : Nat) : Str := ("w" : Str) ++ (toString (j : Int) : Str) ++ ("_" : Str) ++ (toString (k : Int) : Str)
def pre (j : Nat) : Str := ("w" : Str) ++ (toString (j : Int) : Str) ++ ("_" : Str)
theorem pre_len : ∀ j, j < 27 → (pre j).length ≤ 4 := by decide +kernel
theorem str_len : ∀ j : Nat, j < 27 → ((toString (j : Int) : String) : Str).length ≤ 2 := by decide +kernel
theorem pre_inj : ∀ i, i < 27 → ∀ j, j < 27 → pre i = pre j → i = j := by decide +kernel
theorem app_cancel {a b t : Str} (h : a ++ t = b ++ t) : a = b := by
  have e : a.cps ++ t.cps = b.cps ++ t.cps := congrArg Str.cps h
  have e2 : a.cps.toList ++ t.cps.toList = b.cps.toList ++ t.cps.toList := by
    have := congrArg Array.toList e
    simpa using this
  exact Str.ext' (Array.toList_inj.mp (List.append_cancel_right e2))
theorem cand_inj {i j k : Nat} (hi : i < 27) (hj : j < 27) (h : cand i k = cand j k) : i = j := pre_inj i hi j hj (app_cancel h)
theorem cand_len {j k : Nat} (hj : j < 27) (hk : k < 27) : (cand j k).length ≤ 6 := by
  have h1 := pre_len j hj
  have h2 := str_len k hk
  show (pre j ++ _).length ≤ 6
  rw [Str.length_append]
  omega
theorem cand_bar (j k : Nat) : cand j k ∉ BARRED := by
  have h1 : 95 ∈ (cand j k).cps.toList := by
    show 95 ∈ ((((("w" : Str).cps ++ ((toString (j : Int) : String) : Str).cps) ++ ("_" : Str).cps) ++ ((toString (k : Int) : String) : Str).cps)).toList
    have e : ("_" : Str).cps.toList = [95] := by decide +kernel
    simp only [Array.toList_append, e, List.mem_append, List.mem_singleton]
    exact .inl (.inr trivial)
  have h2 : ∀ b ∈ BARRED, 95 ∉ b.cps.toList := by decide +kernel
  exact fun m => h2 _ m h1
theorem inj_le : ∀ (l m : List Str), l.Nodup → (∀ x ∈ l, x ∈ m) → l.length ≤ m.length
  | [], _, _, _ => Nat.zero_le _
  | x :: r, m, hn, hm => by
    obtain ⟨h1, h2⟩ := List.nodup_cons.mp hn
    have hx := hm x List.mem_cons_self
    have ih := inj_le r (m.erase x) h2 fun y hy => (List.mem_erase_of_ne (fun e => h1 (by rw [← e]; exact hy))).mpr (hm y (List.mem_cons_of_mem _ hy))
    rw [List.length_erase_of_mem hx] at ih
    have : 0 < m.length := List.length_pos_of_mem hx
    rw [List.length_cons]
    omega
/-- not all of m tried words stand in a list of fewer than m -/
theorem pigeon {m k : Nat} {ws : List Str} (hm : m < 27) (hl : ws.length < m) (h : ∀ t, t < m → cand t k ∈ ws) : False := by
  have n : ((List.range m).map fun t => cand t k).Nodup := by
    rw [List.Nodup, List.pairwise_map]
    refine List.Pairwise.imp_of_mem ?_ List.nodup_range
    intro a b ha hb hab e
    exact hab (cand_inj (Nat.lt_trans (List.mem_range.mp ha) hm) (Nat.lt_trans (List.mem_range.mp hb) hm) e)
  have := inj_le _ ws n fun x hx => by
    obtain ⟨t, ht, rfl⟩ := List.mem_map.mp hx
    exact h t (List.mem_range.mp ht)
  rw [List.length_map, List.length_range] at this
  omega
theorem inV_str (u : Str) : ∀ ws : List Str, inV (.str u) (ws.map V.str) = decide (u ∈ ws)
  | [] => by simp [inV]
  | x :: r => by
    have ih := inV_str u r
    unfold inV at ih ⊢
    rw [List.map_cons, List.any_cons, ih]
    show ((x == u) || decide (u ∈ r)) = _
    by_cases e : x = u
    · subst e; simp
    · have e2 : (x == u) = false := by simpa using e
      rw [e2, Bool.false_or]
      by_cases h : u ∈ r
      · simp [h]
      · simp [h, Ne.symm e]
theorem flat_strs (ws : List Str) : (ws.map V.str).all flatV = true := by
  rw [List.all_eq_true]
  intro x hx
  obtain ⟨s, _, rfl⟩ := List.mem_map.mp hx
  rfl
/-- signs of words -/
def one (s : Nat) : Str := ⟨#[s]⟩
def Ones (ss : List Nat) : Prop := ∀ s ∈ ss, s ∈ OTH.cps.toList
theorem join_one : ∀ ss : List Nat, (Str.join "" (ss.map one)).cps.toList = ss
  | [] => rfl
  | [s] => rfl
  | s :: t :: r => by
    have ih := join_one (t :: r)
    have e : ("" : Str).cps.toList = [] := by decide +kernel
    show ((one s).cps ++ ("" : Str).cps ++ (Str.join "" ((t :: r).map one)).cps).toList = _
    rw [Array.toList_append, Array.toList_append, ih, e]
    rfl
theorem txt_join (ss : List Nat) : (Txt.join "" (ss.map one)).cps.toList = ss := by
  show (Builtin.Str.glued ("" : Str) (ss.map one)).cps.toList = ss
  rw [StrLaws.glued_eq_join]
  exact join_one ss
theorem one_sum (ss : List Nat) : ((ss.map one).map (·.length)).sum = ss.length := by
  induction ss with
  | nil => rfl
  | cons s r ih =>
    rw [List.map_cons, List.map_cons, List.sum_cons, ih, List.length_cons]
    show 1 + r.length = _
    omega
/-- a word: signs that words have, the first one a letter -/
structure Wd (x : Str) : Prop where
  lo : 1 ≤ x.length
  hi : x.length ≤ 12
  hd : ∃ s r, x.cps.toList = s :: r ∧ s ∈ LET.cps.toList
  al : ∀ s ∈ x.cps.toList, s ∈ OTH.cps.toList
theorem Wd.of {x : Str} {s : Nat} {r : List Nat} (e : x.cps.toList = s :: r) (hs : s ∈ LET.cps.toList) (ho : Ones r) (hl : r.length ≤ 11) : Wd x where
  lo := by rw [len_list, e, List.length_cons]; omega
  hi := by rw [len_list, e, List.length_cons]; omega
  hd := ⟨s, r, e, hs⟩
  al := fun z hz => by
    rw [e] at hz
    rcases List.mem_cons.mp hz with h | h
    · rw [h]
      have : ∀ s ∈ LET.cps.toList, s ∈ OTH.cps.toList := by decide +kernel
      exact this s hs
    · exact ho z h
theorem pre_wd : ∀ j, j < 27 → ∀ s ∈ (pre j).cps.toList, s ∈ OTH.cps.toList := by decide +kernel
theorem num_wd : ∀ j : Nat, j < 27 → ∀ s ∈ ((toString (j : Int) : String) : Str).cps.toList, s ∈ OTH.cps.toList := by decide +kernel
theorem pre_hd : ∀ j, j < 27 → (pre j).cps.toList[0]? = some 119 := by decide +kernel
theorem cand_wd {j k : Nat} (hj : j < 27) (hk : k < 27) : Wd (cand j k) := by
  have e : (cand j k).cps.toList = (pre j).cps.toList ++ ((toString (k : Int) : String) : Str).cps.toList := by
    show ((pre j).cps ++ ((toString (k : Int) : String) : Str).cps).toList = _
    rw [Array.toList_append]
  have h0 := pre_hd j hj
  cases e1 : (pre j).cps.toList with
  | nil => rw [e1] at h0; cases h0
  | cons s r =>
    rw [e1] at h0 e
    have hs : s = 119 := Option.some.inj h0
    refine Wd.of (s := s) (r := r ++ ((toString (k : Int) : String) : Str).cps.toList) e (by rw [hs]; decide +kernel) (fun z hz => ?_) ?_
    · rcases List.mem_append.mp hz with h | h
      · exact pre_wd j hj z (by rw [e1]; exact List.mem_cons_of_mem _ h)
      · exact num_wd k hk z h
    · have h1 := pre_len j hj
      have h2 := str_len k hk
      rw [len_list] at h1 h2
      rw [e1, List.length_cons] at h1
      rw [List.length_append]
      omega
theorem let_oth : ∀ s ∈ LET.cps.toList, s ∈ OTH.cps.toList := by decide +kernel
theorem ixN_of {n : Nat} {k : Int} (h0 : 0 ≤ k) (h1 : k < (n : Int)) : ixN n k = some k.toNat := by
  unfold ixN
  rw [if_pos h0, if_pos h1]
theorem Ones.set {row : List Nat} (h : Ones row) {s : Nat} (hs : s ∈ OTH.cps.toList) (j : Nat) : Ones (row.set j s) := fun x hx => by
  rcases List.mem_or_eq_of_mem_set hx with h1 | h1
  · exact h x h1
  · rw [h1]; exact hs
/-- the signs of a word, one of them another letter -/
theorem set_hd {s0 : Nat} {r : List Nat} (h0 : s0 ∈ LET.cps.toList) (hr : Ones r) {s : Nat} (hs : s ∈ LET.cps.toList) (j : Nat) : ∃ s1 r1, (s0 :: r).set j s = s1 :: r1 ∧ s1 ∈ LET.cps.toList ∧ Ones r1 ∧ r1.length = r.length := by
  cases j with
  | zero => exact ⟨s, r, rfl, hs, hr, rfl⟩
  | succ j => exact ⟨s0, r.set j s, rfl, h0, hr.set (let_oth _ hs) j, List.length_set ..⟩
end PK
namespace PK
open PySem L2
/-! ### data of tuples -/
mutual
inductive Dt (K : PySem.W.Frag) (H : Hp) : V → PyData → Prop
  | non : Dt K H .non .none
  | bl (b : Bool) : Dt K H (.bl b) (.bool b)
  | int (i : Int) : Dt K H (.int i) (.int i)
  | str (x : Str) : Dt K H (.str x) (.str x)
  | tup {a : Addr} {xs : List V} {ds : List PyData} : SqT K H a xs → DtAll K H xs ds → Dt K H (.ref a) (.tuple ds)
inductive DtAll (K : PySem.W.Frag) (H : Hp) : List V → List PyData → Prop
  | nil : DtAll K H [] []
  | cons {v : V} {vs : List V} {d : PyData} {ds : List PyData} : Dt K H v d → DtAll K H vs ds → DtAll K H (v :: vs) (d :: ds)
end
section
variable {K : PySem.W.Frag} {H H' : Hp}
mutual
theorem Dt.dp : ∀ (d : PyData) (v : V), Dt K H v d → Dp K H v d
  | .none, _, h => by cases h; exact .non
  | .bool _, _, h => by cases h; exact .bl _
  | .int _, _, h => by cases h; exact .int _
  | .str _, _, h => by cases h; exact .str _
  | .list _, _, h => by cases h
  | .dict _, _, h => by cases h
  | .tuple ds, _, h => by
    cases h with
    | tup s a => exact .tup s (DtAll.dp ds _ a)
theorem DtAll.dp : ∀ (ds : List PyData) (vs : List V), DtAll K H vs ds → DpAll K H vs ds
  | [], _, h => by cases h; exact .nil
  | d :: ds, _, h => by
    cases h with
    | cons h1 h2 => exact .cons (Dt.dp d _ h1) (DtAll.dp ds _ h2)
end
mutual
theorem Dt.mono (hT : ∀ a xs, SqT K H a xs → SqT K H' a xs) : ∀ (d : PyData) (v : V), Dt K H v d → Dt K H' v d
  | .none, _, h => by cases h; exact .non
  | .bool _, _, h => by cases h; exact .bl _
  | .int _, _, h => by cases h; exact .int _
  | .str _, _, h => by cases h; exact .str _
  | .list _, _, h => by cases h
  | .dict _, _, h => by cases h
  | .tuple ds, _, h => by
    cases h with
    | tup s a => exact .tup (hT _ _ s) (DtAll.mono hT ds _ a)
theorem DtAll.mono (hT : ∀ a xs, SqT K H a xs → SqT K H' a xs) : ∀ (ds : List PyData) (vs : List V), DtAll K H vs ds → DtAll K H' vs ds
  | [], _, h => by cases h; exact .nil
  | d :: ds, _, h => by
    cases h with
    | cons h1 h2 => exact .cons (Dt.mono hT d _ h1) (DtAll.mono hT ds _ h2)
end
theorem Same.seqT {a : Addr} {xs : List V} (e : Same H H') (h : SqT K H a xs) : SqT K H' a xs := by
  rcases h with (h | ⟨o, h⟩) | h
  · exact .inl (.inl (e _ _ h))
  · exact .inl (.inr ⟨o, e _ _ h⟩)
  · exact .inr h
theorem Dt.same {d : PyData} {v : V} (h : Dt K H v d) (e : Same H H') : Dt K H' v d := Dt.mono (fun _ _ q => Same.seqT e q) d v h
theorem Dt.ext {l c : Addr} {d : PyData} {v : V} (h : Dt K H v d) (P : Pool H l c) (x : Ext l c H H') : Dt K H' v d := Dt.mono (fun _ _ q => x.seqT P q) d v h
theorem same_new {p : Addr} {o : HO} (h : H p = none) : Same H (upd H p o) := fun b u e => by
  rw [upd_ne (ne_of_none e h)]
  exact e
theorem Dt.new {d : PyData} {v : V} {p : Addr} {o : HO} (h : Dt K H v d) (hp : H p = none) : Dt K (upd H p o) v d := h.same (same_new hp)
theorem Dt.s {v : V} {x : Str} (h : Dt K H v (.str x)) : v = .str x := by cases h; rfl
theorem Dt.i {v : V} {x : Int} (h : Dt K H v (.int x)) : v = .int x := by cases h; rfl
theorem Dt.t1 {v : V} {d : PyData} (h : Dt K H v (.tuple [d])) : ∃ a x, v = .ref a ∧ SqT K H a [x] ∧ Dt K H x d := by
  cases h with
  | tup s a => cases a with
    | cons h1 r => cases r; exact ⟨_, _, rfl, s, h1⟩
theorem Dt.t2 {v : V} {d e : PyData} (h : Dt K H v (.tuple [d, e])) : ∃ a x y, v = .ref a ∧ SqT K H a [x, y] ∧ Dt K H x d ∧ Dt K H y e := by
  cases h with
  | tup s a => cases a with
    | cons h1 r => cases r with
      | cons h2 r => cases r; exact ⟨_, _, _, rfl, s, h1, h2⟩
theorem Dt.t3 {v : V} {d e f : PyData} (h : Dt K H v (.tuple [d, e, f])) : ∃ a x y z, v = .ref a ∧ SqT K H a [x, y, z] ∧ Dt K H x d ∧ Dt K H y e ∧ Dt K H z f := by
  cases h with
  | tup s a => cases a with
    | cons h1 r => cases r with
      | cons h2 r => cases r with
        | cons h3 r => cases r; exact ⟨_, _, _, _, rfl, s, h1, h2, h3⟩
theorem Dt.tn {v : V} {ds : List PyData} (h : Dt K H v (.tuple ds)) : ∃ a xs, v = .ref a ∧ SqT K H a xs ∧ DtAll K H xs ds := by
  cases h with
  | tup s a => exact ⟨_, _, rfl, s, a⟩
theorem Dt.mk2 {p : Addr} {x y : V} {d e : PyData} (hp : H p = none) (h1 : Dt K H x d) (h2 : Dt K H y e) : Dt K (upd H p (.tup [x, y])) (.ref p) (.tuple [d, e]) :=
  .tup (SqT.of upd_same) (.cons (h1.new hp) (.cons (h2.new hp) .nil))
theorem Dt.mk3 {p : Addr} {x y z : V} {d e f : PyData} (hp : H p = none) (h1 : Dt K H x d) (h2 : Dt K H y e) (h3 : Dt K H z f) : Dt K (upd H p (.tup [x, y, z])) (.ref p) (.tuple [d, e, f]) :=
  .tup (SqT.of upd_same) (.cons (h1.new hp) (.cons (h2.new hp) (.cons (h3.new hp) .nil)))
theorem Dt.mk1 {p : Addr} {x : V} {d : PyData} (hp : H p = none) (h1 : Dt K H x d) : Dt K (upd H p (.tup [x])) (.ref p) (.tuple [d]) :=
  .tup (SqT.of upd_same) (.cons (h1.new hp) .nil)
end
/-- xs[j] of a name, a tuple -/
theorem vTx {K : PySem.W.Frag} {σ : L2.St} {H : Hp} {Q : VK} {i : Nat} {p : Addr} {xs : List V} {j : Int} {v : V} (h : σ[i]? = some (some (.ref p))) (hl : SqT K H p xs) (ha : atI xs j = some v) (q : Q v H) :
    tOp (rIxT K) (tVar i) (tC (.int j)) σ H Q := ⟨_, h, p, xs, j, v, rfl, rfl, hl, ha, q⟩
section
variable {s t : Str} {A B : Prop}
theorem sT (e : s = t) (h : A) : if decide (V.str s = V.str t) = true then A else B := by rw [decide_eq_true (by rw [e])]; exact iteT h
theorem sF (e : s ≠ t) (h : B) : if decide (V.str s = V.str t) = true then A else B := by rw [decide_eq_false (fun z => e (V.str.inj z))]; exact iteF h
theorem nT (e : s ≠ t) (h : A) : if (!decide (V.str s = V.str t)) = true then A else B := by rw [decide_eq_false (fun z => e (V.str.inj z))]; exact iteT h
theorem nF (e : s = t) (h : B) : if (!decide (V.str s = V.str t)) = true then A else B := by rw [decide_eq_true (by rw [e])]; exact iteF h
end
theorem Same.upd {H H' : Hp} {p : Addr} {o : HO} (e : Same H H') (h : H p = none) : Same H (L2.upd H' p o) := fun b u q => by
  rw [upd_ne (ne_of_none q h)]
  exact e _ _ q
/-- isinstance(x, T) of a name and a built-in class -/
theorem vIsi {σ : L2.St} {H : Hp} {Q : VK} {i : Nat} {v : V} {U Tn : String} {b : Bool} (h : σ[i]? = some (some v)) (ty : TyX K H v (.type U)) (kb : kitB U Tn = some b) (q : Q (.bl b) H) :
    tCB (rIsi K) (tCons (tVar i) (tCons (tC (.ty Tn)) tNil)) σ H Q := ⟨_, h, v, .ty Tn, _, _, b, rfl, .ty Tn, ty, kit_ty kb, q⟩
theorem ty_tup {H : Hp} {a : Addr} {xs : List V} (h : SqT K H a xs) : TyX K H (.ref a) (.type "tuple") := by
  rcases h with (h | ⟨o, h⟩) | ⟨o, its, n, h, hc, _⟩
  · exact .base (.tup h)
  · exact .fTuple h
  · exact .kTuple h hc
theorem ty_lst {H : Hp} {a : Addr} {xs : List V} (h : SqL K H a xs) : TyX K H (.ref a) (.type "list") := by
  rcases h with (h | ⟨o, h⟩) | ⟨o, its, n, h, hc, _⟩
  · exact .base (.lst h)
  · exact .base (.frz h)
  · exact .kList h hc
theorem DtAll.append {K : PySem.W.Frag} {H : Hp} : ∀ {xs ys : List V} {ds es : List PyData}, DtAll K H xs ds → DtAll K H ys es → DtAll K H (xs ++ ys) (ds ++ es)
  | _, _, _, _, .nil, h => h
  | _, _, _, _, .cons a b, h => .cons a (DtAll.append b h)
/-- a list that grows is no tuple -/
theorem seqT_upd {K : PySem.W.Frag} {H : Hp} {D a : Addr} {vs ws zs : List V} (h : SqT K H a zs) (hD : H D = some (.lst vs)) : SqT K (upd H D (.lst ws)) a zs := by
  rcases h with (h | ⟨o, h⟩) | h
  · exact .inl (.inl (by rw [upd_ne (ne_of h hD (fun z => by cases z))]; exact h))
  · exact .inl (.inr ⟨o, by rw [upd_ne (ne_of h hD (fun z => by cases z))]; exact h⟩)
  · exact .inr h
theorem seqT_updK {K : PySem.W.Frag} {H : Hp} {D a : Addr} {kvs kvs' : List (Key × V)} {zs : List V} (h : SqT K H a zs) (hD : H D = some (.dK kvs)) : SqT K (upd H D (.dK kvs')) a zs := by
  rcases h with (h | ⟨o, h⟩) | h
  · exact .inl (.inl (by rw [upd_ne (ne_of h hD (fun z => by cases z))]; exact h))
  · exact .inl (.inr ⟨o, by rw [upd_ne (ne_of h hD (fun z => by cases z))]; exact h⟩)
  · exact .inr h
theorem valV_hd {k : Key} {v : V} {r : List (Key × V)} : valV ((k, v) :: r) k = some v := by simp [valV]
theorem valV_tl {k k' : Key} {v : V} {r : List (Key × V)} (h : k' ≠ k) : valV ((k', v) :: r) k = valV r k := by simp [valV, h]
theorem Pool.same {H H' : Hp} {l c : Addr} (P : Pool H l c) (e : Same H H') : Pool H' l c := by
  obtain ⟨ns, i, r, s, hl, hc, z⟩ := P
  exact ⟨ns, i, r, s, e _ _ hl, e _ _ hc, z⟩
theorem Ext.same {H H1 H2 : Hp} {l c : Addr} (x : Ext l c H H1) (e : Same H1 H2) : Ext l c H H2 := ⟨fun b o hb h => e _ _ (x.keep b o hb h), x.pool.same e⟩
/-- a new tuple at the end of a list of data -/
theorem snoc_data {K : PySem.W.Frag} {H : Hp} {D t : Addr} {o : HO} {vs : List V} {ds : List PyData} {d : PyData} (da : DtAll K H vs ds) (hD : H D = some (.lst vs)) (ht : H t = none) (dt : Dt K (upd H t o) (.ref t) d) :
    (upd H t o) D = some (.lst vs) ∧ DtAll K (upd (upd H t o) D (.lst (vs ++ [.ref t]))) (vs ++ [.ref t]) (ds ++ [d]) := by
  have h1 : (upd H t o) D = some (.lst vs) := by rw [upd_ne (ne_of_none hD ht)]; exact hD
  refine ⟨h1, DtAll.mono (fun _ _ z => seqT_upd z h1) _ _ (DtAll.append (DtAll.mono (fun _ _ z => Same.seqT (same_new ht) z) _ _ da) (.cons dt .nil))⟩
theorem DtAll.ext {K : PySem.W.Frag} {H H' : Hp} {l c : Addr} {vs : List V} {ds : List PyData} (h : DtAll K H vs ds) (P : Pool H l c) (x : Ext l c H H') : DtAll K H' vs ds := DtAll.mono (fun _ _ z => x.seqT P z) _ _ h
theorem DtAll.same {K : PySem.W.Frag} {H H' : Hp} {vs : List V} {ds : List PyData} (h : DtAll K H vs ds) (x : Same H H') : DtAll K H' vs ds := DtAll.mono (fun _ _ z => Same.seqT x z) _ _ h
end PK
namespace PK
open PySem L2
/-! the pool -/
def enc (z : Int) : Int := if 0 ≤ z then 2 * z else -2 * z - 1
def spPool (K : PySem.W.Frag) : Sp := fun vs H Q _ => ∃ (a : Addr) (ns : List Int), vs = [.ref a] ∧ SqL K H a (ns.map V.int) ∧ ns.length ≤ 63 ∧
  ∀ (H' : Hp) (l c : Addr), Same H H' → H l = none → Pool H' l c → Q (.ref l) H'
section
variable {P : Program} {w : World} {K : PySem.W.Frag} {mg : Str → Option Value} {base : Heap}
abbrev s_law_pool : Stmt := topS 15
theorem sc_law_pool : FnScope ["script", "cell"] ["script"] (defScope s_law_pool) := ⟨rfl, rfl, rfl, by decide +kernel, rfl, by decide +kernel, by decide +kernel⟩
-- slots: 0:script 1:cell(comp)
theorem ok_pool {f : Addr} {fd : FuncData} (F : Fun K "_law_pool" "_law_pool" s_law_pool f fd) :
    FnOk P w K mg base CX0 1 f fd ["script"] (spPool K) := by
  refine F.ok sc_law_pool (fun vs H Q E h => ?_) (fun cdv A outer s H vs Q E hr h => ?_)
  · obtain ⟨a, ns, rfl, _⟩ := h
    rfl
  obtain ⟨a, ns, rfl, hS, hlen, q⟩ := h
  refine ⟨_, (pss_one (ps_ret (pe_lst (pa_cons (pe_lc (own := [("cell", 1)]) (g := (gName 1)) (tt := tYes) (by rfl) sc_law_pool.nd (pi_list (pv 0)) (blkOk_by (N := ["script", "cell"]) (sc := defScope s_law_pool) (by decide +kernel)) (fun _ _ _ _ _ => (pg_name (i := 1) sc_law_pool.nd rfl (Or.inl rfl))) (fun _ _ _ _ _ => pts_nil) (fun _ _ _ _ _ => (pe_ifExp (pt_cmpR op_ge (pv 1) pe_int (nomark _)) (pe_op op_mul pe_int (pv 1)) (pe_op op_sub (pe_op op_mul (pe_un un_neg pe_int) (pv 1)) pe_int)))) (pa_cons pe_int (pa_cons pe_int (pa_cons pe_int pa_nil))))))), ?_⟩
  refine ⟨_, rfl, a, rfl, ⟨_, hS⟩, fun D hD => lc_list (K := K) (a := a) (xs := ns.map V.int) (fun i H' => i ≤ ns.length ∧ Same H H' ∧ H' D = some (.lst (((ns.take i).map enc).map V.int))) ⟨Nat.zero_le _, same_new hD, upd_same⟩ (fun i H' _ h => h.2.1.seq hS) ?_ ?_⟩
  · rintro i x H' hi ⟨_, sm, hd⟩
    have hi2 : i < ns.length := by
      have := (List.getElem?_eq_some_iff.mp hi).1
      rw [List.length_map] at this
      exact this
    rw [List.getElem?_map, List.getElem?_eq_getElem hi2] at hi
    cases hi
    have fin : ∀ z : Int, z = enc ns[i] → upd H' D (.lst (((ns.take i).map enc).map V.int ++ [V.int z])) D = some (.lst (((ns.take (i + 1)).map enc).map V.int)) := fun z e => by
      rw [upd_same, List.take_add_one, List.getElem?_eq_getElem hi2, List.map_append, List.map_append, e]
      rfl
    have ll : (((ns.take i).map enc).map V.int).length < sizeLine := by
      rw [List.length_map, List.length_map, List.length_take]
      exact smallL (by omega)
    refine ⟨rfl, yes_ ⟨_, rfl, _, _, rfl, rfl, _, rfl, ite2 (fun e => ?_) (fun e => ?_)⟩⟩
    · have e' : ns[i] ≥ 0 := of_decide_eq_true e
      exact ⟨_, rfl, _, _, rfl, rfl, .inl ⟨by decide, by decide⟩, _, hd, ll, hi2, Same.upd sm hD, fin _ (by unfold enc; rw [if_pos e'])⟩
    · have e' : ¬ ns[i] ≥ 0 := fun z => e (decide_eq_true z)
      exact ⟨_, rfl, _, rfl, _, _, rfl, rfl, .inl ⟨by decide, by decide⟩, _, _, rfl, rfl, _, hd, ll, hi2, Same.upd sm hD, fin _ (by unfold enc; rw [if_neg (by omega)])⟩
  · rintro H' ⟨_, sm, hd⟩
    rw [List.length_map, List.take_of_length_le (Nat.le_refl _)] at hd
    refine ⟨small (by show 4 ≤ _; decide), fun p hp => ?_⟩
    refine q _ p D (Same.upd sm (sm.free hp)) (sm.free hp) ⟨ns.map enc, 0, 0, 17, upd_same, by rw [upd_ne (ne_of_none hd hp)]; exact hd, ne_of_none hd hp, fun n hn => ?_, by decide, by decide, by decide, by decide, False.elim⟩
    obtain ⟨z, _, rfl⟩ := List.mem_map.mp hn
    unfold enc
    split <;> omega
end
end PK
namespace PK
open PySem L2
theorem DtAll.lenD {K : PySem.W.Frag} {H : Hp} : ∀ {xs : List V} {ds : List PyData}, DtAll K H xs ds → xs.length = ds.length
  | _, _, .nil => rfl
  | _, _, .cons _ t => by rw [List.length_cons, List.length_cons, DtAll.lenD t]
theorem DtAll.getX {K : PySem.W.Frag} {H : Hp} : ∀ {xs : List V} {ds : List PyData} {i : Nat} {x : V}, DtAll K H xs ds → xs[i]? = some x → ∃ d, ds[i]? = some d ∧ Dt K H x d
  | _, _, _, _, .nil, e => by simp at e
  | _, _, 0, _, .cons h _, e => by simp at e; subst e; exact ⟨_, rfl, h⟩
  | _, _, i + 1, _, .cons _ t, e => by
    obtain ⟨d, h1, h2⟩ := DtAll.getX (i := i) t (by simpa using e)
    exact ⟨d, by simpa using h1, h2⟩
theorem DtAll.getD {K : PySem.W.Frag} {H : Hp} : ∀ {xs : List V} {ds : List PyData} {i : Nat} {d : PyData}, DtAll K H xs ds → ds[i]? = some d → ∃ x, xs[i]? = some x ∧ Dt K H x d
  | _, _, _, _, .nil, e => by simp at e
  | _, _, 0, _, .cons h _, e => by simp at e; subst e; exact ⟨_, rfl, h⟩
  | _, _, i + 1, _, .cons _ t, e => by
    obtain ⟨d, h1, h2⟩ := DtAll.getD (i := i) t (by simpa using e)
    exact ⟨d, by simpa using h1, h2⟩
theorem DtAll.splitR {K : PySem.W.Frag} {H : Hp} : ∀ {xs : List V} {ds es : List PyData}, DtAll K H xs (ds ++ es) → ∃ ys zs, xs = ys ++ zs ∧ DtAll K H ys ds ∧ DtAll K H zs es
  | xs, [], es, h => ⟨[], xs, rfl, .nil, h⟩
  | _, d :: ds, es, h => by
    cases h with
    | cons h t =>
      obtain ⟨ys, zs, rfl, h1, h2⟩ := DtAll.splitR (ds := ds) t
      exact ⟨_ :: ys, zs, rfl, .cons h h1, h2⟩
theorem DtAll.ints {K : PySem.W.Frag} {H : Hp} : ∀ ns : List Int, DtAll K H (ns.map V.int) (ns.map PyData.int)
  | [] => .nil
  | n :: r => .cons (.int n) (DtAll.ints r)
theorem DtAll.intsE {K : PySem.W.Frag} {H : Hp} : ∀ {xs : List V} {ns : List Int}, DtAll K H xs (ns.map PyData.int) → xs = ns.map V.int
  | _, [], h => by cases h; rfl
  | _, n :: r, h => by
    cases h with
    | cons h t => rw [h.i, DtAll.intsE t]; rfl
theorem DtAll.upd {K : PySem.W.Frag} {H : Hp} {D : Addr} {vs us xs : List V} {ds : List PyData} (h : DtAll K H xs ds) (hD : H D = some (.lst vs)) : DtAll K (L2.upd H D (.lst us)) xs ds := DtAll.mono (fun _ _ z => seqT_upd z hD) _ _ h
theorem Dt.updL {K : PySem.W.Frag} {H : Hp} {D : Addr} {vs us : List V} {x : V} {d : PyData} (h : Dt K H x d) (hD : H D = some (.lst vs)) : Dt K (L2.upd H D (.lst us)) x d := Dt.mono (fun _ _ z => seqT_upd z hD) _ _ h
section
variable {K : PySem.W.Frag} {It : It} {n : Nat} {G : Hp → Prop} {Y : Nat → Hp → V → Hp → Prop}
/-- a comprehension of data, all else kept -/
theorem lcS (wk : Walk It n G Y) {g : TG} {te : TE} {vs : List Nat} {σ : L2.St} {H1 : Hp} {D : Addr} {Qd : Hp → Prop} (hD : H1 D = none) (hn : n ≤ 10000000) (Jv : List PyData → Prop) (j0 : Jv []) (hG : ∀ H', Same H1 H' → G H')
    (hs : ∀ i x H H' ds (R : V → Hp → Prop), i < n → Same H1 H → Y i H x H' → Jv ds → ds.length = i → (∀ d y H4, Same H H4 → Dt K H4 y d → Jv (ds ++ [d]) → R y H4) → g x (wipe σ vs) H' fun σ2 H2 => wipe σ2 vs = wipe σ vs ∧ te σ2 H2 R)
    (hd : ∀ H' ws ds, Same H1 H' → H' D = some (.lst ws) → DtAll K H' ws ds → ds.length = n → Jv ds → Qd H') :
    ∃ W : Nat → Nat → Hp → Prop, (∃ m, W 0 m (upd H1 D (.lst []))) ∧ ∀ i m H, W i m H →
      (It.stop i H ∧ Qd H) ∨ (It.go i H ∧ ∃ Nx : Hp → Prop, (∀ H', Nx H' → ∃ m', m' < m ∧ W (i + 1) m' H') ∧ ∀ x H', It.yld i H x H' → g x (wipe σ vs) H' fun σ2 H2 => wipe σ2 vs = wipe σ vs ∧ tYes σ2 H2 fun b H3 =>
        if b = true then te σ2 H3 fun y H4 => ∃ acc, H4 D = some (.lst acc) ∧ acc.length < sizeLine ∧ Nx (upd H4 D (.lst (acc ++ [y]))) else Nx H3) := by
  refine lc_it wk (fun i H' => ∃ (ws : List V) (ds : List PyData), Same H1 H' ∧ H' D = some (.lst ws) ∧ DtAll K H' ws ds ∧ ds.length = i ∧ Jv ds) ⟨[], [], same_new hD, upd_same, .nil, rfl, j0⟩ (fun i H' _ h => ?_) (fun i x H H' hi h y => ?_) (fun H' h => ?_)
  · obtain ⟨_, _, s, _⟩ := h
    exact hG _ s
  · obtain ⟨ws, ds, s, hw, da, len, j⟩ := h
    refine hs i x H H' ds (fun y H4 => ∃ acc, H4 D = some (.lst acc) ∧ acc.length < sizeLine ∧ ∃ (ws : List V) (ds : List PyData), Same H1 (upd H4 D (.lst (acc ++ [y]))) ∧ (upd H4 D (.lst (acc ++ [y]))) D = some (.lst ws) ∧ DtAll K (upd H4 D (.lst (acc ++ [y]))) ws ds ∧ ds.length = i + 1 ∧ Jv ds) hi s y j len fun d y H4 s4 dy j4 => ?_
    have hw4 := s4 _ _ hw
    refine ⟨ws, hw4, smallL (by rw [da.lenD, len]; omega), ws ++ [y], ds ++ [d], Same.upd (s.trans s4) hD, upd_same, ?_, by rw [List.length_append, len]; rfl, j4⟩
    exact ((da.same s4).append (.cons dy .nil)).upd hw4
  · obtain ⟨ws, ds, s, hw, da, len, j⟩ := h
    exact hd _ ws ds s hw da len j
/-- a comprehension of data that draws from the pool -/
theorem lcX (wk : Walk It n G Y) {g : TG} {te : TE} {vs : List Nat} {σ : L2.St} {H1 : Hp} {D l c : Addr} {Qd : Hp → Prop} (P : Pool H1 l c) (hD : H1 D = none) (hn : n ≤ 10000000) (Jv : List PyData → Prop) (j0 : Jv []) (hG : ∀ H', Ext l c H1 H' → G H')
    (hs : ∀ i x H H' ds (R : V → Hp → Prop), i < n → Ext l c H1 H → Y i H x H' → Jv ds → ds.length = i → (∀ d y H4, Ext l c H H4 → Dt K H4 y d → Jv (ds ++ [d]) → R y H4) → g x (wipe σ vs) H' fun σ2 H2 => wipe σ2 vs = wipe σ vs ∧ te σ2 H2 R)
    (hd : ∀ H' ws ds, Ext l c H1 H' → H' D = some (.lst ws) → DtAll K H' ws ds → ds.length = n → Jv ds → Qd H') :
    ∃ W : Nat → Nat → Hp → Prop, (∃ m, W 0 m (upd H1 D (.lst []))) ∧ ∀ i m H, W i m H →
      (It.stop i H ∧ Qd H) ∨ (It.go i H ∧ ∃ Nx : Hp → Prop, (∀ H', Nx H' → ∃ m', m' < m ∧ W (i + 1) m' H') ∧ ∀ x H', It.yld i H x H' → g x (wipe σ vs) H' fun σ2 H2 => wipe σ2 vs = wipe σ vs ∧ tYes σ2 H2 fun b H3 =>
        if b = true then te σ2 H3 fun y H4 => ∃ acc, H4 D = some (.lst acc) ∧ acc.length < sizeLine ∧ Nx (upd H4 D (.lst (acc ++ [y]))) else Nx H3) := by
  have nD := (P.ne hD).1
  refine lc_it wk (fun i H' => ∃ (ws : List V) (ds : List PyData), Ext l c H1 H' ∧ H' D = some (.lst ws) ∧ DtAll K H' ws ds ∧ ds.length = i ∧ Jv ds) ⟨[], [], (Ext.refl P).new P hD, upd_same, .nil, rfl, j0⟩ (fun i H' _ h => ?_) (fun i x H H' hi h y => ?_) (fun H' h => ?_)
  · obtain ⟨_, _, s, _⟩ := h
    exact hG _ s
  · obtain ⟨ws, ds, s, hw, da, len, j⟩ := h
    refine hs i x H H' ds (fun y H4 => ∃ acc, H4 D = some (.lst acc) ∧ acc.length < sizeLine ∧ ∃ (ws : List V) (ds : List PyData), Ext l c H1 (upd H4 D (.lst (acc ++ [y]))) ∧ (upd H4 D (.lst (acc ++ [y]))) D = some (.lst ws) ∧ DtAll K (upd H4 D (.lst (acc ++ [y]))) ws ds ∧ ds.length = i + 1 ∧ Jv ds) hi s y j len fun d y H4 s4 dy j4 => ?_
    have hw4 := s4.keep _ _ nD hw
    refine ⟨ws, hw4, smallL (by rw [da.lenD, len]; omega), ws ++ [y], ds ++ [d], (s.trans s4).upd P hD, upd_same, ?_, by rw [List.length_append, len]; rfl, j4⟩
    exact ((da.ext s.pool s4).append (.cons dy .nil)).upd hw4
  · obtain ⟨ws, ds, s, hw, da, len, j⟩ := h
    exact hd _ ws ds s hw da len j
end
end PK
namespace PK
open PySem L2
/-! terms, with the forms of results -/
inductive Fm where | get | set | plus | minus
deriving DecidableEq
def Fm.s : Fm → Str
  | .get => "get" | .set => "set" | .plus => "plus" | .minus => "minus"
inductive Tm where
  | int (n : Int)
  | name (s : Str)
  | addr (n : Int)
  | var (s : Str)
  | node (c : Str) (ts : List Tm)
  | map (es : List (Str × Tm))
  | form (f : Fm) (ts : List Tm)
mutual
def Tm.d : Tm → PyData
  | .int n => .tuple [.str "int", .int n]
  | .name s => .tuple [.str "name", .str s]
  | .addr n => .tuple [.str "addr", .int n]
  | .var s => .tuple [.str "meta", .str s]
  | .node c ts => .tuple [.str "node", .str c, .tuple (Tm.ds ts)]
  | .map es => .tuple [.str "map", .tuple (Tm.es es)]
  | .form f ts => .tuple (.str f.s :: Tm.ds ts)
def Tm.ds : List Tm → List PyData
  | [] => []
  | t :: r => t.d :: Tm.ds r
def Tm.es : List (Str × Tm) → List PyData
  | [] => []
  | (w, t) :: r => .tuple [.str w, t.d] :: Tm.es r
end
theorem Tm.ds_map : ∀ ts : List Tm, Tm.ds ts = ts.map Tm.d
  | [] => by unfold Tm.ds; rfl
  | t :: r => by unfold Tm.ds; rw [Tm.ds_map r]; rfl
def Tm.ent (e : Str × Tm) : PyData := .tuple [.str e.1, e.2.d]
theorem Tm.es_map : ∀ es : List (Str × Tm), Tm.es es = es.map Tm.ent
  | [] => by unfold Tm.es; rfl
  | (w, t) :: r => by unfold Tm.es; rw [Tm.es_map r]; rfl
def Tm.kids : Tm → List Tm
  | .node _ ts => ts
  | .form _ ts => ts
  | .map es => es.map Prod.snd
  | _ => []
def Tm.hd : Tm → Str
  | .int _ => "int" | .name _ => "name" | .addr _ => "addr" | .var _ => "meta" | .node _ _ => "node" | .map _ => "map" | .form f _ => f.s
theorem Tm.kid_lt {t k : Tm} (h : k ∈ t.kids) : sizeOf k < sizeOf t := by
  cases t with
  | node c ts => have := List.sizeOf_lt_of_mem (as := ts) h; simp only [Tm.node.sizeOf_spec]; omega
  | form c ts => have := List.sizeOf_lt_of_mem (as := ts) h; simp only [Tm.form.sizeOf_spec]; omega
  | map es =>
    obtain ⟨e, he, rfl⟩ := List.mem_map.mp h
    have := List.sizeOf_lt_of_mem he
    have e2 : sizeOf e = 1 + sizeOf e.1 + sizeOf e.2 := by cases e; rfl
    simp only [Tm.map.sizeOf_spec]
    omega
  | int _ => cases h
  | name _ => cases h
  | addr _ => cases h
  | var _ => cases h
/-- induction over the direct parts -/
theorem Tm.ind {p : Tm → Prop} (h : ∀ t : Tm, (∀ k ∈ t.kids, p k) → p t) (t : Tm) : p t := by
  have : ∀ n (t : Tm), sizeOf t ≤ n → p t := by
    intro n
    induction n with
    | zero => intro t ht; cases t <;> simp at ht
    | succ n ih => exact fun t ht => h t fun k hk => ih k (by have := Tm.kid_lt hk; omega)
  exact this _ t (Nat.le_refl _)
def Tm.size (t : Tm) : Nat := 1 + (t.kids.attach.map fun k => k.1.size).sum
termination_by sizeOf t
decreasing_by exact Tm.kid_lt k.2
theorem Tm.size_eq (t : Tm) : t.size = 1 + (t.kids.map Tm.size).sum := by
  rw [Tm.size, List.attach_map_val (f := Tm.size)]
/-- the first data of the tuple of a term -/
theorem Tm.d_hd (t : Tm) : ∃ r, t.d = .tuple (.str t.hd :: r) := by
  cases t <;> exact ⟨_, by unfold Tm.d; rfl⟩
def longI (n : Int) : Bool := decide (10 ^ 15 ≤ (if n < 0 then -n else n))
def Tm.long : Tm → Bool
  | .int n => longI n
  | _ => false
/-- too deep, or a long integer, in a term at a depth -/
def Tm.bad (t : Tm) (d : Nat) : Bool := decide (100 < d) || t.long || t.kids.attach.any fun k => k.1.bad (d + 1)
termination_by sizeOf t
decreasing_by exact Tm.kid_lt k.2
theorem any_attach {α : Type} (l : List α) (p : α → Bool) : (l.attach.any fun k => p k.1) = l.any p := by
  exact (List.any_map (l := l.attach) (f := Subtype.val) (p := p)).symm.trans (by rw [List.attach_map_subtype_val])
theorem Tm.bad_eq (t : Tm) (d : Nat) : t.bad d = (decide (100 < d) || t.long || t.kids.any fun k => k.bad (d + 1)) := by
  rw [Tm.bad, any_attach t.kids (fun k => k.bad (d + 1))]
/-- the kids as data -/
theorem Tm.dt_parts {K : PySem.W.Frag} {H : Hp} {v : V} {t : Tm} (h : Dt K H v t.d) : ∃ (a : Addr) (r : List V), v = .ref a ∧ SqT K H a (.str t.hd :: r) := by
  obtain ⟨r, e⟩ := t.d_hd
  rw [e] at h
  obtain ⟨a, xs, rfl, s, da⟩ := Dt.tn h
  cases da with
  | cons h1 r1 => rw [h1.s] at s; exact ⟨a, _, rfl, s⟩
structure TxtT (K : PySem.W.Frag) (mg : Str → Option Value) (aF : Addr) : Prop extends Txt K mg where
  g_FO : mg "_FORMS" = some (.ref aF)
  forms : ∀ H, SqT K H aF [.str "get", .str "set", .str "plus", .str "minus"]
def spKids (K : PySem.W.Frag) : Sp := fun vs H Q _ => ∃ (v : V) (t : Tm), vs = [v] ∧ Dt K H v t.d ∧ t.kids.length ≤ 10000000 ∧
  ∀ (H' : Hp) (p : Addr) (ws : List V), Same H H' → SqT K H' p ws → DtAll K H' ws (t.kids.map Tm.d) → Q (.ref p) H'
theorem Fm.ne_node (f : Fm) : f.s ≠ "node" := by cases f <;> decide +kernel
theorem Fm.ne_map (f : Fm) : f.s ≠ "map" := by cases f <;> decide +kernel
theorem Fm.inF (f : Fm) : inV (.str f.s) [V.str "get", V.str "set", V.str "plus", V.str "minus"] = true := by cases f <;> decide +kernel
section
variable {P : Program} {w : World} {K : PySem.W.Frag} {mg : Str → Option Value} {base : Heap} {aF : Addr}
abbrev s_children : Stmt := topS 5
theorem sc_children : FnScope ["term", "_", "entry"] ["term"] (defScope s_children) := ⟨rfl, rfl, rfl, by decide +kernel, rfl, by decide +kernel, by decide +kernel⟩
-- slots: 0:term 1:_(comp) 2:entry(comp)
theorem ok_kids {f : Addr} {fd : FuncData} (F : Fun K "children" "children" s_children f fd) (T : TxtT K mg aF) : FnOk P w K mg base CX0 1 f fd ["term"] (spKids K) := by
  refine F.ok sc_children (fun vs H Q E h => ?_) (fun cdv A outer s H vs Q E hr h => ?_)
  · obtain ⟨v, t, rfl, _⟩ := h
    rfl
  obtain ⟨v, t, rfl, hv, hn, q⟩ := h
  refine ⟨_, (pss_cons (ps_if (pt_cmpR op_eq (pe_ix ix_tup (pv 0) pe_int (fun _ _ => rfl)) pe_str (nomark _)) (pss_one (ps_ret (pe_ix ix_tup (pv 0) pe_int (fun _ _ => rfl)))) pss_nil)
    (pss_cons (ps_if (pt_cmpR op_eq (pe_ix ix_tup (pv 0) pe_int (fun _ _ => rfl)) pe_str (nomark _)) (pss_one (ps_ret (pe_callTy call_tuple_of (by rfl) T.z_tuple (by decide +kernel) (pa_cons (pe_lc (own := [("_", 1), ("entry", 2)]) (g := (gTup K 2 (gCons (gName 1) (gCons (gName 2) gNil)))) (tt := tYes) (by rfl) sc_children.nd (pi_tup (pe_ix ix_tup (pv 0) pe_int (fun _ _ => rfl))) (blkOk_by (N := ["term", "_", "entry"]) (sc := defScope s_children) (by decide +kernel)) (fun _ _ _ _ _ => (pg_tup (by rfl) (pgs_cons (pg_name (i := 1) sc_children.nd rfl (Or.inl rfl)) (pgs_cons (pg_name (i := 2) sc_children.nd rfl (Or.inl rfl)) pgs_nil)))) (fun _ _ _ _ _ => pts_nil) (fun _ _ _ _ _ => (pv 2))) pa_nil)))) pss_nil)
    (pss_cons (ps_if (pt_cmpR op_in_seq (pe_ix ix_tup (pv 0) pe_int (fun _ _ => rfl)) (pe_glob (v := .ref aF) rfl T.g_FO rfl) rfl) (pss_one (ps_ret (pe_slice sl_tup (pv 0) (po_some pe_int) po_none))) pss_nil)
    (pss_one (ps_ret (pe_tup pa_nil)))))), ?_⟩
  cases t with
  | node c ts =>
    unfold Tm.d at hv
    obtain ⟨a, x, y, z, rfl, hs, h1, h2, h3⟩ := Dt.t3 hv
    obtain rfl := h1.s
    obtain ⟨b, ys, rfl, hb, hys⟩ := Dt.tn h3
    refine vTx rfl hs rfl ⟨rfl, _, rfl, sT rfl (vTx rfl hs rfl ?_)⟩
    exact q H b ys (Same.refl H) hb (by rw [Tm.ds_map] at hys; exact hys)
  | map es =>
    unfold Tm.d at hv
    obtain ⟨a, x, y, rfl, hs, h1, h2⟩ := Dt.t2 hv
    obtain rfl := h1.s
    obtain ⟨b, ys, rfl, hb, hys⟩ := Dt.tn h2
    rw [Tm.es_map] at hys
    have ly : ys.length = es.length := by rw [hys.lenD, List.length_map]
    have hn' : es.length ≤ 10000000 := by rw [show (Tm.map es).kids = es.map Prod.snd from rfl, List.length_map] at hn; exact hn
    refine vTx rfl hs rfl ⟨rfl, _, rfl, sF (by decide +kernel) (vTx rfl hs rfl ⟨rfl, _, rfl, sT rfl ?_⟩)⟩
    refine vTx rfl hs rfl ⟨b, rfl, ⟨_, hb⟩, fun D hD => lcS (K := K) (walk_tup (xs := ys)) hD (by omega) (fun ds => ds = (es.take ds.length).map fun e => e.2.d) rfl (fun H' s => Same.seqT s hb) ?_ ?_⟩
    · rintro i x H1 H2 ds R hi s ⟨rfl, gx⟩ jd len r
      obtain ⟨e, ge, dx⟩ := DtAll.getX hys gx
      rw [List.getElem?_map] at ge
      cases e0 : es[i]? with
      | none => rw [e0] at ge; cases ge
      | some en =>
        rw [e0] at ge
        cases ge
        obtain ⟨a1, x1, y1, rfl, hs1, k1, k2⟩ := Dt.t2 (dx.same s)
        refine ⟨a1, _, rfl, hs1, rfl, _, _, rfl, _, _, rfl, rfl, rfl, _, rfl, r en.2.d y1 _ (Same.refl _) k2 ?_⟩
        rw [List.length_append, len, show i + [en.2.d].length = i + 1 from rfl, List.take_add_one, e0, List.map_append]
        rw [len] at jd
        rw [← jd]; rfl
    · rintro H' ws ds s hw da len jd
      rw [len, ly, List.take_length] at jd
      refine ⟨D, _, rfl, .inl ⟨SqL.of hw, fun p hp => ?_⟩⟩
      refine q _ p ws (Same.upd s ((Same.refl H).trans s |>.free hp)) (SqT.of upd_same) ?_
      rw [jd] at da
      rw [show (Tm.map es).kids.map Tm.d = es.map fun e => e.2.d from by unfold Tm.kids; rw [List.map_map]; rfl]
      exact da.same (same_new hp)
  | form g ts =>
    unfold Tm.d at hv
    obtain ⟨a, xs, rfl, hs, da⟩ := Dt.tn hv
    cases da with
    | cons h1 dr =>
    obtain rfl := h1.s
    rename_i vs1
    refine vTx rfl hs (atI_nat (j := 0) rfl) ⟨rfl, _, rfl, sF g.ne_node (vTx rfl hs (atI_nat (j := 0) rfl) ⟨rfl, _, rfl, sF g.ne_map (vTx (v := .str g.s) rfl hs (atI_nat (j := 0) rfl) ⟨aF, _, rfl, .inr (T.forms H), rfl, rfl, _, rfl, ?_⟩)⟩)⟩
    rw [if_neg Bool.false_ne_true, g.inF]
    refine iteT ⟨_, rfl, _, rfl, a, _, rfl, hs, fun z => ?_, fun p hp => ?_⟩
    · have e := z.1
      revert e
      show (HT.sIx (vs1.length + 1) 0 (some 1) = 0) → False
      unfold HT.sIx
      intro e
      simp at e
    · have ec : cutV (V.str g.s :: vs1) (some 1) none = vs1 := by
        unfold cutV HT.sIx
        simp
      rw [ec]
      refine q _ p vs1 (same_new hp) (SqT.of upd_same) ?_
      rw [Tm.ds_map] at dr
      exact dr.same (same_new hp)
  | int n =>
    unfold Tm.d at hv
    obtain ⟨a, x, y, rfl, hs, h1, h2⟩ := Dt.t2 hv
    obtain rfl := h1.s
    refine vTx rfl hs rfl ⟨rfl, _, rfl, sF (by decide +kernel) (vTx rfl hs rfl ⟨rfl, _, rfl, sF (by decide +kernel) (vTx (v := .str "int") rfl hs rfl ⟨aF, _, rfl, .inr (T.forms H), rfl, rfl, _, rfl, ?_⟩)⟩)⟩
    rw [if_neg Bool.false_ne_true, show inV (.str "int") [V.str "get", V.str "set", V.str "plus", V.str "minus"] = false by decide +kernel]
    exact iteF ⟨Nat.zero_le _, fun p hp => q _ p [] (same_new hp) (SqT.of upd_same) .nil⟩
  | name n =>
    unfold Tm.d at hv
    obtain ⟨a, x, y, rfl, hs, h1, h2⟩ := Dt.t2 hv
    obtain rfl := h1.s
    refine vTx rfl hs rfl ⟨rfl, _, rfl, sF (by decide +kernel) (vTx rfl hs rfl ⟨rfl, _, rfl, sF (by decide +kernel) (vTx (v := .str "name") rfl hs rfl ⟨aF, _, rfl, .inr (T.forms H), rfl, rfl, _, rfl, ?_⟩)⟩)⟩
    rw [if_neg Bool.false_ne_true, show inV (.str "name") [V.str "get", V.str "set", V.str "plus", V.str "minus"] = false by decide +kernel]
    exact iteF ⟨Nat.zero_le _, fun p hp => q _ p [] (same_new hp) (SqT.of upd_same) .nil⟩
  | addr n =>
    unfold Tm.d at hv
    obtain ⟨a, x, y, rfl, hs, h1, h2⟩ := Dt.t2 hv
    obtain rfl := h1.s
    refine vTx rfl hs rfl ⟨rfl, _, rfl, sF (by decide +kernel) (vTx rfl hs rfl ⟨rfl, _, rfl, sF (by decide +kernel) (vTx (v := .str "addr") rfl hs rfl ⟨aF, _, rfl, .inr (T.forms H), rfl, rfl, _, rfl, ?_⟩)⟩)⟩
    rw [if_neg Bool.false_ne_true, show inV (.str "addr") [V.str "get", V.str "set", V.str "plus", V.str "minus"] = false by decide +kernel]
    exact iteF ⟨Nat.zero_le _, fun p hp => q _ p [] (same_new hp) (SqT.of upd_same) .nil⟩
  | var n =>
    unfold Tm.d at hv
    obtain ⟨a, x, y, rfl, hs, h1, h2⟩ := Dt.t2 hv
    obtain rfl := h1.s
    refine vTx rfl hs rfl ⟨rfl, _, rfl, sF (by decide +kernel) (vTx rfl hs rfl ⟨rfl, _, rfl, sF (by decide +kernel) (vTx (v := .str "meta") rfl hs rfl ⟨aF, _, rfl, .inr (T.forms H), rfl, rfl, _, rfl, ?_⟩)⟩)⟩
    rw [if_neg Bool.false_ne_true, show inV (.str "meta") [V.str "get", V.str "set", V.str "plus", V.str "minus"] = false by decide +kernel]
    exact iteF ⟨Nat.zero_le _, fun p hp => q _ p [] (same_new hp) (SqT.of upd_same) .nil⟩
end
end PK
namespace PK
open PySem L2
/-! rebuild -/
structure TxtZ (K : PySem.W.Frag) (mg : Str → Option Value) (aF : Addr) : Prop extends TxtT K mg aF where
  z_zip : mg "zip" = none
  z_reversed : mg "reversed" = none
  z_dict : mg "dict" = none
  z_sum : mg "sum" = none
def Tm.withKids : Tm → List Tm → Tm
  | .node c _, ks => .node c ks
  | .map es, ks => .map (List.zipWith (fun e k => (e.1, k)) es ks)
  | .form f _, ks => .form f ks
  | t, _ => t
def spRebuild (K : PySem.W.Frag) : Sp := fun vs H Q _ => ∃ (v : V) (t : Tm) (a : Addr) (ws : List V) (ks : List Tm), vs = [v, .ref a] ∧ Dt K H v t.d ∧ SqL K H a ws ∧ DtAll K H ws (ks.map Tm.d) ∧ ks.length = t.kids.length ∧ ks.length ≤ 10000000 ∧
  ∀ (H' : Hp) (v' : V), Same H H' → Dt K H' v' (t.withKids ks).d → Q v' H'
section
variable {P : Program} {w : World} {K : PySem.W.Frag} {mg : Str → Option Value} {base : Heap} {aF : Addr}
abbrev s_rebuild : Stmt := topS 6
theorem sc_rebuild : FnScope ["term", "parts", "part", "word", "_"] ["term", "parts"] (defScope s_rebuild) := ⟨rfl, rfl, rfl, by decide +kernel, rfl, by decide +kernel, by decide +kernel⟩
-- slots: 0:term 1:parts 2:part(comp) 3:word(comp) 4:_(comp)
theorem ok_rebuild {f : Addr} {fd : FuncData} (F : Fun K "rebuild" "rebuild" s_rebuild f fd) (T : TxtZ K mg aF) : FnOk P w K mg base CX0 1 f fd ["term", "parts"] (spRebuild K) := by
  refine F.ok sc_rebuild (fun vs H Q E h => ?_) (fun cdv A outer s H vs Q E hr h => ?_)
  · obtain ⟨v, t, a, ws, ks, rfl, _⟩ := h
    rfl
  obtain ⟨v, t, a, ws, ks, rfl, hv, hS, da, lk, hn, q⟩ := h
  refine ⟨_, (pss_cons (ps_if (pt_cmpR op_eq (pe_ix ix_tup (pv 0) pe_int (fun _ _ => rfl)) pe_str (nomark _)) (pss_one (ps_ret (pe_tup (pa_cons pe_str (pa_cons (pe_ix ix_tup (pv 0) pe_int (fun _ _ => rfl)) (pa_cons (pe_callTy call_tuple_of (by rfl) T.z_tuple (by decide +kernel) (pa_cons (pv 1) pa_nil)) pa_nil)))))) pss_nil)
    (pss_cons (ps_if (pt_cmpR op_eq (pe_ix ix_tup (pv 0) pe_int (fun _ _ => rfl)) pe_str (nomark _)) (pss_one (ps_ret (pe_tup (pa_cons pe_str (pa_cons (pe_callTy call_tuple_of (by rfl) T.z_tuple (by decide +kernel) (pa_cons (pe_lc (own := [("part", 2), ("word", 3), ("_", 4)]) (g := (gTup K 2 (gCons (gTup K 2 (gCons (gName 3) (gCons (gName 4) gNil))) (gCons (gName 2) gNil)))) (tt := tYes) (by rfl) sc_rebuild.nd (PKZ.pi_zipP (by rfl) T.z_zip (pa_cons (pe_ix ix_tup (pv 0) pe_int (fun _ _ => rfl)) (pa_cons (pv 1) pa_nil))) (blkOk_by (N := ["term", "parts", "part", "word", "_"]) (sc := defScope s_rebuild) (by decide +kernel)) (fun _ _ _ _ _ => (pg_tup (by rfl) (pgs_cons (pg_tup (by rfl) (pgs_cons (pg_name (i := 3) sc_rebuild.nd rfl (Or.inl rfl)) (pgs_cons (pg_name (i := 4) sc_rebuild.nd rfl (Or.inl rfl)) pgs_nil))) (pgs_cons (pg_name (i := 2) sc_rebuild.nd rfl (Or.inl rfl)) pgs_nil)))) (fun _ _ _ _ _ => pts_nil) (fun _ _ _ _ _ => (pe_tup (pa_cons (pv 3) (pa_cons (pv 2) pa_nil))))) pa_nil)) pa_nil))))) pss_nil)
    (pss_cons (ps_if (pt_cmpR op_in_seq (pe_ix ix_tup (pv 0) pe_int (fun _ _ => rfl)) (pe_glob (v := .ref aF) rfl T.g_FO rfl) rfl) (pss_one (ps_ret (pe_tup (pa_cons (pe_ix ix_tup (pv 0) pe_int (fun _ _ => rfl)) (StX.pa_star (pv 1) pa_nil))))) pss_nil)
    (pss_one (ps_ret (pv 0)))))), ?_⟩
  have lw : ws.length = ks.length := by rw [da.lenD, List.length_map]
  cases t with
  | node c ts =>
    unfold Tm.d at hv
    obtain ⟨b, x, y, z, rfl, hs, h1, h2, h3⟩ := Dt.t3 hv
    obtain rfl := h1.s
    refine vTx rfl hs rfl ⟨rfl, _, rfl, sT rfl (vTx rfl hs rfl ?_)⟩
    refine ⟨_, rfl, a, ws, rfl, .inl ⟨hS, fun p hp => ⟨small (by show 3 ≤ _; decide), fun p2 hp2 => ?_⟩⟩⟩
    refine q _ _ ((same_new hp).trans (same_new hp2)) ?_
    show Dt K _ _ (Tm.node c ks).d
    unfold Tm.d
    rw [Tm.ds_map]
    exact Dt.mk3 hp2 (.str "node") (h2.new hp) (.tup (SqT.of upd_same) (da.same (same_new hp)))
  | map es =>
    unfold Tm.d at hv
    obtain ⟨b, x, y, rfl, hs, h1, h2⟩ := Dt.t2 hv
    obtain rfl := h1.s
    obtain ⟨b2, ys, rfl, hb, hys⟩ := Dt.tn h2
    rw [Tm.es_map] at hys
    have ly : ys.length = es.length := by rw [hys.lenD, List.length_map]
    have lk' : ks.length = es.length := by rw [lk]; unfold Tm.kids; rw [List.length_map]
    refine vTx rfl hs rfl ⟨rfl, _, rfl, sF (by decide +kernel) (vTx rfl hs rfl ⟨rfl, _, rfl, sT rfl ?_⟩)⟩
    refine vTx rfl hs rfl ⟨_, rfl, .t, .l, b2, a, ys, ws, rfl, hb, hS, fun D hD => lcS (K := K) (PKZ.walk_zipP (n := ws.length) (by omega)) hD (by omega) (fun ds => ds = (List.zipWith (fun (e : Str × Tm) (k : Tm) => Tm.ent (e.1, k)) (es.take ds.length) (ks.take ds.length))) rfl (fun H' s => ⟨Same.seqT s hb, s.seq hS⟩) ?_ ?_⟩
    · rintro i x H1 H2 ds R hi s ⟨U, x1, y1, rfl, hU, rfl, g1, g2⟩ jd len r
      obtain ⟨e, ge, dx⟩ := DtAll.getX hys g1
      obtain ⟨d2, gd, dy⟩ := DtAll.getX da g2
      rw [List.getElem?_map] at ge gd
      cases e0 : es[i]? with
      | none => rw [e0] at ge; cases ge
      | some en =>
      cases k0 : ks[i]? with
      | none => rw [k0] at gd; cases gd
      | some kn =>
        rw [e0] at ge
        rw [k0] at gd
        cases ge
        cases gd
        unfold Tm.ent at dx
        obtain ⟨a1, u1, w1, rfl, hs1, j1, j2⟩ := Dt.t2 (dx.same s)
        obtain rfl := j1.s
        refine ⟨U, _, rfl, SqT.of upd_same, rfl, _, _, rfl, ⟨a1, _, rfl, Same.seqT (same_new hU) hs1, rfl, _, _, rfl, _, _, rfl, rfl, _, _, rfl, rfl, rfl, _, rfl, _, rfl, small (by show 2 ≤ _; decide), fun p hp => r (Tm.ent (en.1, kn)) _ _ ((same_new hU).trans (same_new hp)) ?_ ?_⟩⟩
        · unfold Tm.ent
          exact Dt.mk2 hp (.str _) ((dy.same s).new hU)
        · rw [List.length_append, len, show i + [Tm.ent (en.1, kn)].length = i + 1 from rfl, List.take_add_one, List.take_add_one, e0, k0]
          rw [len] at jd
          rw [List.zipWith_append (by rw [List.length_take, List.length_take]; omega), ← jd]; rfl
    · rintro H' vs ds s hw dz len jd
      rw [len, lw, List.take_length, lk', List.take_length] at jd
      refine ⟨D, _, rfl, .inl ⟨SqL.of hw, fun p hp => ⟨small (by show 2 ≤ _; decide), fun p2 hp2 => ?_⟩⟩⟩
      refine q _ _ ((s.trans (same_new hp)).trans (same_new hp2)) ?_
      show Dt K _ _ (Tm.map (List.zipWith (fun e k => (e.1, k)) es ks)).d
      unfold Tm.d
      rw [Tm.es_map, List.map_zipWith]
      rw [jd] at dz
      exact Dt.mk2 hp2 (.str "map") (.tup (SqT.of upd_same) (dz.same (same_new hp)))
  | form g ts =>
    unfold Tm.d at hv
    obtain ⟨b, xs, rfl, hs, db⟩ := Dt.tn hv
    cases db with
    | cons h1 dr =>
    obtain rfl := h1.s
    rename_i vs1
    refine vTx rfl hs (atI_nat (j := 0) rfl) ⟨rfl, _, rfl, sF g.ne_node (vTx rfl hs (atI_nat (j := 0) rfl) ⟨rfl, _, rfl, sF g.ne_map (vTx (v := .str g.s) rfl hs (atI_nat (j := 0) rfl) ⟨aF, _, rfl, .inr (T.forms H), rfl, rfl, _, rfl, ?_⟩)⟩)⟩
    rw [if_neg Bool.false_ne_true, g.inF]
    refine iteT (vTx (v := .str g.s) rfl hs (atI_nat (j := 0) rfl) ⟨_, rfl, a, ws, rfl, .inr hS, ?_⟩)
    refine ⟨small (by rw [List.length_cons, List.append_nil, lw]; omega), fun p hp => q _ _ (same_new hp) ?_⟩
    show Dt K _ _ (Tm.form g ks).d
    unfold Tm.d
    rw [Tm.ds_map, List.append_nil]
    exact .tup (SqT.of upd_same) (.cons (.str _) (da.same (same_new hp)))
  | int n =>
    have hv0 := hv
    unfold Tm.d at hv
    obtain ⟨b, x, y, rfl, hs, h1, h2⟩ := Dt.t2 hv
    obtain rfl := h1.s
    refine vTx rfl hs rfl ⟨rfl, _, rfl, sF (by decide +kernel) (vTx rfl hs rfl ⟨rfl, _, rfl, sF (by decide +kernel) (vTx (v := .str "int") rfl hs rfl ⟨aF, _, rfl, .inr (T.forms H), rfl, rfl, _, rfl, ?_⟩)⟩)⟩
    rw [if_neg Bool.false_ne_true, show inV (.str "int") [V.str "get", V.str "set", V.str "plus", V.str "minus"] = false by decide +kernel]
    exact iteF ⟨_, rfl, q _ _ (Same.refl H) hv0⟩
  | name n =>
    have hv0 := hv
    unfold Tm.d at hv
    obtain ⟨b, x, y, rfl, hs, h1, h2⟩ := Dt.t2 hv
    obtain rfl := h1.s
    refine vTx rfl hs rfl ⟨rfl, _, rfl, sF (by decide +kernel) (vTx rfl hs rfl ⟨rfl, _, rfl, sF (by decide +kernel) (vTx (v := .str "name") rfl hs rfl ⟨aF, _, rfl, .inr (T.forms H), rfl, rfl, _, rfl, ?_⟩)⟩)⟩
    rw [if_neg Bool.false_ne_true, show inV (.str "name") [V.str "get", V.str "set", V.str "plus", V.str "minus"] = false by decide +kernel]
    exact iteF ⟨_, rfl, q _ _ (Same.refl H) hv0⟩
  | addr n =>
    have hv0 := hv
    unfold Tm.d at hv
    obtain ⟨b, x, y, rfl, hs, h1, h2⟩ := Dt.t2 hv
    obtain rfl := h1.s
    refine vTx rfl hs rfl ⟨rfl, _, rfl, sF (by decide +kernel) (vTx rfl hs rfl ⟨rfl, _, rfl, sF (by decide +kernel) (vTx (v := .str "addr") rfl hs rfl ⟨aF, _, rfl, .inr (T.forms H), rfl, rfl, _, rfl, ?_⟩)⟩)⟩
    rw [if_neg Bool.false_ne_true, show inV (.str "addr") [V.str "get", V.str "set", V.str "plus", V.str "minus"] = false by decide +kernel]
    exact iteF ⟨_, rfl, q _ _ (Same.refl H) hv0⟩
  | var n =>
    have hv0 := hv
    unfold Tm.d at hv
    obtain ⟨b, x, y, rfl, hs, h1, h2⟩ := Dt.t2 hv
    obtain rfl := h1.s
    refine vTx rfl hs rfl ⟨rfl, _, rfl, sF (by decide +kernel) (vTx rfl hs rfl ⟨rfl, _, rfl, sF (by decide +kernel) (vTx (v := .str "meta") rfl hs rfl ⟨aF, _, rfl, .inr (T.forms H), rfl, rfl, _, rfl, ?_⟩)⟩)⟩
    rw [if_neg Bool.false_ne_true, show inV (.str "meta") [V.str "get", V.str "set", V.str "plus", V.str "minus"] = false by decide +kernel]
    exact iteF ⟨_, rfl, q _ _ (Same.refl H) hv0⟩
end
end PK
namespace PK
open PySem L2
/-! assembled -/
def HdD (h : Tm × Nat) : PyData := .tuple [h.1.d, .int (h.2 : Nat)]
/-- what a row of heads makes, from its end: the terms that stand then, the last one first -/
inductive PreL : List Tm → List (Tm × Nat) → Prop
  | nil : PreL [] []
  | leaf {p : Tm} {rest : List Tm} {hs : List (Tm × Nat)} : PreL rest hs → PreL (p :: rest) ((p, 0) :: hs)
  | node {p : Tm} {ts rest : List Tm} {hs : List (Tm × Nat)} {n : Nat} : PreL (ts ++ rest) hs → ts.length = n → 0 < n → n = p.kids.length → PreL (p.withKids ts :: rest) ((p, n) :: hs)
theorem PreL.one : ∀ {hs : List (Tm × Nat)} {a b : List Tm}, PreL a hs → PreL b hs → a = b
  | [], _, _, .nil, .nil => rfl
  | (p, 0) :: hs, _, _, .leaf h, .leaf h' => by rw [PreL.one h h']
  | (p, 0) :: hs, _, _, .node _ _ h0 _, _ => absurd h0 (Nat.lt_irrefl _)
  | (p, 0) :: hs, _, _, _, .node _ _ h0 _ => absurd h0 (Nat.lt_irrefl _)
  | (p, n + 1) :: hs, _, _, .node h l _ _, .node h' l' _ _ => by
    obtain ⟨e1, e2⟩ := List.append_inj (PreL.one h h') (l.trans l'.symm)
    rw [e1, e2]
theorem PreL.len_le : ∀ {hs : List (Tm × Nat)} {a : List Tm}, PreL a hs → a.length ≤ hs.length
  | _, _, .nil => Nat.le_refl _
  | _, _, .leaf h => by rw [List.length_cons, List.length_cons]; have := h.len_le; omega
  | _, _, .node h l h0 _ => by rw [List.length_cons, List.length_cons]; have := h.len_le; rw [List.length_append] at this; omega
theorem PreL.drop : ∀ {hs : List (Tm × Nat)} {a : List Tm} (k : Nat), PreL a hs → ∃ b, PreL b (hs.drop k)
  | hs, a, 0, h => ⟨a, h⟩
  | _, _, k + 1, .nil => ⟨[], .nil⟩
  | _, _, k + 1, .leaf h => h.drop k
  | _, _, k + 1, .node h _ _ _ => h.drop k
def spAsm (K : PySem.W.Frag) : Sp := fun vs H Q _ => ∃ (a : Addr) (ws : List V) (hs : List (Tm × Nat)) (t : Tm), vs = [.ref a] ∧ SqL K H a ws ∧ DtAll K H ws (hs.map HdD) ∧ PreL [t] hs ∧ hs.length ≤ 1000000 ∧
  ∀ (H' : Hp) (v : V), Same H H' → Dt K H' v t.d → Q v H'
theorem DtAll.rev {K : PySem.W.Frag} {H : Hp} : ∀ {xs : List V} {ds : List PyData}, DtAll K H xs ds → DtAll K H xs.reverse ds.reverse
  | _, _, .nil => .nil
  | _, _, .cons h t => by
    rw [List.reverse_cons, List.reverse_cons]
    exact t.rev.append (.cons h .nil)
section
variable {P : Program} {w : World} {K : PySem.W.Frag} {mg : Str → Option Value} {base : Heap} {aF : Addr}
abbrev s_assembled : Stmt := topS 7
theorem sc_assembled : FnScope ["heads", "made", "part", "many", "parts"] ["heads"] (defScope s_assembled) := ⟨rfl, rfl, rfl, by decide +kernel, rfl, by decide +kernel, by decide +kernel⟩
-- slots: 0:heads 1:made 2:part 3:many 4:parts
theorem ok_asm {f : Addr} {fd : FuncData} (F : Fun K "assembled" "assembled" s_assembled f fd) (T : TxtZ K mg aF) (C_rebuild : C8.Cal P w K mg base 1 "rebuild" (spRebuild K) []) : FnOk P w K mg base CX0 2 f fd ["heads"] (spAsm K) := by
  refine F.ok sc_assembled (fun vs H Q E h => ?_) (fun cdv A outer s H vs Q E hr h => ?_)
  · obtain ⟨a, ws, hs, t, rfl, _⟩ := h
    rfl
  obtain ⟨a, ws, hs, t, rfl, hS, da, hp, hn, q⟩ := h
  refine ⟨_, (pss_cons (ps_set (i := 1) sc_assembled.nd rfl (Or.inl rfl) (pe_lst pa_nil))
    (pss_cons (ps_for PassesOwn.never rfl (RT.pi_revA (by rfl) T.z_reversed (pv 0)) (pg_tup (by rfl) (pgs_cons (pg_name (i := 2) sc_assembled.nd rfl (Or.inl rfl)) (pgs_cons (pg_name (i := 3) sc_assembled.nd rfl (Or.inl rfl)) pgs_nil))) (pss_one (ps_if (pt_truth (pv 3) (by intro _; rfl)) (pss_cons (ps_set (i := 4) sc_assembled.nd rfl (Or.inl rfl) (pe_revL (pe_slice sl_list (pv 1) (po_some (pe_un un_neg (pv 3))) po_none)))
    (pss_cons (L2.PKR.ps_delTail (pv 1) (pe_un un_neg (pv 3)))
    (pss_one (ps_expr (pe_bm PySem.F.plainAttrs_list PySem.F.slot_list_append PySem.F.type_list_append mt_append (pv 1) (pa_cons (C8.pe_c C_rebuild hr (by decide) rfl (pa_cons (pv 2) (pa_cons (pv 4) pa_nil))) pa_nil)))))) (pss_one (ps_expr (pe_bm PySem.F.plainAttrs_list PySem.F.slot_list_append PySem.F.type_list_append mt_append (pv 1) (pa_cons (pv 2) pa_nil)))))))
    (pss_one (ps_ret (pe_ix ix_list (pv 1) pe_int (fun _ _ => rfl)))))), ?_⟩
  have lw : ws.length = hs.length := by rw [da.lenD, List.length_map]
  refine ⟨Nat.zero_le _, fun m hm => ?_⟩
  refine ⟨_, rfl, a, ws, rfl, .inl ⟨Same.seq (same_new hm) hS, for_it walk_rev (fun i σ H' => ∃ (st : List Tm) (mv : List V) (o1 o2 o3 : Option V), σ = [some (.ref a), some (.ref m), o1, o2, o3] ∧ Same H H' ∧ PreL st (hs.drop (hs.length - i)) ∧ H' m = some (.lst mv) ∧ DtAll K H' mv (st.reverse.map Tm.d)) ?_ ?_ ?_ ?_⟩⟩
  · exact ⟨[], [], _, _, _, rfl, same_new hm, by rw [Nat.sub_zero, List.drop_length]; exact .nil, upd_same, .nil⟩
  · rintro i σ H' hi ⟨st, mv, o1, o2, o3, rfl, s, _⟩
    exact s.seq hS
  · rintro i x σ H' H' hi ⟨st, mv, o1, o2, o3, rfl, s, pr, hmv, dm⟩ ⟨rfl, gx⟩
    obtain ⟨d, gd, dx⟩ := DtAll.getX da gx
    rw [List.getElem?_map] at gd
    have ei : ws.length - 1 - i = hs.length - (i + 1) := by omega
    rw [ei] at gd
    cases e0 : hs[hs.length - (i + 1)]? with
    | none => rw [e0] at gd; cases gd
    | some hd =>
    rw [e0] at gd
    cases gd
    obtain ⟨p, n⟩ := hd
    unfold HdD at dx
    obtain ⟨a1, u1, w1, rfl, hs1, j1, j2⟩ := Dt.t2 (dx.same s)
    obtain rfl := j2.i
    obtain ⟨st2, pr2⟩ := hp.drop (hs.length - (i + 1))
    have ed : hs.drop (hs.length - (i + 1)) = (p, n) :: hs.drop (hs.length - i) := by
      have := List.getElem?_eq_some_iff.mp e0
      obtain ⟨hlt, hget⟩ := this
      rw [List.drop_eq_getElem_cons hlt, hget, show hs.length - (i + 1) + 1 = hs.length - i by omega]
    have lmv : mv.length = st.length := by rw [dm.lenD, List.length_map, List.length_reverse]
    have lst := pr.len_le
    rw [List.length_drop] at lst
    refine ⟨a1, _, rfl, hs1, rfl, _, _, rfl, _, _, rfl, rfl, ⟨_, rfl, (n : Int) != 0, rfl, ?_⟩⟩
    rw [ed] at pr2
    cases pr2 with
    | leaf h =>
      refine iteF ⟨_, rfl, .inl ⟨rfl, _, SqL.of hmv⟩, _, rfl, m, mv, _, rfl, rfl, hmv, smallL (by omega), ?_⟩
      obtain rfl := PreL.one h pr
      refine ⟨_, mv ++ [u1], _, _, _, rfl, Same.upd s hm, by rw [ed]; exact .leaf h, upd_same, ?_⟩
      rw [List.reverse_cons, List.map_append]
      exact (dm.append (.cons j1 .nil)).upd hmv
    | node h l h0 lk =>
      rename_i ts rest
      obtain rfl := PreL.one h pr
      rw [List.length_append] at lmv lst
      have en0 : ((n : Int) != 0) = true := by
        rw [bne_iff_ne]; omega
      rw [en0]
      rw [List.reverse_append, List.map_append] at dm
      obtain ⟨y1, y2, rfl, dy1, dy2⟩ := DtAll.splitR dm
      have ly2 : y2.length = n := by rw [dy2.lenD, List.length_map, List.length_reverse]; exact l
      have ecut : cutV (y1 ++ y2) (some (-(n : Int))) none = y2 := by
        unfold cutV
        have : HT.sIx (y1 ++ y2).length 0 (some (-(n : Int))) = y1.length := by
          show (if (-(n : Int)) < 0 then (-(n : Int) + ((y1 ++ y2).length : Int)).toNat else min (-(n : Int)).toNat (y1 ++ y2).length) = _
          rw [if_pos (by omega), List.length_append]
          omega
        rw [this, HT.sIx_none, List.drop_left, List.length_append, Nat.add_sub_cancel_left, List.take_length]
      refine iteT ⟨_, rfl, _, rfl, n, rfl, _, rfl, m, _, rfl, SqL.of hmv, fun p1 hp1 => ⟨p1, _, rfl, SqL.of upd_same, fun p2 hp2 => ?_⟩⟩
      rw [ecut] at hp2 ⊢
      have sp := (same_new (o := .lst y2) hp1).trans (same_new (o := .lst y2.reverse) hp2)
      have hm2 := sp _ _ hmv
      refine ⟨_, rfl, _, rfl, n, rfl, m, _, n, rfl, rfl, hm2, h0, by rw [List.length_append]; omega, ?_⟩
      have ed2 : (y1 ++ y2).take ((y1 ++ y2).length - n) = y1 := by
        rw [List.length_append, ly2, Nat.add_sub_cancel, List.take_left]
      rw [ed2]
      have nm2 : m ≠ p2 := ne_of_none ((same_new (o := .lst y2) hp1) _ _ hmv) hp2
      refine ⟨_, rfl, .inl ⟨rfl, _, SqL.of upd_same⟩, _, rfl, _, rfl, u1, p, p2, y2.reverse, ts, rfl, (j1.same sp).updL hm2, SqL.of (by rw [upd_ne nm2.symm, upd_same]), ?_, by rw [l]; exact lk, by omega, fun H4 v4 s4 d4 => ?_⟩
      · have := (dy2.same sp).rev.upd (us := y1) hm2
        rw [← List.map_reverse, List.reverse_reverse] at this
        exact this
      have hm4 := s4 _ _ (upd_same (H := upd (upd H' p1 (.lst y2)) p2 (.lst y2.reverse)) (a := m) (o := .lst y1))
      have sm : Same H H4 := (Same.upd (s.trans sp) hm).trans s4
      refine ⟨m, y1, _, rfl, rfl, hm4, smallL (by have := dy1.lenD; rw [List.length_map, List.length_reverse] at this; omega), _, y1 ++ [v4], _, _, _, rfl, Same.upd sm hm, by rw [ed]; exact .node h l h0 lk, upd_same, ?_⟩
      rw [List.reverse_cons, List.map_append]
      exact ((((dy1.same sp).upd hm2).same s4).append (.cons d4 .nil)).upd hm4
  · rintro σ H' ⟨st, mv, o1, o2, o3, rfl, s, pr, hmv, dm⟩
    rw [lw, Nat.sub_self, List.drop_zero] at pr
    obtain rfl := PreL.one hp pr
    cases dm with
    | cons d1 dr =>
      cases dr
      exact ⟨_, rfl, m, _, _, _, rfl, rfl, SqL.of hmv, atI_nat (j := 0) rfl, q _ _ s d1⟩
end
end PK
namespace PK
open PySem L2
/-! what filling and translating mean -/
/-- the last pair of a key -/
def lookA {α β : Type} [DecidableEq α] : List (α × β) → α → Option β
  | [], _ => none
  | (k, v) :: r, s => match lookA r s with | some t => some t | none => if k = s then some v else none
theorem lookA_map {α β γ : Type} [DecidableEq α] (f : β → γ) : ∀ (l : List (α × β)) (s : α), lookA (l.map fun p => (p.1, f p.2)) s = (lookA l s).map f
  | [], _ => rfl
  | (k, v) :: r, s => by
    rw [List.map_cons]
    unfold lookA
    rw [lookA_map f r s]
    cases lookA r s with
    | some t => rfl
    | none => by_cases e : k = s <;> simp [e]
theorem lookA_mem {α β : Type} [DecidableEq α] : ∀ {l : List (α × β)} {s : α} {t : β}, lookA l s = some t → (s, t) ∈ l
  | (k, v) :: r, s, t, h => by
    unfold lookA at h
    cases e : lookA r s with
    | some u =>
      rw [e] at h
      cases h
      exact .tail _ (lookA_mem e)
    | none =>
      rw [e] at h
      by_cases ek : k = s
      · subst ek; simp at h; subst h; exact .head _
      · simp [ek] at h
theorem lookA_has {α β : Type} [DecidableEq α] : ∀ {l : List (α × β)} {s : α}, s ∈ l.map Prod.fst → ∃ t, lookA l s = some t
  | (k, v) :: r, s, h => by
    unfold lookA
    cases e : lookA r s with
    | some u => exact ⟨u, rfl⟩
    | none =>
      rcases List.mem_cons.mp h with h | h
      · exact ⟨v, by simp [h]⟩
      · obtain ⟨t, e2⟩ := lookA_has h
        rw [e] at e2; cases e2
abbrev Tab := List (Str × Tm)
def Tm.filK (tab : Tab) (t : Tm) (ks : List Tm) : Tm := match t with
  | .var s => (lookA tab s).getD (.var s)
  | t => t.withKids ks
def Tm.fill (tab : Tab) (t : Tm) : Tm := t.filK tab (t.kids.attach.map fun k => k.1.fill tab)
termination_by sizeOf t
decreasing_by exact Tm.kid_lt k.2
theorem Tm.fill_eq (tab : Tab) (t : Tm) : t.fill tab = t.filK tab (t.kids.map (Tm.fill tab)) := by
  rw [Tm.fill, List.attach_map_val (f := Tm.fill tab)]
structure Rw where
  nm : Str
  ps : List Str
  t : Tm
def Rw.d (r : Rw) : PyData := .tuple [.str r.nm, .tuple (r.ps.map .str), r.t.d]
def rowOf (R : List Rw) (c : Str) : Option Rw := R.find? fun r => decide (r.nm = c)
theorem rowOf_mem {R : List Rw} (hn : (R.map Rw.nm).Nodup) {r : Rw} (h : r ∈ R) : rowOf R r.nm = some r := by
  unfold rowOf
  induction R with
  | nil => cases h
  | cons x R ih =>
    rw [List.map_cons, List.nodup_cons] at hn
    rcases List.mem_cons.mp h with rfl | h
    · rw [List.find?_cons_of_pos (by simp)]
    · have : ¬ x.nm = r.nm := fun e => hn.1 (by rw [e]; exact List.mem_map.mpr ⟨r, h, rfl⟩)
      rw [List.find?_cons_of_neg (by simp [this]), ih hn.2 h]
def Tm.trK (R : List Rw) (t : Tm) (ks : List Tm) : Tm := match t with
  | .node c ts => (match rowOf R c with | some r => r.t.fill (r.ps.zip ks) | none => .node c ks)
  | t => t.withKids ks
def Tm.trans (R : List Rw) (t : Tm) : Tm := t.trK R (t.kids.attach.map fun k => k.1.trans R)
termination_by sizeOf t
decreasing_by exact Tm.kid_lt k.2
theorem Tm.trans_eq (R : List Rw) (t : Tm) : t.trans R = t.trK R (t.kids.map (Tm.trans R)) := by
  rw [Tm.trans, List.attach_map_val (f := Tm.trans R)]
def trTab (R : List Rw) (tab : Tab) : Tab := tab.map fun p => (p.1, p.2.trans R)
theorem trTab_zip (R : List Rw) : ∀ (ps : List Str) (ts : List Tm), trTab R (ps.zip ts) = ps.zip (ts.map (Tm.trans R))
  | [], _ => rfl
  | _ :: _, [] => rfl
  | p :: ps, t :: ts => by
    rw [List.zip_cons_cons, List.map_cons, List.zip_cons_cons, ← trTab_zip R ps ts]; rfl
/-! height, parts -/
def Tm.ht (t : Tm) : Nat := 1 + (t.kids.attach.map fun k => k.1.ht).foldr max 0
termination_by sizeOf t
decreasing_by exact Tm.kid_lt k.2
theorem Tm.ht_eq (t : Tm) : t.ht = 1 + (t.kids.map Tm.ht).foldr max 0 := by
  rw [Tm.ht, List.attach_map_val (f := Tm.ht)]
theorem fmax_le {n : Nat} : ∀ {l : List Nat}, (∀ x ∈ l, x ≤ n) → l.foldr max 0 ≤ n
  | [], _ => Nat.zero_le _
  | x :: l, h => by
    have h1 := h x List.mem_cons_self
    have h2 := fmax_le (n := n) (l := l) fun y hy => h y (List.mem_cons_of_mem _ hy)
    rw [List.foldr_cons]
    omega
theorem le_fmax : ∀ {l : List Nat} {x : Nat}, x ∈ l → x ≤ l.foldr max 0
  | y :: l, x, h => by
    rw [List.foldr_cons]
    rcases List.mem_cons.mp h with rfl | h
    · omega
    · have := le_fmax h; omega
theorem Tm.ht_kid {t k : Tm} (h : k ∈ t.kids) : k.ht + 1 ≤ t.ht := by
  have := le_fmax (List.mem_map.mpr ⟨k, h, rfl⟩ : k.ht ∈ t.kids.map Tm.ht)
  rw [Tm.ht_eq t]; omega
theorem Tm.ht_le {t : Tm} {n : Nat} (h : ∀ k ∈ t.kids, k.ht ≤ n) : t.ht ≤ n + 1 := by
  rw [Tm.ht_eq t]
  have := fmax_le (n := n) (l := t.kids.map Tm.ht) fun x hx => by
    obtain ⟨k, hk, rfl⟩ := List.mem_map.mp hx
    exact h k hk
  omega
theorem Tm.ht_pos (t : Tm) : 1 ≤ t.ht := by rw [Tm.ht_eq t]; omega
theorem zip_snd : ∀ {es : List (Str × Tm)} {ks : List Tm}, ks.length = es.length → List.zipWith (fun (e : Str × Tm) (k : Tm) => (Prod.snd ((e.1, k) : Str × Tm))) es ks = ks
  | [], [], _ => rfl
  | [], _ :: _, h => nomatch h
  | _ :: _, [], h => nomatch h
  | e :: es, k :: ks, h => by rw [List.zipWith_cons_cons, zip_snd (Nat.succ.inj h)]
theorem Tm.kids_with {t : Tm} {ks : List Tm} (h : ks.length = t.kids.length) : (t.withKids ks).kids = ks := by
  cases t with
  | node c ts => rfl
  | form c ts => rfl
  | map es =>
    have h : ks.length = es.length := by
      have : (Tm.map es).kids.length = es.length := List.length_map ..
      rw [this] at h; exact h
    show (List.zipWith (fun e k => (e.1, k)) es ks).map Prod.snd = ks
    rw [List.map_zipWith]
    exact zip_snd h
  | int _ => exact (List.length_eq_zero_iff.mp h).symm
  | name _ => exact (List.length_eq_zero_iff.mp h).symm
  | addr _ => exact (List.length_eq_zero_iff.mp h).symm
  | var _ => exact (List.length_eq_zero_iff.mp h).symm
theorem Tm.with_nil {t : Tm} (h : t.kids = []) : t.withKids [] = t := by
  cases t with
  | node c ts => have h : ts = [] := h; rw [h]; rfl
  | form c ts => have h : ts = [] := h; rw [h]; rfl
  | map es =>
    have : es = [] := List.map_eq_nil_iff.mp h
    rw [this]; rfl
  | _ => rfl
theorem Tm.size_pos (t : Tm) : 1 ≤ t.size := by rw [Tm.size_eq t]; omega
/-- a property of all parts -/
inductive Al (p : Tm → Prop) : Tm → Prop
  | mk {t : Tm} : p t → (∀ k ∈ t.kids, Al p k) → Al p t
theorem Al.at_ {p : Tm → Prop} {t : Tm} (h : Al p t) : p t := by cases h; assumption
theorem Al.kid {p : Tm → Prop} {t k : Tm} (h : Al p t) (hk : k ∈ t.kids) : Al p k := by cases h with | mk _ h => exact h k hk
def okN (R : List Rw) (t : Tm) : Prop := t.kids.length ≤ 1000 ∧ ∀ c ts, t = .node c ts → ∃ r ∈ R, r.nm = c ∧ r.ps.length = ts.length
def okT (R : List Rw) : Tm → Prop := Al (okN R)
def okP (ps : List Str) : Tm → Prop := Al fun t => t.kids.length ≤ 1000 ∧ ∀ s, t = .var s → s ∈ ps
structure okR (R : List Rw) : Prop where
  nd : (R.map Rw.nm).Nodup
  len : R.length ≤ 1000
  ar : ∀ r ∈ R, r.ps.length ≤ 1000
  p : ∀ r ∈ R, okP r.ps r.t
  node : ∀ r ∈ R, ∃ c ts, r.t = .node c ts
/-- what waits to be translated -/
structure Itm where
  part : Tm
  b : Option Tab
  dep : Nat
def Itm.f (R : List Rw) (it : Itm) (t : Tm) : Tm := match it.b with
  | none => t.trans R
  | some tab => t.fill (trTab R tab)
def Itm.res (R : List Rw) (it : Itm) : Tm := it.f R it.part
def Itm.ok (R : List Rw) (it : Itm) : Prop := match it.b with
  | none => okT R it.part
  | some tab => okP (tab.map Prod.fst) it.part ∧ (∀ p ∈ tab, okT R p.2)
/-- a metavariable that stands for something -/
def Itm.s1 (it : Itm) : Itm := match it.b, it.part with
  | some tab, .var s => (match lookA tab s with | some t => ⟨t, none, it.dep⟩ | none => it)
  | _, _ => it
theorem Itm.s1_dep (it : Itm) : it.s1.dep = it.dep := by
  unfold Itm.s1
  split
  · split <;> rfl
  · rfl
theorem Itm.s1_res {R : List Rw} (it : Itm) : it.s1.res R = it.res R := by
  obtain ⟨part, b, dep⟩ := it
  unfold Itm.s1
  dsimp only
  split
  · rename_i tab s
    cases e : lookA tab s with
    | none => rfl
    | some t =>
      show t.trans R = (Tm.var s).fill (trTab R tab)
      rw [Tm.fill_eq]
      show _ = (lookA (trTab R tab) s).getD (.var s)
      unfold trTab
      rw [lookA_map, e]; rfl
  · rfl
theorem Itm.s1_ok {R : List Rw} {it : Itm} (h : it.ok R) : it.s1.ok R := by
  obtain ⟨part, b, dep⟩ := it
  unfold Itm.s1
  dsimp only
  split
  · rename_i tab s
    cases e : lookA tab s with
    | none => exact h
    | some t => exact h.2 (s, t) (lookA_mem e)
  · exact h
theorem Itm.s1_var {R : List Rw} {it : Itm} (h : it.ok R) : it.s1.b ≠ none → ∀ s, it.s1.part ≠ .var s := by
  obtain ⟨part, b, dep⟩ := it
  unfold Itm.s1
  dsimp only
  split
  · rename_i tab s
    obtain ⟨t, e⟩ := lookA_has (h.1.at_.2 s rfl)
    rw [e]
    exact fun h => absurd rfl h
  · rename_i hx
    intro hb s e
    dsimp only at hb e
    cases b with
    | none => exact hb rfl
    | some tab => exact hx tab s rfl e
/-- a node of the source -/
def Itm.s2 (R : List Rw) (it : Itm) : Itm := match it.b, it.part with
  | none, .node c ts => (match rowOf R c with | some r => ⟨r.t, some (r.ps.zip ts), it.dep⟩ | none => it)
  | _, _ => it
theorem Itm.s2_dep {R : List Rw} (it : Itm) : (it.s2 R).dep = it.dep := by
  unfold Itm.s2
  split
  · split <;> rfl
  · rfl
theorem Itm.s2_res {R : List Rw} (it : Itm) : (it.s2 R).res R = it.res R := by
  obtain ⟨part, b, dep⟩ := it
  unfold Itm.s2
  dsimp only
  split
  · rename_i c ts
    cases e : rowOf R c with
    | none => rfl
    | some r =>
      show r.t.fill (trTab R (r.ps.zip ts)) = (Tm.node c ts).trans R
      rw [Tm.trans_eq, trTab_zip]
      unfold Tm.trK
      dsimp only
      rw [e]; rfl
  · rfl
theorem Itm.s2_ok {R : List Rw} (O : okR R) {it : Itm} (h : it.ok R) : (it.s2 R).ok R := by
  obtain ⟨part, b, dep⟩ := it
  unfold Itm.s2
  dsimp only
  split
  · rename_i c ts
    obtain ⟨r, hr, rfl, hl⟩ := (show okT R (.node c ts) from h).at_.2 c ts rfl
    rw [rowOf_mem O.nd hr]
    refine ⟨?_, fun p hp => ?_⟩
    · rw [List.map_fst_zip (by omega)]; exact O.p r hr
    · exact (show okT R (.node r.nm ts) from h).kid (List.of_mem_zip hp).2
  · exact h
/-- what both steps lead to -/
structure Itm.can (R : List Rw) (it : Itm) : Prop where
  ok : it.ok R
  v : it.b ≠ none → ∀ s, it.part ≠ .var s
  n : it.b = none → ∀ c ts, it.part ≠ .node c ts
theorem Itm.s2_can {R : List Rw} (O : okR R) {it : Itm} (h : it.ok R) (hv : it.b ≠ none → ∀ s, it.part ≠ .var s) : (it.s2 R).can R := by
  refine ⟨Itm.s2_ok O h, ?_, ?_⟩
  · obtain ⟨part, b, dep⟩ := it
    unfold Itm.s2
    dsimp only
    split
    · rename_i c ts
      obtain ⟨r, hr, rfl, hl⟩ := (show okT R (.node c ts) from h).at_.2 c ts rfl
      rw [rowOf_mem O.nd hr]
      obtain ⟨c', ts', e⟩ := O.node r hr
      intro _ s e2
      rw [show r.t = Tm.var s from e2] at e
      cases e
    · exact hv
  · obtain ⟨part, b, dep⟩ := it
    unfold Itm.s2
    dsimp only
    split
    · rename_i c ts
      obtain ⟨r, hr, rfl, hl⟩ := (show okT R (.node c ts) from h).at_.2 c ts rfl
      rw [rowOf_mem O.nd hr]
      intro e; cases e
    · rename_i hx
      intro hb c ts e
      exact hx c ts hb e
theorem Itm.can_len {R : List Rw} {it : Itm} (h : it.can R) : it.part.kids.length ≤ 1000 := by
  obtain ⟨part, b, dep⟩ := it
  cases b with
  | none => exact (show okT R part from h.ok).at_.1
  | some tab => exact (h.ok.1).at_.1
theorem Itm.can_kid {R : List Rw} {it : Itm} (h : it.can R) {k : Tm} (hk : k ∈ it.part.kids) : (Itm.mk k it.b (it.dep + 1)).ok R := by
  obtain ⟨part, b, dep⟩ := it
  cases b with
  | none => exact (show okT R part from h.ok).kid hk
  | some tab => exact ⟨h.ok.1.kid hk, h.ok.2⟩
theorem Itm.can_res {R : List Rw} {it : Itm} (h : it.can R) : it.res R = it.part.withKids (it.part.kids.map (it.f R)) := by
  obtain ⟨part, b, dep⟩ := it
  cases b with
  | none =>
    show part.trans R = part.withKids (part.kids.map (Tm.trans R))
    rw [Tm.trans_eq]
    cases part with
    | node c ts => exact absurd rfl (h.n rfl c ts)
    | _ => rfl
  | some tab =>
    show part.fill (trTab R tab) = part.withKids (part.kids.map (Tm.fill (trTab R tab)))
    rw [Tm.fill_eq]
    cases part with
    | var s => exact absurd rfl (h.v (by simp) s)
    | _ => rfl
theorem Itm.can_size {R : List Rw} {it : Itm} (h : it.can R) : (it.res R).size = 1 + ((it.part.kids.map (it.f R)).map Tm.size).sum := by
  rw [it.can_res h, Tm.size_eq, Tm.kids_with (by rw [List.length_map])]
theorem Itm.can_ht {R : List Rw} {it : Itm} (h : it.can R) {k : Tm} (hk : k ∈ it.part.kids) : (it.f R k).ht + 1 ≤ (it.res R).ht := by
  refine Tm.ht_kid ?_
  rw [it.can_res h, Tm.kids_with (by rw [List.length_map])]
  exact List.mem_map.mpr ⟨k, hk, rfl⟩
/-- one head more -/
theorem Itm.can_pre {R : List Rw} {it : Itm} (h : it.can R) {rest : List Tm} {hs : List (Tm × Nat)} (p : PreL (it.part.kids.map (it.f R) ++ rest) hs) : PreL (it.res R :: rest) ((it.part, it.part.kids.length) :: hs) := by
  rw [it.can_res h]
  by_cases e : it.part.kids = []
  · rw [e] at p ⊢
    rw [List.map_nil] at p ⊢
    rw [Tm.with_nil e]
    exact .leaf p
  · exact .node p (by rw [List.length_map]) (List.length_pos_iff.mpr e) rfl
def totI (R : List Rw) (its : List Itm) : Nat := (its.map fun i => (i.res R).size).sum
end PK
namespace PK
open PySem L2
/-! children, told in a view that is smaller than the heap -/
section
variable {K : PySem.W.Frag} {It : It} {n : Nat} {G : Hp → Prop} {Y : Nat → Hp → V → Hp → Prop}
/-- a comprehension whose items are data in a view that stands fixed -/
theorem lcV (wk : Walk It n G Y) {g : TG} {te : TE} {vs : List Nat} {σ : L2.St} {H1 Hv : Hp} {D : Addr} {Qd : Hp → Prop} (hD : H1 D = none) (hn : n ≤ 10000000) (ds : List PyData) (hl : ds.length = n) (hG : ∀ H', Same H1 H' → G H')
    (hs : ∀ i x H H' d (R : V → Hp → Prop), ds[i]? = some d → Same H1 H → Y i H x H' → (∀ y H4, Same H H4 → Dt K Hv y d → R y H4) → g x (wipe σ vs) H' fun σ2 H2 => wipe σ2 vs = wipe σ vs ∧ te σ2 H2 R)
    (hd : ∀ H' ws, Same H1 H' → H' D = some (.lst ws) → DtAll K Hv ws ds → Qd H') :
    ∃ W : Nat → Nat → Hp → Prop, (∃ m, W 0 m (upd H1 D (.lst []))) ∧ ∀ i m H, W i m H →
      (It.stop i H ∧ Qd H) ∨ (It.go i H ∧ ∃ Nx : Hp → Prop, (∀ H', Nx H' → ∃ m', m' < m ∧ W (i + 1) m' H') ∧ ∀ x H', It.yld i H x H' → g x (wipe σ vs) H' fun σ2 H2 => wipe σ2 vs = wipe σ vs ∧ tYes σ2 H2 fun b H3 =>
        if b = true then te σ2 H3 fun y H4 => ∃ acc, H4 D = some (.lst acc) ∧ acc.length < sizeLine ∧ Nx (upd H4 D (.lst (acc ++ [y]))) else Nx H3) := by
  refine lc_it wk (fun i H' => i ≤ n ∧ ∃ ws : List V, Same H1 H' ∧ H' D = some (.lst ws) ∧ DtAll K Hv ws (ds.take i)) ⟨Nat.zero_le _, [], same_new hD, upd_same, .nil⟩ (fun i H' _ h => ?_) (fun i x H H' hi h y => ?_) (fun H' h => ?_)
  · obtain ⟨_, _, s, _⟩ := h
    exact hG _ s
  · obtain ⟨_, ws, s, hw, da⟩ := h
    have hid : ds[i]? = some ds[i] := List.getElem?_eq_getElem (by omega)
    refine hs i x H H' ds[i] _ hid s y fun z H4 s4 dz => ?_
    have hw4 := s4 _ _ hw
    have lw : ws.length = i := by rw [da.lenD, List.length_take]; omega
    refine ⟨ws, hw4, smallL (by omega), hi, ws ++ [z], Same.upd (s.trans s4) hD, upd_same, ?_⟩
    rw [List.take_add_one, hid]
    exact da.append (.cons dz .nil)
  · obtain ⟨_, ws, s, hw, da⟩ := h
    rw [List.take_of_length_le (by omega)] at da
    exact hd _ ws s hw da
end
def spKidsV (K : PySem.W.Frag) : Sp := fun vs H Q _ => ∃ (v : V) (t : Tm) (Hv : Hp), vs = [v] ∧ (∀ a xs, SqT K Hv a xs → SqT K H a xs) ∧ Dt K Hv v t.d ∧ t.kids.length ≤ 10000000 ∧
  ∀ (H' : Hp) (p : Addr) (ws : List V), Same H H' → SqT K H' p ws → DtAll K Hv ws (t.kids.map Tm.d) → Q (.ref p) H'
section
variable {P : Program} {w : World} {K : PySem.W.Frag} {mg : Str → Option Value} {base : Heap} {aF : Addr}
theorem ok_kidsV {f : Addr} {fd : FuncData} (F : Fun K "children" "children" s_children f fd) (T : TxtT K mg aF) : FnOk P w K mg base CX0 1 f fd ["term"] (spKidsV K) := by
  refine F.ok sc_children (fun vs H Q E h => ?_) (fun cdv A outer s H vs Q E hr h => ?_)
  · obtain ⟨v, t, _, rfl, _⟩ := h
    rfl
  obtain ⟨v, t, Hv, rfl, up, hv, hn, q⟩ := h
  refine ⟨_, (pss_cons (ps_if (pt_cmpR op_eq (pe_ix ix_tup (pv 0) pe_int (fun _ _ => rfl)) pe_str (nomark _)) (pss_one (ps_ret (pe_ix ix_tup (pv 0) pe_int (fun _ _ => rfl)))) pss_nil)
    (pss_cons (ps_if (pt_cmpR op_eq (pe_ix ix_tup (pv 0) pe_int (fun _ _ => rfl)) pe_str (nomark _)) (pss_one (ps_ret (pe_callTy call_tuple_of (by rfl) T.z_tuple (by decide +kernel) (pa_cons (pe_lc (own := [("_", 1), ("entry", 2)]) (g := (gTup K 2 (gCons (gName 1) (gCons (gName 2) gNil)))) (tt := tYes) (by rfl) sc_children.nd (pi_tup (pe_ix ix_tup (pv 0) pe_int (fun _ _ => rfl))) (blkOk_by (N := ["term", "_", "entry"]) (sc := defScope s_children) (by decide +kernel)) (fun _ _ _ _ _ => (pg_tup (by rfl) (pgs_cons (pg_name (i := 1) sc_children.nd rfl (Or.inl rfl)) (pgs_cons (pg_name (i := 2) sc_children.nd rfl (Or.inl rfl)) pgs_nil)))) (fun _ _ _ _ _ => pts_nil) (fun _ _ _ _ _ => (pv 2))) pa_nil)))) pss_nil)
    (pss_cons (ps_if (pt_cmpR op_in_seq (pe_ix ix_tup (pv 0) pe_int (fun _ _ => rfl)) (pe_glob (v := .ref aF) rfl T.g_FO rfl) rfl) (pss_one (ps_ret (pe_slice sl_tup (pv 0) (po_some pe_int) po_none))) pss_nil)
    (pss_one (ps_ret (pe_tup pa_nil)))))), ?_⟩
  cases t with
  | node c ts =>
    unfold Tm.d at hv
    obtain ⟨a, x, y, z, rfl, hs, h1, h2, h3⟩ := Dt.t3 hv
    obtain rfl := h1.s
    obtain ⟨b, ys, rfl, hb, hys⟩ := Dt.tn h3
    refine vTx rfl (up _ _ hs) rfl ⟨rfl, _, rfl, sT rfl (vTx rfl (up _ _ hs) rfl ?_)⟩
    exact q H b ys (Same.refl H) (up _ _ hb) (by rw [Tm.ds_map] at hys; exact hys)
  | map es =>
    unfold Tm.d at hv
    obtain ⟨a, x, y, rfl, hs, h1, h2⟩ := Dt.t2 hv
    obtain rfl := h1.s
    obtain ⟨b, ys, rfl, hb, hys⟩ := Dt.tn h2
    rw [Tm.es_map] at hys
    have ly : ys.length = es.length := by rw [hys.lenD, List.length_map]
    have hn' : es.length ≤ 10000000 := by rw [show (Tm.map es).kids = es.map Prod.snd from rfl, List.length_map] at hn; exact hn
    refine vTx rfl (up _ _ hs) rfl ⟨rfl, _, rfl, sF (by decide +kernel) (vTx rfl (up _ _ hs) rfl ⟨rfl, _, rfl, sT rfl ?_⟩)⟩
    refine vTx rfl (up _ _ hs) rfl ⟨b, rfl, ⟨_, up _ _ hb⟩, fun D hD => lcV (K := K) (Hv := Hv) (walk_tup (xs := ys)) hD (by omega) (es.map fun e => e.2.d) (by rw [List.length_map, ly]) (fun H' s => Same.seqT s (up _ _ hb)) ?_ ?_⟩
    · rintro i x H1 H2 d R hi s ⟨rfl, gx⟩ r
      obtain ⟨e, ge, dx⟩ := DtAll.getX hys gx
      rw [List.getElem?_map] at ge hi
      cases e0 : es[i]? with
      | none => rw [e0] at ge; cases ge
      | some en =>
        rw [e0] at ge hi
        cases ge
        cases hi
        obtain ⟨a1, x1, y1, rfl, hs1, k1, k2⟩ := Dt.t2 dx
        exact ⟨a1, _, rfl, Same.seqT s (up _ _ hs1), rfl, _, _, rfl, _, _, rfl, rfl, rfl, _, rfl, r y1 _ (Same.refl _) k2⟩
    · rintro H' ws s hw da
      refine ⟨D, _, rfl, .inl ⟨SqL.of hw, fun p hp => ?_⟩⟩
      refine q _ p ws (Same.upd s ((Same.refl H).trans s |>.free hp)) (SqT.of upd_same) ?_
      rw [show (Tm.map es).kids.map Tm.d = es.map fun e => e.2.d from by unfold Tm.kids; rw [List.map_map]; rfl]
      exact da
  | form g ts =>
    unfold Tm.d at hv
    obtain ⟨a, xs, rfl, hs, da⟩ := Dt.tn hv
    cases da with
    | cons h1 dr =>
    obtain rfl := h1.s
    rename_i vs1
    have hs := up _ _ hs
    refine vTx rfl hs (atI_nat (j := 0) rfl) ⟨rfl, _, rfl, sF g.ne_node (vTx rfl hs (atI_nat (j := 0) rfl) ⟨rfl, _, rfl, sF g.ne_map (vTx (v := .str g.s) rfl hs (atI_nat (j := 0) rfl) ⟨aF, _, rfl, .inr (T.forms H), rfl, rfl, _, rfl, ?_⟩)⟩)⟩
    rw [if_neg Bool.false_ne_true, g.inF]
    refine iteT ⟨_, rfl, _, rfl, a, _, rfl, hs, fun z => ?_, fun p hp => ?_⟩
    · have e := z.1
      revert e
      show (HT.sIx (vs1.length + 1) 0 (some 1) = 0) → False
      unfold HT.sIx
      intro e
      simp at e
    · have ec : cutV (V.str g.s :: vs1) (some 1) none = vs1 := by
        unfold cutV HT.sIx
        simp
      rw [ec]
      refine q _ p vs1 (same_new hp) (SqT.of upd_same) ?_
      rw [Tm.ds_map] at dr
      exact dr
  | int n =>
    unfold Tm.d at hv
    obtain ⟨a, x, y, rfl, hs, h1, h2⟩ := Dt.t2 hv
    obtain rfl := h1.s
    refine vTx rfl (up _ _ hs) rfl ⟨rfl, _, rfl, sF (by decide +kernel) (vTx rfl (up _ _ hs) rfl ⟨rfl, _, rfl, sF (by decide +kernel) (vTx (v := .str "int") rfl (up _ _ hs) rfl ⟨aF, _, rfl, .inr (T.forms H), rfl, rfl, _, rfl, ?_⟩)⟩)⟩
    rw [if_neg Bool.false_ne_true, show inV (.str "int") [V.str "get", V.str "set", V.str "plus", V.str "minus"] = false by decide +kernel]
    exact iteF ⟨Nat.zero_le _, fun p hp => q _ p [] (same_new hp) (SqT.of upd_same) .nil⟩
  | name n =>
    unfold Tm.d at hv
    obtain ⟨a, x, y, rfl, hs, h1, h2⟩ := Dt.t2 hv
    obtain rfl := h1.s
    refine vTx rfl (up _ _ hs) rfl ⟨rfl, _, rfl, sF (by decide +kernel) (vTx rfl (up _ _ hs) rfl ⟨rfl, _, rfl, sF (by decide +kernel) (vTx (v := .str "name") rfl (up _ _ hs) rfl ⟨aF, _, rfl, .inr (T.forms H), rfl, rfl, _, rfl, ?_⟩)⟩)⟩
    rw [if_neg Bool.false_ne_true, show inV (.str "name") [V.str "get", V.str "set", V.str "plus", V.str "minus"] = false by decide +kernel]
    exact iteF ⟨Nat.zero_le _, fun p hp => q _ p [] (same_new hp) (SqT.of upd_same) .nil⟩
  | addr n =>
    unfold Tm.d at hv
    obtain ⟨a, x, y, rfl, hs, h1, h2⟩ := Dt.t2 hv
    obtain rfl := h1.s
    refine vTx rfl (up _ _ hs) rfl ⟨rfl, _, rfl, sF (by decide +kernel) (vTx rfl (up _ _ hs) rfl ⟨rfl, _, rfl, sF (by decide +kernel) (vTx (v := .str "addr") rfl (up _ _ hs) rfl ⟨aF, _, rfl, .inr (T.forms H), rfl, rfl, _, rfl, ?_⟩)⟩)⟩
    rw [if_neg Bool.false_ne_true, show inV (.str "addr") [V.str "get", V.str "set", V.str "plus", V.str "minus"] = false by decide +kernel]
    exact iteF ⟨Nat.zero_le _, fun p hp => q _ p [] (same_new hp) (SqT.of upd_same) .nil⟩
  | var n =>
    unfold Tm.d at hv
    obtain ⟨a, x, y, rfl, hs, h1, h2⟩ := Dt.t2 hv
    obtain rfl := h1.s
    refine vTx rfl (up _ _ hs) rfl ⟨rfl, _, rfl, sF (by decide +kernel) (vTx rfl (up _ _ hs) rfl ⟨rfl, _, rfl, sF (by decide +kernel) (vTx (v := .str "meta") rfl (up _ _ hs) rfl ⟨aF, _, rfl, .inr (T.forms H), rfl, rfl, _, rfl, ?_⟩)⟩)⟩
    rw [if_neg Bool.false_ne_true, show inV (.str "meta") [V.str "get", V.str "set", V.str "plus", V.str "minus"] = false by decide +kernel]
    exact iteF ⟨Nat.zero_le _, fun p hp => q _ p [] (same_new hp) (SqT.of upd_same) .nil⟩
theorem kids_of {n : Nat} (C : C8.Cal P w K mg base n "children" (spKidsV K) []) : C8.Cal P w K mg base n "children" (spKids K) [] := by
  obtain ⟨f, fd, ps, ds, F, r⟩ := C
  refine ⟨f, fd, ps, ds, F.imp fun vs H Q E h => ?_, r⟩
  obtain ⟨v, t, e, hv, hl, q⟩ := h
  exact ⟨v, t, H, e, fun _ _ z => z, hv, hl, fun H' p ws s hs da => q H' p ws s hs (da.same s)⟩
end
end PK
namespace PK
open PySem L2 GenF GenW PyProof.Rows
/-! parts_of: a generator -/
def Tm.parts (t : Tm) : List Tm := t :: (t.kids.attach.map fun k => k.1.parts).flatten
termination_by sizeOf t
decreasing_by exact Tm.kid_lt k.2
theorem Tm.parts_eq (t : Tm) : t.parts = t :: (t.kids.map Tm.parts).flatten := by
  rw [Tm.parts, List.attach_map_val (f := Tm.parts)]
theorem Tm.parts_len (t : Tm) : t.parts.length = t.size := by
  induction t using Tm.ind with
  | h t ih =>
    rw [Tm.parts_eq, Tm.size_eq, List.length_cons, List.length_flatten, List.map_map, Nat.add_comm]
    congr 1
    exact congrArg List.sum (List.map_congr_left ih)
/-- what is still to come of a stack, its end first -/
def todo (ts : List Tm) : List Tm := (ts.reverse.map Tm.parts).flatten
theorem DtAll.reverse {K : PySem.W.Frag} {H : Hp} : ∀ {xs : List V} {ds : List PyData}, DtAll K H xs ds → DtAll K H xs.reverse ds.reverse
  | _, _, .nil => .nil
  | _, _, .cons h t => by rw [List.reverse_cons, List.reverse_cons]; exact (DtAll.reverse t).append (.cons h .nil)
theorem todo_nil : todo [] = [] := rfl
theorem todo_snoc (ts : List Tm) (t : Tm) : todo (ts ++ [t]) = t :: todo (ts ++ t.kids.reverse) := by
  unfold todo
  rw [List.reverse_append, List.reverse_append, List.map_append, List.map_append, List.flatten_append, List.flatten_append, List.reverse_reverse]
  show (Tm.parts t :: []).flatten ++ _ = _
  rw [show (Tm.parts t :: []).flatten = t.parts from by simp, Tm.parts_eq]
  rfl
theorem todo_one (t : Tm) : todo [t] = t.parts := by simp [todo]
theorem todo_kids {ts : List Tm} {t : Tm} : (ts ++ t.kids.reverse).length ≤ (todo (ts ++ t.kids.reverse)).length := by
  unfold todo
  rw [List.length_flatten, List.map_map, ← List.length_reverse (as := ts ++ t.kids.reverse)]
  generalize (ts ++ t.kids.reverse).reverse = l
  induction l with
  | nil => exact Nat.le_refl _
  | cons a r ih =>
    have : 1 ≤ a.parts.length := by rw [Tm.parts_eq, List.length_cons]; omega
    rw [List.map_cons, List.sum_cons, List.length_cons]
    show _ ≤ a.parts.length + _
    omega
/-- the parts of a term, read in the tuples of the heap at the call -/
def itParts (K : PySem.W.Frag) (H : Hp) (ts : List Tm) : Nat → V → Prop := fun i x => ∃ t, ts[i]? = some t ∧ Dt K (tupsOf H) x t.d
def spParts (K : PySem.W.Frag) : SpI := fun vs H n it => ∃ (v : V) (t : Tm), vs = [v] ∧ Dt K H v t.d ∧ t.size ≤ 1000000 ∧ n = t.size ∧ it = itParts K H t.parts
theorem sq_tups {K : PySem.W.Frag} {H : Hp} {a : Addr} {xs : List V} (s : SqT K H a xs) : SqT K (tupsOf H) a xs := by
  rcases s with s | s
  · exact .inl (.inl (tupsOf_rd s))
  · exact .inr s
section
variable {P : Program} {w : World} {K : PySem.W.Frag} {mg : Str → Option Value} {base : Heap} {aF : Addr}
abbrev s_parts_of : Stmt := topS 8
abbrev stP (i : Nat) : Stmt := (defBody s_parts_of).getD i (.Pass ⟨0, 0, 0, 0⟩)
def whTest : Stmt → Expr
  | .While t _ _ _ => t
  | _ => .Constant .none 0 ⟨0, 0, 0, 0⟩
def whBody : Stmt → List Stmt
  | .While _ b _ _ => b
  | _ => []
abbrev stW (i : Nat) : Stmt := (whBody (stP 1)).getD i (.Pass ⟨0, 0, 0, 0⟩)
def yieldE : Stmt → Expr
  | .Expr (.Yield (some e) _) _ => e
  | _ => .Constant .none 0 ⟨0, 0, 0, 0⟩
theorem lk_none {sc : Scope} (h : sc.names.all (fun y => !decide (y.2 = .cell) && !decide (y.2 = .free)) = true) (x : Str) : sc.names.lookup x ≠ some .cell ∧ sc.names.lookup x ≠ some .free := by
  refine ⟨fun e => ?_, fun e => ?_⟩ <;>
  · have := List.all_eq_true.mp h _ (PySem.mem_of_lookup e)
    simp at this
theorem nc_parts : NoCells (defScope s_parts_of) := ⟨rfl, rfl, rfl, fun _ => rfl, lk_none (by decide +kernel)⟩
abbrev eP (G : Gs) (f : Addr) (cd : Value) : Env := envOfC "parts_of" (defScope s_parts_of) G.F f cd
abbrev cP (G : Gs) (mg : Str → Option Value) (f : Addr) (cd : Value) (Hw : Hp) (sn : Shared) : Cx := cxG G mg ["term", "waiting", "part"] "parts_of" (defScope s_parts_of) f cd Hw sn
abbrev codeP (G : Gs) (f : Addr) (cd : Value) : Code := .whileLoop (whTest (stP 1)) (whBody (stP 1)) [] (eP G f cd)
theorem seqT_updL {H : Hp} {D a : Addr} {vs ws zs : List V} (h : SqT K H a zs) (hD : H D = some (.lst vs)) : SqT K (upd H D (.lst ws)) a zs := seqT_upd h hD
theorem seg_loop {G : Gs} {f : Addr} {cd : Value} (S : GStat G mg) (hx : G.x = "waiting") (C_children : C8.Cal G.P G.w G.K mg G.base 1 "children" (spKidsV G.K) []) (hr : Room 1 (G.A.in1.deeper (eP G f cd)))
    {body : List Stmt} {kk : Result → Sem PySem.Fin} {l kp : List Value} {p : Pos} (hend : ∀ sn s : Shared, Stp G sn s → Seg G.M G.A.in1 (GRe G) (GYp G) 0 sn (.func body (eP G f cd)) (kk (.ok .next)) [] s) :
    ∀ (n : Nat) (sn : Shared) (own : List (Addr × Obj)) (Hw : Hp) (Wa : Addr) (ws : List V) (ts : List Tm) (s : Shared) (H : Hp) (v pt : Option V), Wk G own sn → (G.a, G.go) ∈ own → (∀ b, b < G.F → Hw b = Hw0 G sn b) → Hw G.F = none → (∀ b, ¬ OwnF G.x sn.heap G.F b → Hw b = Hw0 G sn b) →
      (∀ b, OwnF G.x sn.heap G.F b → b ≠ G.F → b = Wa) → (OwnF G.x sn.heap G.F Wa ∨ sn.heap.objs.size ≤ Wa) → G.F < Wa → Wa ≠ G.a → Inv (cP G mg f cd Hw sn) [] [v, some (.ref Wa), pt] H s → H Wa = some (.lst ws) → (∀ a xs, SqT G.K (tupsOf G.H1) a xs → SqT G.K H a xs) →
      DtAll G.K (tupsOf G.H1) ws (ts.map Tm.d) → n = (todo ts).length → n ≤ 1000000 → ts.length ≤ n → n ≤ G.n → (∀ j t x, (todo ts)[j]? = some t → Dt G.K (tupsOf G.H1) x t.d → G.it (G.n - n + j) x) →
      Seg G.M G.A.in1 (GRe G) (GYp G) n sn (codeP G f cd) (G.M.den (codeP G f cd)) [.ret kk none false l (.func body (eP G f cd)) p kp] s := by
  have stpO : ∀ {sn : Shared} {own : List (Addr × Obj)} {Hw : Hp} {Wa : Addr} {s : Shared} {H : Hp} {σ : L2.St} {ws : List V}, Wk G own sn → (∀ b, b < G.F → Hw b = Hw0 G sn b) → (∀ b, ¬ OwnF G.x sn.heap G.F b → Hw b = Hw0 G sn b) → (∀ b, OwnF G.x sn.heap G.F b → b ≠ G.F → b = Wa) →
      Inv (cP G mg f cd Hw sn) [] σ H s → H Wa = some (.lst ws) → Stp G sn s := fun {sn own Hw Wa s H σ ws} W lo hno hown I hl => stp_of S W I hno lo fun b hb hne => by
    rw [hown b hb hne]
    obtain ⟨_, _, _, _, e⟩ := I.hok Wa _ hl
    exact ⟨_, e⟩
  have pt1 : ∀ (Hw : Hp) (sn : Shared), PT (cP G mg f cd Hw sn) (whTest (stP 1)) _ := fun Hw sn => pt_truth (pv 1) (by intro _; rfl)
  have ps1 : ∀ (Hw : Hp) (sn : Shared), PS (cP G mg f cd Hw sn) (stW 0) _ := fun Hw sn => ps_set (i := 2) (by show (["term", "waiting", "part"] : List Str).Nodup; decide +kernel) rfl (.inl rfl) (pe_bm0 PySem.F.plainAttrs_list PySem.F.slot_list_pop PySem.F.type_list_pop mt_pop (pv 1))
  have pe2 : ∀ (Hw : Hp) (sn : Shared), PE (cP G mg f cd Hw sn) (yieldE (stW 1)) _ := fun Hw sn => pv 2
  have ps3 : ∀ (Hw : Hp) (sn : Shared), PS (cP G mg f cd Hw sn) (stW 2) _ := fun Hw sn => ps_expr (pe_bm PySem.F.plainAttrs_list PySem.F.slot_list_extend PySem.F.type_list_extend PKZ.mt_extendT (pv 1) (pa_cons (PKZ.pe_revT (C8.pe_c C_children hr (Nat.le_refl 1) rfl (pa_cons (pv 2) pa_nil))) pa_nil))
  intro n
  induction n with
  | zero =>
    intro sn own Hw Wa ws ts s H v pt W ago lo hF hno hown hnew hlt hWa I hl up da en n6 nt nG items
    have hts : ts = [] := List.length_eq_zero_iff.mp (by omega)
    subst hts
    have hws : ws = [] := by cases da; rfl
    subst hws
    refine seg_whileLoop ?_
    rw [over_loop rfl rfl, over_func]
    refine wpAny_mono ((pt1 Hw sn).run [] s _ H (fun b H' => b = false ∧ H' = H) I ⟨_, rfl, false, .inl ⟨[], SqL.of hl, rfl⟩, rfl, rfl⟩) (fun b s' ⟨H', I', hb, eH⟩ => ?_) fun _ _ z => False.elim z
    subst hb eH
    rw [if_neg Bool.false_ne_true]
    exact seg_execs_nil (seg_leaf (.ok .next) (hend sn s' (stpO W lo hno hown I' hl)))
  | succ m ih =>
    intro sn own Hw Wa ws ts s H v pt W ago lo hF hno hown hnew hlt hWa I hl up da en n6 nt nG items
    have tne : ts ≠ [] := fun e => by rw [e] at en; cases en
    obtain ⟨tr, t, rfl⟩ : ∃ tr t, ts = tr ++ [t] := ⟨ts.dropLast, ts.getLast tne, (List.dropLast_concat_getLast tne).symm⟩
    rw [List.map_append] at da
    obtain ⟨wr, wl, rfl, dr, dl⟩ := DtAll.splitR da
    obtain ⟨x, rfl, dx⟩ : ∃ x, wl = [x] ∧ Dt G.K (tupsOf G.H1) x t.d := by
      cases dl with
      | cons h r => cases r; exact ⟨_, rfl, h⟩
    rw [todo_snoc] at en items
    have en' : m = (todo (tr ++ t.kids.reverse)).length := by rw [List.length_cons] at en; omega
    refine seg_whileLoop ?_
    rw [over_loop rfl rfl, over_func]
    refine wpAny_mono ((pt1 Hw sn).run [] s _ H (fun b H' => b = true ∧ H' = H) I ⟨_, rfl, true, .inl ⟨_, SqL.of hl, by simp⟩, rfl, rfl⟩) (fun b s' ⟨H', I', hb, eH⟩ => ?_) fun _ _ z => False.elim z
    subst hb eH
    rw [if_pos rfl]
    -- part = waiting.pop()
    refine seg_execs_cons (st := stW 0) (rest := [stW 1, stW 2]) (seg_wrap ?_)
    rw [over_loop rfl rfl, over_func]
    refine wpAny_mono ((ps1 Hw sn).run [] s' _ H' { nx := fun σ H2 => σ = [v, some (.ref Wa), some x] ∧ H2 = upd H' Wa (.lst wr), rt := fun _ _ => False } I' ?_) (fun fl s2 h2 => ?_) fun _ _ z => False.elim z
    · refine ⟨_, rfl, .inl ⟨rfl, _, SqL.of hl⟩, Wa, _, x, rfl, rfl, hl, by simp, ?_⟩
      rw [List.dropLast_concat]
      exact ⟨rfl, rfl⟩
    cases fl with
    | ret _ => obtain ⟨_, _, _, _, _, z⟩ := h2; exact z.elim
    | brk => obtain ⟨_, _, _, z⟩ := h2; exact z.elim
    | cont => obtain ⟨_, _, _, z⟩ := h2; exact z.elim
    | next =>
    obtain ⟨σ2, H2, I2, rfl, rfl⟩ := h2
    -- yield part
    refine seg_execs_cons (st := stW 1) (rest := [stW 2]) (seg_Expr_Yield rfl rfl rfl ?_)
    rw [over_loop rfl rfl, over_func]
    refine wpAny_mono ((pe2 Hw sn).run [] s2 _ (upd H' Wa (.lst wr)) (fun y H3 => y = x ∧ H3 = upd H' Wa (.lst wr)) I2 ⟨_, rfl, rfl, rfl⟩) (fun u s3 ⟨y, H3, I3, ru, ey, e3⟩ kap hkap => ?_) fun _ _ z => False.elim z
    subst ey e3
    have hl3 : upd H' Wa (.lst wr) Wa = some (.lst wr) := upd_same
    have I3' : Inv (cP G mg f cd Hw sn) [] [v, some (.ref Wa), some y] (upd H' Wa (.lst wr)) s3 := I3
    have stp : Stp G sn s3 := stpO W lo hno hown I3' hl3
    obtain ⟨mp, hN, hlook⟩ := id I3.loc
    have hN : s3.heap.Ns G.F mp := hN
    have nc : ∀ {z c} {q : Prop}, (eP G f cd).cells.lookup z = some c → q := fun {z c q} e => by
      have e' : (cellsFrom (G.F + 1) (defScope s_parts_of).names []).lookup z = some c := e
      rw [nc_parts.cells] at e'
      cases e'
    have lw : mp "waiting" = some (.ref Wa) := by
      obtain ⟨u', r', l'⟩ := hlook 1 "waiting" (.ref Wa) rfl rfl (.inl rfl)
      rcases l' with ⟨_, e⟩ | ⟨_, c, e, _⟩
      · rw [e]; cases r'; rfl
      · exact nc e
    have lp : ∃ u', RelV y u' ∧ mp "part" = some u' := by
      obtain ⟨u', r', l'⟩ := hlook 2 "part" y rfl rfl (.inl rfl)
      rcases l' with ⟨_, e⟩ | ⟨_, c, e, _⟩
      · exact ⟨u', r', e⟩
      · exact nc e
    obtain ⟨fo, fes, fep, hfo, hfd, hfr⟩ := id hN
    obtain ⟨zw, its, cw, rw, eW⟩ := I3.hok Wa _ hl3
    have ego : s3.heap.get? G.a = some G.go := stp.keep G.a G.go (W.own _ ago) (fun z => by
      by_cases q : G.a = G.F
      · exact absurd q (Nat.ne_of_gt S.Fa)
      · exact hWa (hown _ z q).symm) fun z => Nat.lt_asymm (S.stk _ z).1 S.Fa
    have own3 : ∀ (h : Heap) (b : Addr), h.get? G.F = some fo → OwnF "waiting" h G.F b → b = G.F ∨ b = Wa := fun h b e q => by
      rcases q with q | ⟨m2, hm2, q⟩
      · exact .inl q
      · have h1 : h.Ns G.F mp := ⟨fo, fes, fep, e, hfd, hfr⟩
        have := h1.agree hm2 "waiting"
        rw [lw, q] at this
        cases this
        exact .inr rfl
    have wne : Wa ≠ G.F := Nat.ne_of_gt hlt
    refine ⟨y, [(G.a, G.go), (G.F, fo), (Wa, { cls := .type "list", data := .seq its.toArray cw })], nG, ?_, ru, stp, ⟨fun q hq => ?_, fun q hq => ?_, fun b hb => ?_, List.mem_cons_self⟩, fun sn' W' => ?_⟩
    · exact items 0 t y rfl dx
    · rcases List.mem_cons.mp hq with z | z
      · rw [z]; exact ⟨ego, S.goc⟩
      · rcases List.mem_cons.mp z with z | z
        · rw [z]; exact ⟨hfo, fun v q => by rw [hfd] at q; cases q⟩
        · rw [List.mem_singleton.mp z]; exact ⟨eW, fun v q => by cases q⟩
    · rcases List.mem_cons.mp hq with z | z
      · rw [z]; exact .inr (.inr rfl)
      · rcases List.mem_cons.mp z with z | z
        · rw [z]; exact .inl (.inl rfl)
        · rw [List.mem_singleton.mp z]
          rcases hnew with z | z
          · exact .inl z
          · exact .inr (.inl z)
    · rw [hx] at hb
      rcases own3 _ b hfo hb with z | z
      · rw [z]; exact List.mem_cons_of_mem _ List.mem_cons_self
      · rw [z]; exact List.mem_cons_of_mem _ (List.mem_cons_of_mem _ List.mem_cons_self)
    have eF' : sn'.heap.get? G.F = some fo := W'.own (G.F, fo) (List.mem_cons_of_mem _ List.mem_cons_self)
    have eW' : sn'.heap.get? Wa = some { cls := .type "list", data := .seq its.toArray cw } := W'.own (Wa, _) (List.mem_cons_of_mem _ (List.mem_cons_of_mem _ List.mem_cons_self))
    have ownW : OwnF G.x sn'.heap G.F Wa := .inr ⟨mp, ⟨fo, fes, fep, eF', hfd, hfr⟩, by rw [hx]; exact lw⟩
    have hn0 : ∀ c u, Hw0 G sn' c = some u → (∀ o q, u ≠ .frz o q) → False := fun c u e n => by
      by_cases l1 : c < G.F
      · obtain ⟨xs, o, rfl, _⟩ := Hw0_lt l1 e
        exact n _ _ rfl
      · by_cases l2 : c = G.F
        · rw [l2, Hw0_F] at e; cases e
        · have gt : G.F < c := Nat.lt_of_le_of_ne (Nat.le_of_not_lt l1) (Ne.symm l2)
          cases q : sn'.heap.get? c with
          | none => rw [Hw0_upn gt q] at e; cases e
          | some o => rw [Hw0_up gt q] at e; cases e; exact n _ _ rfl
    have ok' : HOk G.P G.w (upd (Hw0 G sn') Wa (.lst wr)) sn'.heap := fun b u e => by
      by_cases hb : b = Wa
      · subst hb
        rw [upd_same] at e
        cases e
        exact ⟨zw, its, cw, rw, eW'⟩
      · rw [upd_ne hb] at e
        exact (Hw0_ok W' b u e).stay (fun _ _ _ z => z) (fun c z => (hn0 c _ z fun _ _ => HO.noConfusion).elim) fun c xs z => (hn0 c _ z fun _ _ => HO.noConfusion).elim
    have I4 : Inv (cP G mg f cd (upd (Hw0 G sn') Wa (.lst wr)) sn') [] [none, some (.ref Wa), some y] (upd (Hw0 G sn') Wa (.lst wr)) sn' := by
      refine inv_wake S nc_parts W' (fun b hb => upd_ne (fun z => by rw [z] at hb; exact Nat.lt_asymm hb hlt)) (by rw [upd_ne wne.symm]; exact Hw0_F) ok' (m := mp) ⟨fo, fes, fep, eF', hfd, hfr⟩ rfl fun i z q h1 h2 => ?_
      match i, h1, h2 with
      | 0, h1, h2 => cases h2
      | 1, h1, h2 => cases h1; cases h2; exact ⟨_, rfl, lw, rfl⟩
      | 2, h1, h2 =>
        cases h1
        cases h2
        obtain ⟨u', r', e'⟩ := lp
        exact ⟨u', r', e', rfl⟩
    have up4 : ∀ a xs, SqT G.K (tupsOf G.H1) a xs → SqT G.K (upd (Hw0 G sn') Wa (.lst wr)) a xs := fun a xs z => by
      rcases Hw0_sq S W' a xs z with (z | ⟨o, z⟩) | z
      · exact (hn0 _ _ z fun _ _ => HO.noConfusion).elim
      · refine .inl (.inr ⟨o, ?_⟩)
        rw [upd_ne]
        · exact z
        · intro e
          rw [e, Hw0_up hlt eW'] at z
          cases z
      · exact .inr z
    have go : Seg G.M G.A.in1 (GRe G) (GYp G) m sn' (codeP G f cd) ((execs [stW 2] (eP G f cd)).wrap (fun f_1 => match f_1 with
            | .next | .cont => .pure (.again (codeP G f cd))
            | .brk => .pure (.done .next)
            | .ret v => .pure (.done (.ret v))) (fun e => (do noteFrame e (eP G f cd); theTreesLotGoes e : Sem Unit).wrap (fun _ => .raise e) .raise id id) id id) [.ret kk none false l (.func body (eP G f cd)) p kp] sn' := by
      refine seg_execs_cons (st := stW 2) (rest := []) (seg_wrap ?_)
      rw [over_loop rfl rfl, over_func]
      refine wpAny_mono ((ps3 (upd (Hw0 G sn') Wa (.lst wr)) sn').run [] sn' _ (upd (Hw0 G sn') Wa (.lst wr)) { nx := fun σ H5 => σ = [none, some (.ref Wa), some y] ∧ ∃ kv, DtAll G.K (tupsOf G.H1) kv (t.kids.map Tm.d) ∧ H5 Wa = some (.lst (wr ++ kv.reverse)) ∧ ∀ a xs, SqT G.K (tupsOf G.H1) a xs → SqT G.K H5 a xs, rt := fun _ _ => False } I4 ?_) (fun fl s5 h5 => ?_) fun _ _ z => False.elim z
      · have lk : t.kids.length ≤ m := by
          have := todo_kids (ts := tr) (t := t)
          rw [List.length_append, List.length_reverse] at this
          omega
        refine ⟨_, rfl, .inl ⟨rfl, _, SqL.of upd_same⟩, _, rfl, y, t, tupsOf G.H1, rfl, up4, dx, by omega, fun H5 p5 kv s5 hs5 dk => ⟨p5, kv, rfl, hs5, fun q5 hq5 => ?_⟩⟩
        have hW5 : H5 Wa = some (.lst wr) := s5 _ _ upd_same
        have hW6 : upd H5 q5 (.tup kv.reverse) Wa = some (.lst wr) := by rw [upd_ne (ne_of_none hW5 hq5)]; exact hW5
        refine ⟨Wa, q5, wr, kv.reverse, rfl, rfl, hW6, SqT.of upd_same, ?_, rfl, kv, dk, upd_same, fun a xs z => ?_⟩
        · have l1 := dr.lenD
          have l2 := dk.lenD
          have := todo_kids (ts := tr) (t := t)
          rw [List.length_append, List.length_reverse] at this
          rw [List.length_map] at l1 l2
          rw [List.length_reverse]
          have := sizeLine_eq
          omega
        · exact seqT_upd (Same.seqT (s5.trans (same_new hq5)) (up4 a xs z)) hW6
      cases fl with
      | ret _ => obtain ⟨_, _, _, _, _, z⟩ := h5; exact z.elim
      | brk => obtain ⟨_, _, _, z⟩ := h5; exact z.elim
      | cont => obtain ⟨_, _, _, z⟩ := h5; exact z.elim
      | next =>
      obtain ⟨σ5, H5, I5, rfl, kv, dk, hl5, up5⟩ := h5
      refine seg_execs_nil (seg_again rfl ?_)
      refine ih sn' _ (upd (Hw0 G sn') Wa (.lst wr)) Wa (wr ++ kv.reverse) (tr ++ t.kids.reverse) s5 H5 none (some y) W' List.mem_cons_self (fun b hb => upd_ne (fun z => by rw [z] at hb; exact Nat.lt_asymm hb hlt)) (by rw [upd_ne wne.symm]; exact Hw0_F) (fun b hb => upd_ne (fun z => hb (by rw [z]; exact ownW))) (fun b hb hne => ?_) (.inl ownW) hlt hWa I5 hl5 up5 ?_ en' (by omega) ?_ (by omega) fun j t' x' hj hd => ?_
      · rw [hx] at hb
        exact (own3 _ b eF' hb).resolve_left hne
      · rw [List.map_append, List.map_reverse]
        exact dr.append dk.reverse
      · rw [en']; exact todo_kids
      · have := items (j + 1) t' x' (by simpa using hj) hd
        rw [show G.n - m + j = G.n - (m + 1) + (j + 1) by omega]
        exact this
    exact ⟨hkap _ _ go, hkap _ _ go⟩
/-- x = [y], y a local name: the list is the next object -/
theorem set_one {X : Cx} {pins : List (Addr × Obj)} {s : Shared} {σ : L2.St} {H : Hp} {i j : Nat} {x y : Str} {v : V} {p1 p2 p3 p4 : Pos} {E : Value → Shared → Prop} (I : Inv X pins σ H s) (hN : X.N.Nodup) (hi : X.N[i]? = some x) (hx : X.env.scope.names.lookup x = some .local)
    (hj : X.N[j]? = some y) (hy : X.env.scope.names.lookup y = some .local) (hc : ∀ c, X.env.cells.lookup y ≠ some c) (hv : σ[j]? = some (some v)) (hd : (y == ("__debug__" : Str)) = false)
    (hs : swapsWith (.List [.Name y p2] p3) (some (.Name x p1)) p4.line X.env = pure false := by rfl) (he : starEach [.Name y p2] X.env = (false, eval (.Name y p2) X.env) :: starEach [] X.env := by rfl) :
    wpAny (model X.prog X.w) X.A (exec (.Assign [.Name x p1] (.List [.Name y p2] p3) p4) X.env) (fun f s' => f = .next ∧ Inv X pins (σ.set i (some (.ref s.heap.objs.size))) (upd H s.heap.objs.size (.lst [v])) s') E s := by
  obtain ⟨m, hn, hl⟩ := id I.loc
  obtain ⟨u, r, l⟩ := hl j y v hj hv (.inl hy)
  have lm : m y = some u ∧ X.env.kindOf y = some .local := by
    rcases l with ⟨hk, e⟩ | ⟨_, c, e, _⟩
    · exact ⟨e, hk⟩
    · exact absurd e (hc c)
  refine wpAny_Assign_Name ?_ hs
  refine wpAny_List_spliced ?_
  rw [he]
  show wpAny _ _ (spliced ((false, eval (.Name y p2) X.env) :: backTo p3 (starEach [] X.env))) _ _ s
  refine Calls.spliced_cons (wpAny_Name (wpAny_loadName_local I.ok.kind lm.2 hn lm.1 ?_) hd)
  refine Calls.spliced_nil ⟨small (by show 1 ≤ _; decide), ?_⟩
  have I2 : Inv X pins σ (upd H s.heap.objs.size (.lst [v])) { s with heap := s.heap.push { cls := .type "list", data := .seq [u].toArray } } :=
    I.laid (t' := s.toks) (fun b o e => Heap.get?_push_of_some _ e) (Nat.le_refl _) ⟨small (by show 1 ≤ _; decide), [u], 0, .cons r .nil, Heap.get?_push_size _ rfl⟩
  exact store_ok (v := .ref s.heap.objs.size) I2 hN hi (.inl hx) rfl (fun s2 I3 => ⟨rfl, I3⟩) (.inr hx)
theorem ok_parts {f : Addr} {fd : FuncData} (F : Fun K "parts_of" "parts_of" s_parts_of f fd) (C_children : C8.Cal P w K mg base 1 "children" (spKidsV K) []) : GFnG P w K mg base 3 f fd ["term"] (spParts K) := by
  obtain ⟨oc, od, kV, doc, pm, an, cdv, ct, osl, rfl, lk, hcd⟩ := F.ex
  refine gfnG_of "waiting" lk hcd nc_parts rfl (N := ["term", "waiting", "part"]) (by decide +kernel) (fun y hy => by rw [List.mem_singleton.mp hy]; rfl) (by decide +kernel) (fun vs H n it h => by obtain ⟨v, t, rfl, _⟩ := h; rfl) fun G vs own sn eP' ew eK eb ex S hr hsp W ago hno I => ?_
  subst eP' ew eK eb
  obtain ⟨v, t, rfl, dv, hs, en, eit⟩ := hsp
  refine seg_func ?_
  refine seg_execs_cons (st := stP 0) (rest := [stP 1]) (seg_wrap ?_)
  rw [over_func]
  have nc : ∀ {z c} {q : Prop}, (eP G f cdv).cells.lookup z = some c → q := fun {z c q} e => by
    have e' : (cellsFrom (G.F + 1) (defScope s_parts_of).names []).lookup z = some c := e
    rw [nc_parts.cells] at e'
    cases e'
  have st0 : wpAny (model G.P G.w) (cP G mg f cdv (Hw0 G sn) sn).A (exec (stP 0) (cP G mg f cdv (Hw0 G sn) sn).env) _ (fun _ _ => False) sn := set_one (X := cP G mg f cdv (Hw0 G sn) sn) (i := 1) (j := 0) (v := v) (x := "waiting") (y := "term") I (by show (["term", "waiting", "part"] : List Str).Nodup; decide +kernel) rfl rfl rfl rfl (fun c e => nc e) rfl (by decide)
  refine wpAny_mono st0 (fun fl s2 ⟨efl, I2⟩ => ?_) fun _ _ z => False.elim z
  subst efl
  refine seg_execs_cons (st := stP 1) (rest := []) (seg_While fun p => ?_)
  have szF : G.F < sn.heap.objs.size := I.lt
  have sza : G.a < sn.heap.objs.size := Heap.lt_size (W.own _ ago)
  have nd : (Hw0 G sn) sn.heap.objs.size = none := I.hok.fresh (Nat.le_refl _)
  refine seg_loop S ex C_children (hr.mono (by decide)) (fun sn' s' stp => ?_) G.n sn own (Hw0 G sn) sn.heap.objs.size [v] [t] s2 _ (some v) none W ago (fun _ _ => rfl) Hw0_F (fun _ _ => rfl) (fun b hb hne => ?_) (.inr (Nat.le_refl _)) szF (Nat.ne_of_gt sza) I2 upd_same (fun a xs z => Same.seqT (same_new nd) (Hw0_sq S W a xs z)) (.cons (Dt.mono (fun _ _ z => sq_tups z) _ _ dv) .nil) ?_ (by omega) ?_ (Nat.le_refl _) fun j t' x' hj hd => ?_
  · exact seg_end (.ok (.ret .none)) (.inl ⟨.inl rfl, rfl, stp⟩)
  · exact absurd ⟨by rw [← ex]; exact hb, hne⟩ (hno b)
  · rw [todo_one, Tm.parts_len]; exact en
  · have : 1 ≤ t.size := by rw [Tm.size_eq]; omega
    show 1 ≤ G.n
    omega
  · rw [todo_one] at hj
    rw [Nat.sub_self, Nat.zero_add, eit]
    exact ⟨t', hj, hd⟩
end
end PK
namespace PK
open PySem L2
/-! words with one letter of a to m: which one tells them apart -/
abbrev LM : Str := "abcdefghijklm"
abbrev OM : Str := "nopqrstuvwxyz0123456789_"
theorem lm_len : LM.cps.toList.length = 13 := by decide +kernel
theorem om_len : OM.cps.toList.length = 24 := by decide +kernel
theorem lm_om : ∀ s ∈ OM.cps.toList, s ∉ LM.cps.toList := by decide +kernel
theorem lm_let : ∀ s ∈ LM.cps.toList, s ∈ LET.cps.toList := by decide +kernel
theorem om_oth : ∀ s ∈ OM.cps.toList, s ∈ OTH.cps.toList := by decide +kernel
theorem om_let : ∀ s ∈ OM.cps.toList.take 13, s ∈ LET.cps.toList := by decide +kernel
/-- the sign of number j, mod 13 -/
def lmAt (j : Int) : Nat := LM.cps.toList.getD (j % 13).toNat 0
/-- of the letters a to m the word has just this one -/
structure Tag (x : Str) (c : Nat) : Prop where
  lm : c ∈ LM.cps.toList
  has : c ∈ x.cps.toList
  only : ∀ s ∈ x.cps.toList, s = c ∨ s ∈ OM.cps.toList
theorem Tag.one {x : Str} {c d : Nat} (a : Tag x c) (b : Tag x d) : c = d := (b.only c a.has).elim id fun z => absurd a.lm (lm_om c z)
theorem lmAt_inj {i j : Int} (h : lmAt i = lmAt j) : i % 13 = j % 13 := by
  have key : ∀ a, a < 13 → ∀ b, b < 13 → LM.cps.toList.getD a 0 = LM.cps.toList.getD b 0 → a = b := by decide +kernel
  have := key (i % 13).toNat (by omega) (j % 13).toNat (by omega) h
  omega
theorem lmAt_mem (j : Int) : lmAt j ∈ LM.cps.toList := by
  have key : ∀ a, a < 13 → LM.cps.toList.getD a 0 ∈ LM.cps.toList := by decide +kernel
  exact key _ (by omega)
theorem lm_ix {j : Int} {H : Hp} {Q : VK} (q : Q (.str (one (lmAt j))) H) : rIxS (.str LM) (.int (j % 13)) H Q := by
  have hj : (j % 13).toNat < LM.cps.toList.length := by rw [lm_len]; omega
  refine ⟨LM, j % 13, lmAt j, rfl, rfl, by rw [len_list, lm_len]; exact small (by decide), ?_, q⟩
  have e : j % 13 = (((j % 13).toNat : Nat) : Int) := by omega
  rw [e]
  refine atI_nat ?_
  unfold lmAt
  rw [List.getElem?_eq_getElem hj, List.getD_eq_getElem?_getD, List.getElem?_eq_getElem hj]
  rfl
theorem om_ix {n : Nat} (hn : n ≤ 24) {d : Int} {H : Hp} {Q : VK} (h0 : 0 ≤ d) (h1 : d < (n : Int)) (q : ∀ s, s ∈ OM.cps.toList.take n → Q (.str (one s)) H) : rIxS (.str OM) (.int d) H Q := by
  obtain ⟨j, rfl⟩ : ∃ j : Nat, d = j := ⟨d.toNat, by omega⟩
  have hj : j < OM.cps.toList.length := by rw [om_len]; omega
  refine ⟨OM, j, OM.cps.toList[j], rfl, rfl, by rw [len_list, om_len]; exact small (by decide), atI_nat (List.getElem?_eq_getElem hj), q _ ?_⟩
  exact List.mem_take_iff_getElem.mpr ⟨j, by omega, rfl⟩
theorem two_lm {x : Str} {a b : Nat} (ha : a ∈ x.cps.toList) (hb : b ∈ x.cps.toList) (la : a ∈ LM.cps.toList) (lb : b ∈ LM.cps.toList) (ne : a ≠ b) (c : Nat) (t : Tag x c) : False := by
  have e1 := (t.only a ha).elim id fun z => absurd la (lm_om a z)
  have e2 := (t.only b hb).elim id fun z => absurd lb (lm_om b z)
  exact ne (e1.trans e2.symm)
theorem no_get (c : Nat) : ¬ Tag "get" c := two_lm (a := 103) (b := 101) (by decide +kernel) (by decide +kernel) (by decide +kernel) (by decide +kernel) (by decide) c
theorem no_minus (c : Nat) : ¬ Tag "minus" c := two_lm (a := 109) (b := 105) (by decide +kernel) (by decide +kernel) (by decide +kernel) (by decide +kernel) (by decide) c
def spLWord : Sp := fun vs H Q _ => ∃ (l c : Addr) (k s : Int), vs = [.ref l, .int k, .int s] ∧ Pool H l c ∧ ∀ (H' : Hp) (x : Str), Ext l c H H' → Wd x → Tag x (lmAt (k + s)) → x ∉ (["get", "set", "plus", "minus", "new"] : List Str) → Q (.str x) H'
section
variable {P : Program} {w : World} {K : PySem.W.Frag} {mg : Str → Option Value} {base : Heap}
abbrev s_law_word : Stmt := topS 17
theorem sc_law_word : FnScope ["pool", "k", "shift", "letters", "others", "most", "at", "row", "place", "word"] ["pool", "k", "shift"] (defScope s_law_word) := ⟨rfl, rfl, rfl, by decide +kernel, rfl, by decide +kernel, by decide +kernel⟩
-- slots: 0:pool 1:k 2:shift 3:letters 4:others 5:most 6:at 7:row 8:place 9:word
theorem ok_lword {f : Addr} {fd : FuncData} (F : Fun K "_law_word" "_law_word" s_law_word f fd) (T : Txt K mg) (C_law_take : C8.Cal P w K mg base 2 "_law_take" (spTake 2) []) : FnOk P w K mg base CX0 3 f fd ["pool", "k", "shift"] spLWord := by
  refine F.ok sc_law_word (fun vs H Q E h => ?_) (fun cdv A outer s H vs Q E hr h => ?_)
  · obtain ⟨_, _, _, _, rfl, _⟩ := h
    rfl
  obtain ⟨l, c, k, sh, rfl, P0, q⟩ := h
  refine ⟨_, (pss_cons (ps_set (i := 3) sc_law_word.nd rfl (Or.inl rfl) pe_str)
    (pss_cons (ps_set (i := 4) sc_law_word.nd rfl (Or.inl rfl) pe_str)
    (pss_cons (ps_set (i := 5) sc_law_word.nd rfl (Or.inl rfl) (pe_op op_add pe_int (C8.pe_c C_law_take hr (by decide) rfl (pa_cons (pv 0) (pa_cons pe_int pa_nil)))))
    (pss_cons (ps_set (i := 6) sc_law_word.nd rfl (Or.inl rfl) (C8.pe_c C_law_take hr (by decide) rfl (pa_cons (pv 0) (pa_cons (pv 5) pa_nil))))
    (pss_cons (ps_set (i := 7) sc_law_word.nd rfl (Or.inl rfl) (pe_lst (pa_cons (pe_ix ix_str (pv 3) (pe_op op_mod (pe_callTy call_int1 (by rfl) T.z_int (by decide +kernel) (pa_cons (pe_op op_add (pv 1) (pv 2)) pa_nil)) pe_int) (fun _ _ => rfl)) pa_nil)))
    (pss_cons (ps_for PassesOwn.never rfl (pi_range2 (by rfl) T.z_range (pa_cons pe_int (pa_cons (pv 5) pa_nil))) (pg_name (i := 8) sc_law_word.nd rfl (Or.inl rfl)) (pss_one (ps_expr (pe_bm PySem.F.plainAttrs_list PySem.F.slot_list_append PySem.F.type_list_append mt_append (pv 7) (pa_cons (pe_ix ix_str (pv 4) (C8.pe_c C_law_take hr (by decide) rfl (pa_cons (pv 0) (pa_cons pe_int pa_nil))) (fun _ _ => rfl)) pa_nil)))))
    (C8.pss_cut (ps_if (pt_cmpR op_gt (pv 6) pe_int (nomark _)) (pss_cons (ps_asg (pe_ix ix_str (pv 4) (C8.pe_c C_law_take hr (by decide) rfl (pa_cons (pv 0) (pa_cons pe_int pa_nil))) (fun _ _ => rfl)) (pg_sub (pv 7) pe_int set_list))
    (pss_one (ps_asg (pe_ix ix_str (pv 3) (pe_op op_mod (pe_callTy call_int1 (by rfl) T.z_int (by decide +kernel) (pa_cons (pe_op op_add (pv 1) (pv 2)) pa_nil)) pe_int) (fun _ _ => rfl)) (pg_sub (pv 7) (pv 6) set_list)))) pss_nil)
    (pss_cons (ps_set (i := 9) sc_law_word.nd rfl (Or.inl rfl) (pe_join pe_str (pv 7)))
    (pss_cons (ps_if (pt_cmpR op_in_seq (pv 9) (pe_lst (pa_cons pe_str (pa_cons pe_str (pa_cons pe_str pa_nil)))) rfl) (pss_one (ps_ret (pe_op op_add_str (pv 9) pe_str))) pss_nil)
    (pss_one (ps_ret (pv 9)))))))))))), ?_⟩
  refine vTake rfl P0 (by decide) (by decide) fun d H1 d0 d12 x1 => ?_
  obtain ⟨m, rfl⟩ : ∃ m : Nat, d = m := ⟨d.toNat, by omega⟩
  refine ⟨_, _, rfl, rfl, ?_⟩
  refine ⟨_, rfl, _, rfl, l, c, 1 + (m : Int), False, rfl, x1.pool, by omega, by omega, .inl (Nat.le_refl 2), fun at_ H2 a0 a1 x2 => ?_⟩
  have x2' := x1.trans x2
  refine ⟨_, rfl, ⟨_, rfl, ⟨_, rfl, _, _, rfl, rfl, .inl ⟨_, rfl, _, _, rfl, rfl, (by show (0 : Int) < 13; decide), lm_ix ⟨small (by show 1 ≤ _; decide), fun R hR => ?_⟩⟩⟩⟩⟩
  have x3 := x2'.new (o := .lst [.str (one (lmAt (k + sh)))]) P0 hR
  have nR : R ≠ l := (x2'.pool.ne hR).1
  have hR0 : H R = none := x2'.free P0 hR
  have cl := lmAt_mem (k + sh)
  refine ⟨_, rfl, 1, 1 + (m : Int), rfl, ⟨by decide, by decide, by omega, by omega⟩, for_range (lo := 1) (n := (1 + (m : Int) - 1).toNat) (fun i σ H' => ∃ (row : List Nat) (b d : Option V), σ = [some (.ref l), some (.int k), some (.int sh), some (.str LM), some (.str OM), some (.int (1 + m)), some (.int at_), some (.ref R), b, d] ∧ Ext l c H H' ∧
    H' R = some (.lst ((lmAt (k + sh) :: row).map fun s => V.str (one s))) ∧ row.length = i ∧ ∀ s ∈ row, s ∈ OM.cps.toList) ?_ ?_ ?_⟩
  · exact ⟨[], none, none, rfl, x3, upd_same, rfl, fun _ h => nomatch h⟩
  · rintro i σ H' hi ⟨row, b, d, rfl, x, hr1, lr, ho⟩
    have hR1 := hr1
    refine ⟨_, rfl, .inl ⟨rfl, _, SqL.of hR1⟩, ⟨_, rfl, vTake rfl x.pool (by decide) (by decide) fun e H3 e0 e1 y => om_ix (Nat.le_refl 24) e0 e1 fun s hs => ?_⟩⟩
    have hR2 := y.keep _ _ nR hR1
    refine ⟨R, _, _, rfl, rfl, hR2, smallL (by rw [List.length_map, List.length_cons]; omega), row ++ [s], _, _, rfl, (x.trans y).upd P0 hR0, ?_, by rw [List.length_append, lr]; rfl, fun z hz => ?_⟩
    · rw [upd_same, List.map_cons, List.map_cons, List.map_append]; rfl
    · rcases List.mem_append.mp hz with h | h
      · exact ho z h
      · rw [List.mem_singleton.mp h]; exact List.mem_of_mem_take hs
  rintro σ H' ⟨row, b, d, rfl, x, hr1, lr, ho⟩
  have lm : row.length = m := by rw [lr]; omega
  -- what the word is made of
  refine ⟨fun σ H' => ∃ (sg : List Nat) (b d : Option V), σ = [some (.ref l), some (.int k), some (.int sh), some (.str LM), some (.str OM), some (.int (1 + m)), some (.int at_), some (.ref R), b, d] ∧ Ext l c H H' ∧ H' R = some (.lst (sg.map fun s => V.str (one s))) ∧
    sg.length = 1 + m ∧ lmAt (k + sh) ∈ sg ∧ (∀ s ∈ sg, s = lmAt (k + sh) ∨ s ∈ OM.cps.toList) ∧ ∃ f r, sg = f :: r ∧ f ∈ LET.cps.toList, ?_, ?_⟩
  · refine ⟨_, rfl, _, _, rfl, rfl, _, rfl, ite2 (fun e => ?_) (fun e => ?_)⟩
    · have a1' : 0 < at_ := of_decide_eq_true e
      refine ⟨_, rfl, vTake rfl x.pool (by decide) (by decide) fun e1 H5 e0 e13 y => om_ix (n := 13) (by decide) e0 e13 fun o hoo => ?_⟩
      have hR5 := y.keep _ _ nR hr1
      refine ⟨_, rfl, R, _, 0, 0, rfl, rfl, hR5, ixN_of (by decide) (by rw [List.length_map, List.length_cons]; omega), ?_⟩
      refine ⟨_, rfl, ⟨_, rfl, ⟨_, rfl, _, _, rfl, rfl, .inl ⟨_, rfl, _, _, rfl, rfl, (by show (0 : Int) < 13; decide), lm_ix ⟨_, rfl, _, rfl, R, _, at_, at_.toNat, rfl, rfl, upd_same, ixN_of a0 (by rw [List.length_set, List.length_map, List.length_cons]; omega), ?_⟩⟩⟩⟩⟩
      refine ⟨(o :: row).set at_.toNat (lmAt (k + sh)), _, _, rfl, ((x.trans y).upd P0 hR0).upd P0 hR0, ?_, ?_, ?_, ?_, ?_⟩
      · rw [upd_same, List.map_set]; rfl
      · rw [List.length_set, List.length_cons]; omega
      · exact List.mem_set (by rw [List.length_cons]; omega) _
      · intro z hz
        rcases List.mem_or_eq_of_mem_set hz with h | h
        · rcases List.mem_cons.mp h with h | h
          · rw [h]; exact .inr (List.mem_of_mem_take hoo)
          · exact .inr (ho z h)
        · exact .inl h
      · obtain ⟨j, ej⟩ : ∃ j, at_.toNat = j + 1 := ⟨at_.toNat - 1, by omega⟩
        rw [ej]
        exact ⟨o, _, rfl, om_let o hoo⟩
    · exact ⟨lmAt (k + sh) :: row, _, _, rfl, x, hr1, by rw [List.length_cons]; omega, .head _, fun z hz => (List.mem_cons.mp hz).imp id (ho z), _, _, rfl, lm_let _ cl⟩
  · rintro σ' H4 ⟨sg, b, d, rfl, x4, hsg, ls, hc, hon, f, r, rfl, hf⟩
    have hall : ∀ s ∈ f :: r, s ∈ OTH.cps.toList := fun s hs => (hon s hs).elim (fun e => by rw [e]; exact let_oth _ (lm_let _ cl)) (om_oth s)
    have ew : (Txt.join "" ((f :: r).map one)).cps.toList = f :: r := txt_join _
    have hw : Wd (Txt.join "" ((f :: r).map one)) := Wd.of ew hf (fun z hz => hall z (.tail _ hz)) (by rw [List.length_cons] at ls; omega)
    have ht : Tag (Txt.join "" ((f :: r).map one)) (lmAt (k + sh)) := ⟨cl, by rw [ew]; exact hc, by rw [ew]; exact hon⟩
    refine ⟨⟨_, rfl⟩, _, rfl, "", R, (f :: r).map one, rfl, rfl, .inl (SqL.of (by rw [List.map_map]; exact hsg)), by rw [one_sum, ls]; show 1 + m + _ * 0 ≤ _; omega, ?_⟩
    generalize Txt.join "" ((f :: r).map one) = wd at ew hw ht
    refine ⟨_, rfl, small (by show 3 ≤ _; decide), fun q1 hq1 => ⟨q1, _, rfl, .inl (SqL.of upd_same), rfl, flat_strs ["set", "plus", "new"], _, rfl, ?_⟩⟩
    rw [show inV (V.str wd) [V.str "set", .str "plus", .str "new"] = decide (wd ∈ (["set", "plus", "new"] : List Str)) from inV_str wd ["set", "plus", "new"]]
    have y := x4.new (o := .lst [V.str "set", .str "plus", .str "new"]) P0 hq1
    by_cases hin : wd ∈ (["set", "plus", "new"] : List Str)
    · rw [decide_eq_true hin]
      have l4 : ∀ z ∈ (["set", "plus", "new"] : List Str), z.length ≤ 4 ∧ z ++ "0" ∉ (["get", "set", "plus", "minus", "new"] : List Str) := by decide +kernel
      have e2 : (wd ++ "0").cps.toList = f :: (r ++ [48]) := by
        show (wd.cps ++ #[48]).toList = _
        rw [Array.toList_append, ew]; rfl
      have lw := (l4 wd hin).1
      rw [len_list, ew, List.length_cons] at lw
      refine iteT ⟨_, rfl, _, _, rfl, rfl, small (by rw [len_list, ew, List.length_cons]; show r.length + 1 + 1 ≤ _; omega), q _ _ y ?_ ⟨cl, ?_, ?_⟩ (l4 wd hin).2⟩
      · refine Wd.of e2 hf (fun z hz => ?_) (by rw [List.length_append]; show r.length + 1 ≤ 11; omega)
        rcases List.mem_append.mp hz with h | h
        · exact hall z (.tail _ h)
        · rw [List.mem_singleton.mp h]; decide +kernel
      · rw [e2]
        exact List.mem_append_left [48] (show lmAt (k + sh) ∈ f :: r from hc)
      · intro z hz
        rw [e2] at hz
        rcases List.mem_append.mp (show z ∈ (f :: r) ++ [48] from hz) with h | h
        · exact hon z h
        · rw [List.mem_singleton.mp h]; exact .inr (by decide +kernel)
    · rw [decide_eq_false hin]
      refine iteF ⟨_, rfl, q _ _ y hw ht fun z => ?_⟩
      rcases (by simpa using z : wd = "get" ∨ wd = "set" ∨ wd = "plus" ∨ wd = "minus" ∨ wd = "new") with h | h | h | h | h
      · rw [h] at ht; exact no_get _ ht
      · exact hin (by rw [h]; decide)
      · exact hin (by rw [h]; decide)
      · rw [h] at ht; exact no_minus _ ht
      · exact hin (by rw [h]; decide)
end
end PK
namespace PK
open PySem L2
/-! the drawn signature, integers, leaves -/
abbrev FORMS : List Str := ["get", "set", "plus", "minus", "new"]
def SigOk (sh : Int) (sig : List (Str × Nat)) : Prop := sig.length ≤ 6 ∧ ∀ (i : Nat) (e : Str × Nat), sig[i]? = some e → Wd e.1 ∧ Tag e.1 (lmAt ((i : Nat) + sh)) ∧ e.1 ∉ FORMS ∧ e.2 ≤ 8
def sigK (sig : List (Str × Nat)) : List (Key × V) := sig.map fun e => (Sum.inr e.1, V.int (e.2 : Nat))
def spSig : Sp := fun vs H Q _ => ∃ (l c : Addr) (sh : Int), vs = [.ref l, .int sh] ∧ Pool H l c ∧ ∀ (H' : Hp) (R : Addr) (sig : List (Str × Nat)), Ext l c H H' → H R = none → H' R = some (.dK (sigK sig)) → SigOk sh sig → Q (.ref R) H'
theorem sig_no {sh : Int} {sig : List (Str × Nat)} {x : Str} (ok : SigOk sh sig) (hl : sig.length < 13) (t : Tag x (lmAt ((sig.length : Nat) + sh))) : valV (sigK sig) (Sum.inr x) = none := by
  cases e : valV (sigK sig) (Sum.inr x) with
  | none => rfl
  | some v =>
    have := (valV_any (Sum.inr x : Key) (sigK sig)).trans (by rw [e]; rfl : (valV (sigK sig) (Sum.inr x)).isSome = true)
    obtain ⟨kv, hkv, hx⟩ := List.any_eq_true.mp this
    obtain ⟨y, hy, rfl⟩ := List.mem_map.mp hkv
    have ex : y.1 = x := Sum.inr.inj (of_decide_eq_true hx)
    obtain ⟨i, hi, ei⟩ := List.mem_iff_getElem.mp hy
    have o := (ok.2 i y (by rw [List.getElem?_eq_getElem hi, ei])).2.1
    rw [ex] at o
    have := lmAt_inj (o.one t)
    omega
section
variable {P : Program} {w : World} {K : PySem.W.Frag} {mg : Str → Option Value} {base : Heap}
abbrev s_law_signature : Stmt := topS 18
theorem sc_law_signature : FnScope ["pool", "shift", "signature", "k", "many"] ["pool", "shift"] (defScope s_law_signature) := ⟨rfl, rfl, rfl, by decide +kernel, rfl, by decide +kernel, by decide +kernel⟩
-- slots: 0:pool 1:shift 2:signature 3:k 4:many
theorem ok_sig {f : Addr} {fd : FuncData} (F : Fun K "_law_signature" "_law_signature" s_law_signature f fd) (T : Txt K mg) (C_law_take : C8.Cal P w K mg base 2 "_law_take" (spTake 2) []) (C_law_word : C8.Cal P w K mg base 3 "_law_word" spLWord []) :
    FnOk P w K mg base CX0 4 f fd ["pool", "shift"] spSig := by
  refine F.ok sc_law_signature (fun vs H Q E h => ?_) (fun cdv A outer s H vs Q E hr h => ?_)
  · obtain ⟨_, _, _, rfl, _⟩ := h
    rfl
  obtain ⟨l, c, sh, rfl, P0, q⟩ := h
  refine ⟨_, (pss_cons (ps_set (i := 2) sc_law_signature.nd rfl (Or.inl rfl) pe_dnewK)
    (pss_cons (ps_for PassesOwn.never rfl (pi_range1 (by rfl) T.z_range (pa_cons (C8.pe_c C_law_take hr (by decide) rfl (pa_cons (pv 0) (pa_cons pe_int pa_nil))) pa_nil)) (pg_name (i := 3) sc_law_signature.nd rfl (Or.inl rfl)) (pss_cons (ps_set (i := 4) sc_law_signature.nd rfl (Or.inl rfl) (C8.pe_c C_law_take hr (by decide) rfl (pa_cons (pv 0) (pa_cons pe_int pa_nil))))
    (C8.pss_cut (ps_if (pt_cmpR op_eq (C8.pe_c C_law_take hr (by decide) rfl (pa_cons (pv 0) (pa_cons pe_int pa_nil))) pe_int (nomark _)) (pss_one (ps_set (i := 4) sc_law_signature.nd rfl (Or.inl rfl) (C8.pe_c C_law_take hr (by decide) rfl (pa_cons (pv 0) (pa_cons pe_int pa_nil))))) pss_nil)
    (pss_one (ps_dput (hu_of hr) (pv 2) (C8.pe_c C_law_word hr (by decide) rfl (pa_cons (pv 0) (pa_cons (pv 3) (pa_cons (pv 1) pa_nil)))) (pv 4) rfl)))))
    (pss_one (ps_ret (pv 2))))), ?_⟩
  intro R hR
  have x0 := (Ext.refl P0).new (o := .dK []) P0 hR
  have nR : R ≠ l := (P0.ne hR).1
  refine vTake rfl x0.pool (by decide) (by decide) fun d H1 d0 d7 x1 => ⟨d, rfl, by omega, by omega, for_range (n := d.toNat) (fun i σ H' => ∃ (sig : List (Str × Nat)) (a b : Option V), σ = [some (.ref l), some (.int sh), some (.ref R), a, b] ∧ Ext l c H H' ∧ H' R = some (.dK (sigK sig)) ∧ sig.length = i ∧ SigOk sh sig) ?_ ?_ ?_⟩
  · exact ⟨[], none, none, rfl, x0.trans x1, x1.keep _ _ nR upd_same, rfl, Nat.zero_le _, fun i e h => by simp at h⟩
  · rintro i σ H' hi ⟨sig, a, b, rfl, x, hs, ls, ok⟩
    refine vTake rfl x.pool (by decide) (by decide) fun m H2 m0 m4 x2 => ?_
    refine ⟨fun σ H' => ∃ m : Nat, m ≤ 8 ∧ σ = [some (.ref l), some (.int sh), some (.ref R), some (.int (0 + (i : Int))), some (.int (m : Int))] ∧ Ext l c H H' ∧ H' R = some (.dK (sigK sig)), ?_, ?_⟩
    · have y2 := x.trans x2
      have h2 := x2.keep _ _ nR hs
      refine vTake rfl x2.pool (by decide) (by decide) fun z H3 z0 z5 x3 => ⟨rfl, _, rfl, ite2 (fun e => ?_) (fun e => ?_)⟩
      · refine vTake rfl x3.pool (by decide) (by decide) fun m' H4 m0' m9 x4 => ⟨m'.toNat, by omega, by rw [show ((m'.toNat : Nat) : Int) = m' by omega]; rfl, (y2.trans x3).trans x4, x4.keep _ _ nR (x3.keep _ _ nR h2)⟩
      · exact ⟨m.toNat, by omega, by rw [show ((m.toNat : Nat) : Int) = m by omega]; rfl, y2.trans x3, x3.keep _ _ nR h2⟩
    · rintro σ' H5 ⟨m, hm, rfl, x5, h5⟩
      refine ⟨_, rfl, _, rfl, ⟨_, rfl, _, rfl, _, rfl, l, c, 0 + (i : Int), sh, rfl, x5.pool, fun H6 y x6 wy ty ny => ?_⟩⟩
      have h6 := x6.keep _ _ nR h5
      rw [Int.zero_add, ← ls] at ty
      have no := sig_no ok (by have := ok.1; omega) ty
      refine ⟨R, _, rfl, DPut.k (k := Sum.inr y) h6 (by show (sigK sig).length < _; unfold sigK; rw [List.length_map]; exact smallL (by have := ok.1; omega)), ?_⟩
      refine ⟨sig ++ [(y, m)], _, _, rfl, (x5.trans x6).upd P0 hR, ?_, by rw [List.length_append, ls]; rfl, by rw [List.length_append]; show sig.length + 1 ≤ 6; omega, fun j e he => ?_⟩
      · rw [upd_same, putK_new _ no]
        unfold sigK
        rw [List.map_append]; rfl
      · by_cases hj : j < sig.length
        · rw [List.getElem?_append_left hj] at he
          exact ok.2 j e he
        · rw [List.getElem?_append_right (by omega)] at he
          have hj0 : j = sig.length := by
            have := (List.getElem?_eq_some_iff.mp he).1
            simp at this; omega
          subst hj0
          simp at he
          subst he
          exact ⟨wy, ty, ny, hm⟩
  · rintro σ H' ⟨sig, a, b, rfl, x, hs, ls, ok⟩
    exact ⟨_, rfl, q H' R sig x hR hs ok⟩
end
end PK
namespace PK
open PySem L2
/-! terms over a drawn signature -/
abbrev SOk (x : Str) : Prop := PyData.strOk x = true
theorem Wd.sok {x : Str} (h : Wd x) : SOk x := by
  have key : ∀ s ∈ OTH.cps.toList, s < 0x110000 := by decide +kernel
  show x.cps.all (· < 0x110000) = true
  rw [← Array.all_toList, List.all_eq_true]
  exact fun s hs => decide_eq_true (key s (h.al s hs))
abbrev WOk (x : Str) : Prop := SOk x ∧ x.length ≤ 12
theorem Wd.wok {x : Str} (h : Wd x) : WOk x := ⟨h.sok, h.hi⟩
def TL (sig : List (Str × Nat)) (ms : List Str) : Tm → Prop
  | .int n => n.natAbs < 10000000000000000
  | .name s => WOk s
  | .addr n => n.natAbs < 10000000000000000
  | .var s => s ∈ ms ∧ WOk s
  | .node c ts => WOk c ∧ (c, ts.length) ∈ sig ∧ ts.length ≤ 8
  | .map es => es.length ≤ 8 ∧ ∀ e ∈ es, WOk e.1
  | .form _ _ => False
def TOk (sig : List (Str × Nat)) (ms : List Str) : Tm → Prop := Al (TL sig ms)
theorem TOk.len {sig : List (Str × Nat)} {ms : List Str} {t : Tm} (h : TOk sig ms t) : t.kids.length ≤ 8 := by
  have := h.at_
  cases t with
  | node c ts => exact this.2.2
  | map es => show (es.map Prod.snd).length ≤ 8; rw [List.length_map]; exact this.1
  | form f ts => exact this.elim
  | _ => exact Nat.zero_le _
theorem TOk.leaf {sig : List (Str × Nat)} {ms : List Str} {t : Tm} (h : TL sig ms t) (hk : t.kids = []) : TOk sig ms t := .mk h fun k hm => by rw [hk] at hm; cases hm
/-- words as they are drawn, in a list that stands -/
structure Wl (H : Hp) (l p : Addr) (ws : List Str) : Prop where
  at_ : H p = some (.lst (ws.map V.str))
  ne : p ≠ l
  le : ws.length ≤ 100
  wd : ∀ x ∈ ws, Wd x
theorem Wl.ext {H H' : Hp} {l c p : Addr} {ws : List Str} (N : Wl H l p ws) (x : Ext l c H H') : Wl H' l p ws := ⟨x.keep _ _ N.ne N.at_, N.ne, N.le, N.wd⟩
theorem Wl.ix {K : PySem.W.Frag} {H : Hp} {l p : Addr} {ws : List Str} (N : Wl H l p ws) {d : Int} (h0 : 0 ≤ d) (h1 : d < (ws.length : Int)) {Q : VK} (q : ∀ x, x ∈ ws → Q (.str x) H) : rIxL K (.ref p) (.int d) H Q := by
  obtain ⟨j, rfl⟩ : ∃ j : Nat, d = j := ⟨d.toNat, by omega⟩
  have hj : j < ws.length := by omega
  exact ⟨p, _, j, _, rfl, rfl, SqL.of N.at_, atI_nat (by rw [List.getElem?_map, List.getElem?_eq_getElem hj]; rfl), q _ (List.getElem_mem hj)⟩
def spIntg : Sp := fun vs H Q _ => ∃ (l c : Addr), vs = [.ref l] ∧ Pool H l c ∧ ∀ (i : Int) (H' : Hp), i.natAbs < 10000000000000000 → Ext l c H H' → Q (.int i) H'
def spLeaf (K : PySem.W.Frag) : Sp := fun vs H Q _ => ∃ (l c pw pm : Addr) (ws ms : List Str), vs = [.ref l, .ref pw, .ref pm] ∧ Pool H l c ∧ Wl H l pw ws ∧ ws ≠ [] ∧ Wl H l pm ms ∧
  ∀ (v : V) (t : Tm) (H' : Hp), Ext l c H H' → Dt K H' v t.d → (∀ sig, TL sig ms t) → t.kids = [] → Q v H'
section
variable {P : Program} {w : World} {K : PySem.W.Frag} {mg : Str → Option Value} {base : Heap}
abbrev s_law_integer : Stmt := topS 19
theorem sc_law_integer : FnScope ["pool", "kind"] ["pool"] (defScope s_law_integer) := ⟨rfl, rfl, rfl, by decide +kernel, rfl, by decide +kernel, by decide +kernel⟩
-- slots: 0:pool 1:kind
abbrev s_law_leaf : Stmt := topS 20
theorem sc_law_leaf : FnScope ["pool", "words", "metas", "kind"] ["pool", "words", "metas"] (defScope s_law_leaf) := ⟨rfl, rfl, rfl, by decide +kernel, rfl, by decide +kernel, by decide +kernel⟩
-- slots: 0:pool 1:words 2:metas 3:kind
theorem ok_intg {f : Addr} {fd : FuncData} (F : Fun K "_law_integer" "_law_integer" s_law_integer f fd) (C_law_take : C8.Cal P w K mg base 2 "_law_take" (spTake 2) []) : FnOk P w K mg base CX0 3 f fd ["pool"] spIntg := by
  refine F.ok sc_law_integer (fun vs H Q E h => ?_) (fun cdv A outer s H vs Q E hr h => ?_)
  · obtain ⟨_, _, rfl, _⟩ := h
    rfl
  obtain ⟨l, c, rfl, P0, q⟩ := h
  refine ⟨_, (pss_cons (ps_set (i := 1) sc_law_integer.nd rfl (Or.inl rfl) (C8.pe_c C_law_take hr (by decide) rfl (pa_cons (pv 0) (pa_cons pe_int pa_nil))))
    (pss_cons (ps_if (pt_cmpR op_eq (pv 1) pe_int (nomark _)) (pss_one (ps_ret (C8.pe_c C_law_take hr (by decide) rfl (pa_cons (pv 0) (pa_cons (pe_op op_pow pe_int pe_int) pa_nil))))) pss_nil)
    (pss_cons (ps_if (pt_cmpR op_eq (pv 1) pe_int (nomark _)) (pss_one (ps_ret (pe_op op_sub pe_int (C8.pe_c C_law_take hr (by decide) rfl (pa_cons (pv 0) (pa_cons (pe_op op_pow pe_int pe_int) pa_nil)))))) pss_nil)
    (pss_one (ps_ret (pe_op op_sub (C8.pe_c C_law_take hr (by decide) rfl (pa_cons (pv 0) (pa_cons pe_int pa_nil))) pe_int)))))), ?_⟩
  have p15 : CPow 10 15 := ⟨by decide, by decide, by decide⟩
  refine vTake rfl P0 (by decide) (by decide) fun d H1 d0 d4 x1 => ⟨_, rfl, rfl, _, rfl, ite2 (fun _ => ?_) (fun _ => ⟨_, rfl, rfl, _, rfl, ite2 (fun _ => ?_) (fun _ => ?_)⟩)⟩
  · exact ⟨_, rfl, _, _, rfl, rfl, p15, l, c, 10 ^ 15, False, rfl, x1.pool, by decide, by decide, .inl (Nat.le_refl 2), fun a H2 a0 a1 x2 => q a H2 (by rw [show (10 : Int) ^ 15 = 1000000000000000 from rfl] at a1; omega) (x1.trans x2)⟩
  · exact ⟨_, rfl, _, _, rfl, rfl, p15, l, c, 10 ^ 15, False, rfl, x1.pool, by decide, by decide, .inl (Nat.le_refl 2), fun a H2 a0 a1 x2 => ⟨_, _, rfl, rfl, q _ H2 (by rw [show (10 : Int) ^ 15 = 1000000000000000 from rfl] at a1; omega) (x1.trans x2)⟩⟩
  · exact vTake rfl x1.pool (by decide) (by decide) fun a H2 a0 a1 x2 => ⟨_, _, rfl, rfl, q _ H2 (by omega) (x1.trans x2)⟩
theorem ok_leaf {f : Addr} {fd : FuncData} (F : Fun K "_law_leaf" "_law_leaf" s_law_leaf f fd) (T : Txt K mg) (C_law_take : C8.Cal P w K mg base 2 "_law_take" (spTake 2) []) (C_law_integer : C8.Cal P w K mg base 3 "_law_integer" spIntg []) :
    FnOk P w K mg base CX0 4 f fd ["pool", "words", "metas"] (spLeaf K) := by
  refine F.ok sc_law_leaf (fun vs H Q E h => ?_) (fun cdv A outer s H vs Q E hr h => ?_)
  · obtain ⟨_, _, _, _, _, _, rfl, _⟩ := h
    rfl
  obtain ⟨l, c, pw, pm, ws, ms, rfl, P0, W, nw, M, q⟩ := h
  refine ⟨_, (pss_cons (ps_set (i := 3) sc_law_leaf.nd rfl (Or.inl rfl) (C8.pe_c C_law_take hr (by decide) rfl (pa_cons (pv 0) (pa_cons pe_int pa_nil))))
    (pss_cons (ps_if (PW.pt (pw_or (pt_cmpR op_eq (pv 3) pe_int (nomark _)) (pw_or1 (PW.pt (pw_and (pt_cmpR op_eq (pv 3) pe_int (nomark _)) (pw_and1 (pt_not (pt_truth (pv 2) (by intro _; rfl))))))))) (pss_one (ps_ret (pe_tup (pa_cons pe_str (pa_cons (C8.pe_c C_law_integer hr (by decide) rfl (pa_cons (pv 0) pa_nil)) pa_nil))))) pss_nil)
    (pss_cons (ps_if (pt_cmpR op_eq (pv 3) pe_int (nomark _)) (pss_one (ps_ret (pe_tup (pa_cons pe_str (pa_cons (pe_ix ix_list (pv 1) (C8.pe_c C_law_take hr (by decide) rfl (pa_cons (pv 0) (pa_cons (pe_callB call_len_seq (by rfl) T.z_len (by decide +kernel) (pa_cons (pv 1) pa_nil)) pa_nil))) (fun _ _ => rfl)) pa_nil))))) pss_nil)
    (pss_cons (ps_if (pt_cmpR op_eq (pv 3) pe_int (nomark _)) (pss_one (ps_ret (pe_tup (pa_cons pe_str (pa_cons (pe_ix ix_tup (pe_tup (pa_cons (C8.pe_c C_law_take hr (by decide) rfl (pa_cons (pv 0) (pa_cons pe_int pa_nil))) (pa_cons (C8.pe_c C_law_take hr (by decide) rfl (pa_cons (pv 0) (pa_cons (pe_op op_pow pe_int pe_int) pa_nil))) pa_nil))) (C8.pe_c C_law_take hr (by decide) rfl (pa_cons (pv 0) (pa_cons pe_int pa_nil))) (fun _ _ => rfl)) pa_nil))))) pss_nil)
    (pss_one (ps_ret (pe_tup (pa_cons pe_str (pa_cons (pe_ix ix_list (pv 2) (C8.pe_c C_law_take hr (by decide) rfl (pa_cons (pv 0) (pa_cons (pe_callB call_len_seq (by rfl) T.z_len (by decide +kernel) (pa_cons (pv 2) pa_nil)) pa_nil))) (fun _ _ => rfl)) pa_nil))))))))), ?_⟩
  have p9 : CPow 10 9 := ⟨by decide, by decide, by decide⟩
  refine vTake rfl P0 (by decide) (by decide) fun d H1 d0 d4 x1 => ?_
  have W1 := W.ext x1
  have M1 := M.ext x1
  have two : ∀ {Hx : Hp} {v : V} {e : PyData} {s : Str} {t : Tm} {p : Addr}, Ext l c H Hx → Hx p = none → Dt K Hx v e → t.d = .tuple [.str s, e] → (∀ sig, TL sig ms t) → t.kids = [] → Q (.ref p) (upd Hx p (.tup [.str s, v])) := fun x hp dv et ok h =>
    q _ _ _ (x.new P0 hp) (by rw [et]; exact Dt.mk2 hp (.str _) dv) ok h
  have integer : ∀ {D : Ends} {σ : L2.St}, D.rt = Q → σ[0]? = some (some (.ref l)) → tRet (tTup (tCons (tC (.str "int")) (tCons (tCall spIntg [] C8.E0 (tCons (tVar 0) tNil)) tNil))) D σ H1 := fun {D σ} eD h0 => by
    refine ⟨_, h0, l, c, rfl, x1.pool, fun i H2 hi x2 => ⟨small (by show 2 ≤ _; decide), fun p hp => ?_⟩⟩
    rw [eD]
    exact two (t := .int i) (x1.trans x2) hp (.int i) (by unfold Tm.d; rfl) (fun _ => hi) rfl
  refine ⟨_, rfl, rfl, _, rfl, ite2 (fun e => integer rfl rfl) (fun e0 => ?_)⟩
  have lw : 0 < ws.length := List.length_pos_iff.mpr nw
  have nE : ∀ {a b : Int}, a ≠ b → ¬ decide (V.int a = V.int b) = true := fun h z => h (V.int.inj (of_decide_eq_true z))
  by_cases e3 : d = 3
  · subst e3
    refine ⟨_, rfl, rfl, _, rfl, iteT ⟨_, rfl, !(ms.map V.str).isEmpty, .inl ⟨_, SqL.of M1.at_, rfl⟩, ?_⟩⟩
    cases hms : ms with
    | nil => exact iteT (integer rfl rfl)
    | cons m0 mr =>
      have lm : 0 < ms.length := by rw [hms, List.length_cons]; omega
      rw [← hms]
      have ne : (!(!(ms.map V.str).isEmpty)) = false := by rw [hms]; rfl
      rw [ne]
      refine iteF ⟨_, rfl, rfl, _, rfl, iteF ⟨_, rfl, rfl, _, rfl, iteF ?_⟩⟩
      have llen := M1.le
      refine ⟨_, rfl, _, rfl, ⟨_, rfl, pm, ms.map V.str, rfl, .inl (SqL.of M1.at_), ⟨l, c, _, False, rfl, x1.pool, by rw [List.length_map]; omega, by rw [List.length_map]; omega, .inl (Nat.le_refl 2), fun a H2 a0 a1 x2 => ?_⟩⟩⟩
      rw [List.length_map] at a1
      refine (M1.ext x2).ix a0 a1 fun x hx => ⟨small (by show 2 ≤ _; decide), fun p hp => ?_⟩
      exact two (t := .var x) (x1.trans x2) hp (.str x) (by unfold Tm.d; rfl) (fun _ => ⟨hx, (M.wd x hx).wok⟩) rfl
  · refine ⟨_, rfl, rfl, _, rfl, ?_⟩
    rw [show decide (V.int d = V.int 3) = false from Bool.eq_false_iff.mpr (nE e3)]
    refine iteF (iteF ⟨_, rfl, rfl, _, rfl, ite2 (fun e1 => ?_) (fun e1 => ⟨_, rfl, rfl, _, rfl, ite2 (fun e2 => ?_) (fun e2 => ?_)⟩)⟩)
    · have llen := W1.le
      refine ⟨_, rfl, ⟨_, rfl, ⟨_, rfl, pw, ws.map V.str, rfl, .inl (SqL.of W1.at_), ⟨l, c, _, False, rfl, x1.pool, by rw [List.length_map]; omega, by rw [List.length_map]; omega, .inl (Nat.le_refl 2), fun a H2 a0 a1 x2 => ?_⟩⟩⟩⟩
      rw [List.length_map] at a1
      refine (W1.ext x2).ix a0 a1 fun x hx => ⟨small (by show 2 ≤ _; decide), fun p hp => ?_⟩
      exact two (t := .name x) (x1.trans x2) hp (.str x) (by unfold Tm.d; rfl) (fun _ => (W.wd x hx).wok) rfl
    · refine vTake rfl x1.pool (by decide) (by decide) fun a H2 a0 a1 x2 => ?_
      refine ⟨_, rfl, _, _, rfl, rfl, p9, l, c, 10 ^ 9, False, rfl, x2.pool, by decide, by decide, .inl (Nat.le_refl 2), fun b H3 b0 b1 x3 => ⟨small (by show 2 ≤ _; decide), fun t ht => ?_⟩⟩
      have x4 := ((x1.trans x2).trans x3).new (o := .tup [.int a, .int b]) P0 ht
      refine vTake rfl x4.pool (by decide) (by decide) fun j H4 j0 j2 x5 => ?_
      rw [show (10 : Int) ^ 9 = 1000000000 from rfl] at b1
      obtain ⟨n, e, hn⟩ : ∃ n : Int, atI [V.int a, V.int b] j = some (.int n) ∧ n.natAbs < 10000000000000000 := by
        rcases (by omega : j = 0 ∨ j = 1) with rfl | rfl
        · exact ⟨a, rfl, by omega⟩
        · exact ⟨b, rfl, by omega⟩
      refine ⟨t, _, j, _, rfl, rfl, x5.seqT x4.pool (SqT.of upd_same), e, small (by show 2 ≤ _; decide), fun p hp => ?_⟩
      exact two (t := .addr n) (x4.trans x5) hp (.int n) (by unfold Tm.d; rfl) (fun _ => hn) rfl
    · have n1 : d ≠ 1 := fun z => e1 (by rw [z]; decide)
      have n2 : d ≠ 2 := fun z => e2 (by rw [z]; decide)
      have n0 : d ≠ 0 := fun z => e0 (by rw [z]; decide)
      omega
end
end PK
namespace PK
open PySem L2
/-! the stack of drawn terms -/
theorem cut_drop (xs : List V) (i : Nat) (h : i ≤ xs.length) : cutV xs (some (i : Int)) none = xs.drop i := by
  unfold cutV
  have e : HT.sIx xs.length 0 (some (i : Int)) = i := by
    rw [HT.sIx_nat]; omega
  rw [e, HT.sIx_none, List.take_of_length_le (by rw [List.length_drop]; omega)]
theorem cut_take (xs : List V) (i : Nat) (h : i ≤ xs.length) : cutV xs none (some (i : Int)) = xs.take i := by
  unfold cutV
  have e : HT.sIx xs.length xs.length (some (i : Int)) = i := by
    rw [HT.sIx_nat]; omega
  rw [e, HT.sIx_none, List.drop_zero]; rfl
theorem DtAll.dropD {K : PySem.W.Frag} {H : Hp} : ∀ {xs : List V} {ds : List PyData} (n : Nat), DtAll K H xs ds → DtAll K H (xs.drop n) (ds.drop n)
  | _, _, 0, h => h
  | _, _, _ + 1, .nil => .nil
  | _, _, n + 1, .cons _ t => t.dropD n
theorem DtAll.takeD {K : PySem.W.Frag} {H : Hp} : ∀ {xs : List V} {ds : List PyData} (n : Nat), DtAll K H xs ds → DtAll K H (xs.take n) (ds.take n)
  | _, _, 0, _ => .nil
  | _, _, _ + 1, .nil => .nil
  | _, _, n + 1, .cons h t => .cons h (t.takeD n)
theorem sig_get {sh : Int} {sig : List (Str × Nat)} {j : Nat} {e : Str × Nat} (ok : SigOk sh sig) (h : sig[j]? = some e) : valV (sigK sig) (Sum.inr e.1) = some (.int (e.2 : Nat)) := by
  have inj : ∀ i j : Nat, ∀ x y : Str × Nat, sig[i]? = some x → sig[j]? = some y → x.1 = y.1 → i = j := fun i j x y hx hy hxy => by
    have a := (ok.2 i x hx).2.1
    have b := (ok.2 j y hy).2.1
    rw [hxy] at a
    have := lmAt_inj (a.one b)
    have l1 := (List.getElem?_eq_some_iff.mp hx).1
    have l2 := (List.getElem?_eq_some_iff.mp hy).1
    have := ok.1
    omega
  unfold valV sigK
  cases q : (sig.map fun e => ((Sum.inr e.1 : Key), V.int (e.2 : Nat))).find? (fun kv => decide (kv.1 = Sum.inr e.1)) with
  | none =>
    have := List.find?_eq_none.mp q (Sum.inr e.1, V.int (e.2 : Nat)) (List.mem_map.mpr ⟨e, List.mem_of_getElem? h, rfl⟩)
    simp at this
  | some kv =>
    have h1 := List.mem_of_find?_eq_some q
    have h2 := List.find?_some q
    obtain ⟨y, hy, rfl⟩ := List.mem_map.mp h1
    have ey : y.1 = e.1 := Sum.inr.inj (of_decide_eq_true h2)
    obtain ⟨i, hi⟩ := List.getElem?_of_mem hy
    have := inj i j y e hi h ey
    subst this
    rw [hi] at h
    cases h
    rfl
theorem zip_snd_take {α β : Type} : ∀ (a : List α) (b : List β), (a.zip b).map Prod.snd = b.take a.length
  | [], _ => rfl
  | _ :: _, [] => rfl
  | _ :: a, y :: b => by rw [List.zip_cons_cons, List.map_cons, zip_snd_take a b]; rfl
theorem DtAll.strsE {K : PySem.W.Frag} {H : Hp} : ∀ {xs : List V} {ss : List Str}, DtAll K H xs (ss.map PyData.str) → xs = ss.map V.str
  | _, [], h => by cases h; rfl
  | _, n :: r, h => by
    cases h with
    | cons h t => rw [h.s, DtAll.strsE t]; rfl
structure TxtK (K : PySem.W.Frag) (mg : Str → Option Value) : Prop extends Txt K mg where
  z_max : mg "max" = none
  z_set : mg "set" = none
def hiN (st : List (Tm × Nat)) : Nat := st.foldr (fun e n => max (e.2 + 1) n) 0
theorem hiN_le {n : Nat} : ∀ {st : List (Tm × Nat)}, (∀ e ∈ st, e.2 + 1 ≤ n) → hiN st ≤ n
  | [], _ => Nat.zero_le _
  | e :: r, h => by
    have h1 := h e List.mem_cons_self
    have h2 := hiN_le (n := n) (st := r) fun x hx => h x (List.mem_cons_of_mem _ hx)
    show max (e.2 + 1) (hiN r) ≤ n
    omega
theorem le_hiN : ∀ {st : List (Tm × Nat)} {e : Tm × Nat}, e ∈ st → e.2 + 1 ≤ hiN st
  | x :: r, e, h => by
    show _ ≤ max (x.2 + 1) (hiN r)
    rcases List.mem_cons.mp h with rfl | h
    · omega
    · have := le_hiN h; omega
def spHigh (K : PySem.W.Frag) : Sp := fun vs H Q _ => ∃ (a : Addr) (xs : List V) (st : List (Tm × Nat)), vs = [.ref a] ∧ H a = some (.lst xs) ∧ DtAll K H xs (st.map HdD) ∧ st.length ≤ 10000 ∧ ∀ H' : Hp, Same H H' → Q (.int (hiN st : Nat)) H'
structure StOk (sig : List (Str × Nat)) (ms : List Str) (e : Tm × Nat) : Prop where
  ok : TOk sig ms e.1
  ht : e.1.ht ≤ e.2 + 1
  le : e.2 ≤ 51
def tot (st : List (Tm × Nat)) : Nat := (st.map fun e => e.1.size).sum
theorem tot_app (a b : List (Tm × Nat)) : tot (a ++ b) = tot a + tot b := by unfold tot; rw [List.map_append, List.sum_append]
def spGrown (K : PySem.W.Frag) : Sp := fun vs H Q _ => ∃ (l c S psg pw pm : Addr) (xs : List V) (st : List (Tm × Nat)) (sig : List (Str × Nat)) (ws ms : List Str) (sh : Int), vs = [.ref l, .ref S, .ref psg, .ref pw, .ref pm] ∧ Pool H l c ∧ S ≠ l ∧ H S = some (.lst xs) ∧ DtAll K H xs (st.map HdD) ∧ st.length ≤ 1000 ∧
  psg ≠ l ∧ H psg = some (.dK (sigK sig)) ∧ SigOk sh sig ∧ Wl H l pw ws ∧ ws ≠ [] ∧ Wl H l pm ms ∧ (∀ e ∈ st, StOk sig ms e) ∧
  ∀ (H' : Hp) (S' : Addr) (xs' : List V) (st' : List (Tm × Nat)), Ext l c H H' → S' ≠ l → H' S' = some (.lst xs') → DtAll K H' xs' (st'.map HdD) → (∀ e ∈ st', StOk sig ms e) → st' ≠ [] → tot st' ≤ tot st + 1 → st'.length ≤ st.length + 1 → Q (.ref S') H'
def spTerm (K : PySem.W.Frag) : Sp := fun vs H Q _ => ∃ (l c psg pw pm : Addr) (sig : List (Str × Nat)) (ws ms : List Str) (sh : Int) (most : Nat), vs = [.ref l, .ref psg, .ref pw, .ref pm, .int (most : Nat)] ∧ Pool H l c ∧ psg ≠ l ∧ H psg = some (.dK (sigK sig)) ∧ SigOk sh sig ∧ Wl H l pw ws ∧ ws ≠ [] ∧ Wl H l pm ms ∧ 0 < most ∧ most ≤ 500 ∧
  ∀ (v : V) (t : Tm) (H' : Hp), Ext l c H H' → Dt K H' v t.d → TOk sig ms t → t.ht ≤ 52 → t.size ≤ most → Q v H'
section
variable {P : Program} {w : World} {K : PySem.W.Frag} {mg : Str → Option Value} {base : Heap}
abbrev s_law_high : Stmt := topS 21
theorem sc_law_high : FnScope ["parts", "part"] ["parts"] (defScope s_law_high) := ⟨rfl, rfl, rfl, by decide +kernel, rfl, by decide +kernel, by decide +kernel⟩
-- slots: 0:parts 1:part(comp)
abbrev s_law_grown : Stmt := topS 22
theorem sc_law_grown : FnScope ["pool", "stack", "signature", "words", "metas", "names", "kind", "many", "parts", "terms", "rest", "chosen", "entries", "part", "k"] ["pool", "stack", "signature", "words", "metas"] (defScope s_law_grown) := ⟨rfl, rfl, rfl, by decide +kernel, rfl, by decide +kernel, by decide +kernel⟩
-- slots: 0:pool(cell) 1:stack 2:signature 3:words(cell) 4:metas 5:names 6:kind 7:many 8:parts 9:terms(cell) 10:rest 11:chosen(cell) 12:entries 13:part(comp) 14:k(comp)
abbrev s_law_term : Stmt := topS 23
theorem sc_law_term : FnScope ["pool", "signature", "words", "metas", "most", "stack", "k"] ["pool", "signature", "words", "metas", "most"] (defScope s_law_term) := ⟨rfl, rfl, rfl, by decide +kernel, rfl, by decide +kernel, by decide +kernel⟩
-- slots: 0:pool 1:signature 2:words 3:metas 4:most 5:stack 6:k
theorem ok_high {f : Addr} {fd : FuncData} (F : Fun K "_law_high" "_law_high" s_law_high f fd) (T : TxtK K mg) : FnOk P w K mg base CX0 1 f fd ["parts"] (spHigh K) := by
  refine F.ok sc_law_high (fun vs H Q E h => ?_) (fun cdv A outer s H vs Q E hr h => ?_)
  · obtain ⟨_, _, _, rfl, _⟩ := h
    rfl
  obtain ⟨a, xs, st, rfl, ha, da, ls, q⟩ := h
  refine ⟨_, (pss_one (ps_ret (pe_op op_add pe_int (pe_callB (cr_max (by rfl)) (by rfl) T.z_max (by decide +kernel) (pa_cons (pe_op op_cat (pe_lst (pa_cons (pe_un un_neg pe_int) pa_nil)) (pe_lc (own := [("part", 1)]) (g := (gName 1)) (tt := tYes) (by rfl) sc_law_high.nd (pi_list (pv 0)) (blkOk_by (N := ["parts", "part"]) (sc := defScope s_law_high) (by decide +kernel)) (fun _ _ _ _ _ => (pg_name (i := 1) sc_law_high.nd rfl (Or.inl rfl))) (fun _ _ _ _ _ => pts_nil) (fun _ _ _ _ _ => (pe_ix (r := rIxT K) ix_tup (pv 1) pe_int (fun _ _ => rfl))))) pa_nil))))), ?_⟩
  have lx : xs.length = st.length := by rw [da.lenD, List.length_map]
  refine ⟨_, rfl, small (by show 1 ≤ _; decide), fun p hp => ⟨_, rfl, a, rfl, ⟨_, SqL.of ((same_new hp) _ _ ha)⟩, fun D hD => lcS (K := K) (walk_list (xs := xs)) hD (by omega) (fun ds => ds = ((st.take ds.length).map fun e => ((e.2 : Nat) : Int)).map PyData.int) rfl (fun H' s => SqL.of (s _ _ ((same_new hp) _ _ ha))) ?_ ?_⟩⟩
  · rintro i x H1 H1 ds R hi s1 ⟨rfl, gx⟩ jd len r
    obtain ⟨d, gd, dx⟩ := DtAll.getX da gx
    rw [List.getElem?_map] at gd
    cases e0 : st[i]? with
    | none => rw [e0] at gd; cases gd
    | some e =>
    rw [e0] at gd
    cases gd
    unfold HdD at dx
    obtain ⟨a1, u1, w1, rfl, hs1, j1, j2⟩ := Dt.t2 ((dx.same (same_new hp)).same s1)
    obtain rfl := j2.i
    refine ⟨rfl, vTx rfl hs1 rfl (r (.int (e.2 : Nat)) _ H1 (Same.refl _) (.int _) ?_)⟩
    rw [List.length_append, len, show i + [PyData.int ((e.2 : Nat) : Int)].length = i + 1 from rfl, List.take_add_one, e0, List.map_append, List.map_append]
    rw [len] at jd
    rw [← jd]; rfl
  · rintro H1 ws ds s1 hws dws len jd
    rw [len, lx, List.take_length] at jd
    obtain rfl : ws = (st.map fun e => ((e.2 : Nat) : Int)).map V.int := DtAll.intsE (K := K) (H := H1) (by rw [← jd]; exact dws)
    have hpL : H1 p = some (.lst [.int (-1)]) := s1 _ _ upd_same
    refine ⟨p, D, _, _, rfl, rfl, hpL, hws, by rw [List.length_map, List.length_map]; exact small (by show 1 + _ ≤ _; omega), fun p2 hp2 => ?_⟩
    refine ⟨p2, (-1) :: (st.map fun e => ((e.2 : Nat) : Int)), rfl, SqL.of (by rw [upd_same]; rfl), by simp, fun m hm hmax => ⟨_, _, rfl, rfl, ?_⟩⟩
    have m0 : -1 ≤ m := hmax _ List.mem_cons_self
    have hn : 1 + m = ((hiN st : Nat) : Int) := by
      have h1 : ((hiN st : Nat) : Int) ≤ 1 + m := by
        have := hiN_le (n := (1 + m).toNat) (st := st) fun e he => by
          have := hmax ((e.2 : Nat) : Int) (List.mem_cons_of_mem _ (List.mem_map.mpr ⟨e, he, rfl⟩))
          omega
        omega
      rcases List.mem_cons.mp hm with e | h
      · omega
      · obtain ⟨e, he, rfl⟩ := List.mem_map.mp h
        have := le_hiN he
        omega
    show Q (.int (1 + m)) _
    rw [hn]
    exact q _ (((same_new hp).trans s1).trans (same_new hp2))
theorem ok_grown {f : Addr} {fd : FuncData} (F : Fun K "_law_grown" "_law_grown" s_law_grown f fd) (T : TxtK K mg) (C_law_take : C8.Cal P w K mg base 2 "_law_take" (spTake 2) []) (C_law_leaf : C8.Cal P w K mg base 4 "_law_leaf" (spLeaf K) []) (C_law_high : C8.Cal P w K mg base 1 "_law_high" (spHigh K) []) :
    FnOk P w K mg base CX0 5 f fd ["pool", "stack", "signature", "words", "metas"] (spGrown K) := by
  refine F.ok sc_law_grown (fun vs H Q E h => ?_) (fun cdv A outer s H vs Q E hr h => ?_)
  · obtain ⟨_, _, _, _, _, _, _, _, _, _, _, _, rfl, _⟩ := h
    rfl
  obtain ⟨l, c, S, psg, pw, pm, xs, st, sig, ws, ms, sh, rfl, P0, nS, hS, dst, lst, nsg, hsg, sok, W, nw, M, sto, q⟩ := h
  refine ⟨_, (pss_cons (ps_set (i := 5) sc_law_grown.nd rfl (Or.inl rfl) (pe_callTy (call_listD (by rfl)) (by rfl) T.z_list (by decide +kernel) (pa_cons (pv 2) pa_nil)))
    (pss_cons (ps_set (i := 6) sc_law_grown.nd rfl (Or.inl rfl) (C8.pe_c C_law_take hr (by decide) rfl (pa_cons (pv 0) (pa_cons (pe_op op_add pe_int (pe_callB call_len_seq (by rfl) T.z_len (by decide +kernel) (pa_cons (pv 5) pa_nil))) pa_nil))))
    (pss_cons (ps_if (pt_cmpR op_lt (pv 6) pe_int (nomark _)) (pss_one (ps_ret (pe_op op_cat (pv 1) (pe_lst (pa_cons (pe_tup (pa_cons (C8.pe_c C_law_leaf hr (by decide) rfl (pa_cons (pv 0) (pa_cons (pv 3) (pa_cons (pv 4) pa_nil)))) (pa_cons pe_int pa_nil))) pa_nil))))) pss_nil)
    (pss_cons (ps_set (i := 7) sc_law_grown.nd rfl (Or.inl rfl) (C8.pe_c C_law_take hr (by decide) rfl (pa_cons (pv 0) (pa_cons pe_int pa_nil))))
    (C8.pss_cut (ps_if (pt_cmpR op_gt (pv 6) pe_int (nomark _)) (pss_one (ps_set (i := 7) sc_law_grown.nd rfl (Or.inl rfl) (pe_dget (hu_of hr) (pv 2) (pe_ix ix_list (pv 5) (pe_op op_sub (pv 6) pe_int) (fun _ _ => rfl)) (fun _ _ => rfl)))) pss_nil)
    (pss_cons (ps_set (i := 8) sc_law_grown.nd rfl (Or.inl rfl) (pe_slice sl_list (pv 1) (po_some (pe_op op_sub (pe_callB call_len_seq (by rfl) T.z_len (by decide +kernel) (pa_cons (pv 1) pa_nil)) (pe_callB (call_min2 (by rfl)) (by rfl) T.z_min (by decide +kernel) (pa_cons (pv 7) (pa_cons (pe_callB call_len_seq (by rfl) T.z_len (by decide +kernel) (pa_cons (pv 1) pa_nil)) pa_nil))))) po_none))
    (pss_cons (ps_if (PW.pt (pw_or (pt_cmpR op_lt (pe_callB call_len_seq (by rfl) T.z_len (by decide +kernel) (pa_cons (pv 8) pa_nil)) (pv 7) (nomark _)) (pw_or1 (pt_cmpR op_gt (C8.pe_c C_law_high hr (by decide) rfl (pa_cons (pv 8) pa_nil)) pe_int (nomark _))))) (pss_one (ps_ret (pe_op op_cat (pv 1) (pe_lst (pa_cons (pe_tup (pa_cons (C8.pe_c C_law_leaf hr (by decide) rfl (pa_cons (pv 0) (pa_cons (pv 3) (pa_cons (pv 4) pa_nil)))) (pa_cons pe_int pa_nil))) pa_nil))))) pss_nil)
    (pss_cons (ps_set (i := 9) sc_law_grown.nd rfl (Or.inr rfl) (pe_lc (own := [("part", 13)]) (g := (gName 13)) (tt := tYes) (by rfl) sc_law_grown.nd (pi_list (pv 8)) (blkOk_by (N := ["pool", "stack", "signature", "words", "metas", "names", "kind", "many", "parts", "terms", "rest", "chosen", "entries", "part", "k"]) (sc := defScope s_law_grown) (by decide +kernel)) (fun _ _ _ _ _ => (pg_name (i := 13) sc_law_grown.nd rfl (Or.inl rfl))) (fun _ _ _ _ _ => pts_nil) (fun _ _ _ _ _ => (pe_ix (r := rIxT K) ix_tup (pv 13) pe_int (fun _ _ => rfl)))))
    (pss_cons (ps_set (i := 10) sc_law_grown.nd rfl (Or.inl rfl) (pe_slice sl_list (pv 1) po_none (po_some (pe_op op_sub (pe_callB call_len_seq (by rfl) T.z_len (by decide +kernel) (pa_cons (pv 1) pa_nil)) (pv 7)))))
    (C8.pss_cut (ps_if (pt_cmpR op_gt (pv 6) pe_int (nomark _)) (pss_one (ps_ret (pe_op op_cat (pv 10) (pe_lst (pa_cons (pe_tup (pa_cons (pe_tup (pa_cons pe_str (pa_cons (pe_ix ix_list (pv 5) (pe_op op_sub (pv 6) pe_int) (fun _ _ => rfl)) (pa_cons (pe_callTy call_tuple_of (by rfl) T.z_tuple (by decide +kernel) (pa_cons (pv 9) pa_nil)) pa_nil)))) (pa_cons (C8.pe_c C_law_high hr (by decide) rfl (pa_cons (pv 8) pa_nil)) pa_nil))) pa_nil))))) pss_nil)
    (pss_cons (ps_set (i := 11) sc_law_grown.nd rfl (Or.inr rfl) (pe_callB (PKT.cr_sortX (by rfl)) (by rfl) T.z_sorted (by decide +kernel) (pa_cons (pe_callTy (PKT.cr_setS (by rfl)) (by rfl) T.z_set (by decide +kernel) (pa_cons (pe_lc (own := [("k", 14)]) (g := (gName 14)) (tt := tYes) (by rfl) sc_law_grown.nd (pi_range1 (by rfl) T.z_range (pa_cons (pv 7) pa_nil)) (blkOk_by (N := ["pool", "stack", "signature", "words", "metas", "names", "kind", "many", "parts", "terms", "rest", "chosen", "entries", "part", "k"]) (sc := defScope s_law_grown) (by decide +kernel)) (fun _ _ _ _ _ => (pg_name (i := 14) sc_law_grown.nd rfl (Or.inl rfl))) (fun _ _ _ _ _ => pts_nil) (fun _ _ _ _ _ => (pe_ix (r := rIxL K) ix_list (pv 3) (C8.pe_c C_law_take hr (by decide) rfl (pa_cons (pv 0) (pa_cons (pe_callB (id := "len") (r := rLenS K) call_lenS (by rfl) T.z_len (by decide +kernel) (pa_cons (pv 3) pa_nil)) pa_nil))) (fun _ _ => rfl)))) pa_nil)) pa_nil)))
    (pss_cons (ps_set (i := 12) sc_law_grown.nd rfl (Or.inl rfl) (pe_callTy call_tuple_of (by rfl) T.z_tuple (by decide +kernel) (pa_cons (pe_lc (own := [("k", 14)]) (g := (gName 14)) (tt := tYes) (by rfl) sc_law_grown.nd (pi_range1 (by rfl) T.z_range (pa_cons (pe_callB call_len_seq (by rfl) T.z_len (by decide +kernel) (pa_cons (pv 11) pa_nil)) pa_nil)) (blkOk_by (N := ["pool", "stack", "signature", "words", "metas", "names", "kind", "many", "parts", "terms", "rest", "chosen", "entries", "part", "k"]) (sc := defScope s_law_grown) (by decide +kernel)) (fun _ _ _ _ _ => (pg_name (i := 14) sc_law_grown.nd rfl (Or.inl rfl))) (fun _ _ _ _ _ => pts_nil) (fun _ _ _ _ _ => (pe_tup (pa_cons (pe_ix (r := rIxL K) ix_list (pv 11) (pv 14) (fun _ _ => rfl)) (pa_cons (pe_ix (r := rIxL K) ix_list (pv 9) (pv 14) (fun _ _ => rfl)) pa_nil))))) pa_nil)))
    (pss_one (ps_ret (pe_op op_cat (pv 10) (pe_lst (pa_cons (pe_tup (pa_cons (pe_tup (pa_cons pe_str (pa_cons (pv 12) pa_nil))) (pa_cons (C8.pe_c C_law_high hr (by decide) rfl (pa_cons (pv 8) pa_nil)) pa_nil))) pa_nil))))))))))))))))), ?_⟩
  have lx : xs.length = st.length := by rw [dst.lenD, List.length_map]
  refine ⟨_, rfl, psg, sigK sig, rfl, .inl hsg, fun N hN => ?_⟩
  have x0 := (Ext.refl P0).new (o := .lst ((sigK sig).map fun kv => kV kv.1)) P0 hN
  have nN : N ≠ l := (P0.ne hN).1
  have lsg := sok.1
  refine ⟨_, rfl, _, rfl, N, _, rfl, .inl (SqL.of upd_same), _, _, rfl, rfl, ?_⟩
  have lsg' : ((sigK sig).map fun kv => kV kv.1).length = sig.length := by unfold sigK; rw [List.length_map, List.length_map]
  have hN1 : (sigK sig).map (fun kv => kV kv.1) = sig.map fun e => V.str e.1 := by unfold sigK; rw [List.map_map]; rfl
  rw [hN1] at x0
  rw [show (fun kv => kV kv.1) = (fun (kv : Key × V) => kV kv.1) from rfl, hN1]
  refine ⟨l, c, 3 + (((sigK sig).map fun kv => kV kv.1).length : Nat), False, by rw [hN1]; rfl, x0.pool, by omega, by omega, .inl (Nat.le_refl 2), fun kd H1 k0 k1 x1 => ?_⟩
  have leafEnd : ∀ {D : Ends} {σ : L2.St} {Hx : Hp}, D.rt = Q → σ[0]? = some (some (.ref l)) → σ[1]? = some (some (.ref S)) → σ[3]? = some (some (.ref pw)) → σ[4]? = some (some (.ref pm)) → Ext l c H Hx →
      tRet (tOp rCat (tVar 1) (tLst (tCons (tTup (tCons (tCall (spLeaf K) [] C8.E0 (tCons (tVar 0) (tCons (tVar 3) (tCons (tVar 4) tNil)))) (tCons (tC (.int 0)) tNil))) tNil))) D σ Hx := fun {D σ Hx} eD h0 h1 h3 h4 x => by
    refine ⟨_, h1, _, h0, _, h3, _, h4, l, c, pw, pm, ws, ms, rfl, x.pool, W.ext x, nw, M.ext x, fun v t H2 y dv tl hk => ⟨small (by show 2 ≤ _; decide), fun p hp => ⟨small (by show 1 ≤ _; decide), fun p2 hp2 => ?_⟩⟩⟩
    have y1 := x.trans y
    have y2 := y1.new (o := .tup [v, .int 0]) P0 hp
    have y3 := y2.new (o := .lst [.ref p]) P0 hp2
    have hS3 := y3.keep _ _ nS hS
    refine ⟨S, p2, xs, _, rfl, rfl, hS3, upd_same, by rw [lx]; exact small (by show _ + 1 ≤ _; omega), fun p3 hp3 => ?_⟩
    have y4 := y3.new (o := .lst (xs ++ [.ref p])) P0 hp3
    rw [eD]
    refine q _ p3 _ (st ++ [(t, 0)]) y4 (y3.pool.ne hp3).1 upd_same ?_ (fun e he => ?_) (by simp) ?_ (by rw [List.length_append]; exact Nat.le_refl _)
    · rw [List.map_append]
      refine (dst.ext P0 y4).append (.cons ?_ .nil)
      have d1 : Dt K (upd H2 p (.tup [v, .int 0])) (.ref p) (HdD (t, 0)) := Dt.mk2 hp dv (.int 0)
      exact (d1.new hp2).new hp3
    · rcases List.mem_append.mp he with h | h
      · exact sto e h
      · rw [List.mem_singleton.mp h]
        exact ⟨.leaf (tl sig) hk, by rw [Tm.ht_eq, hk]; exact Nat.le_refl _, Nat.zero_le _⟩
    · rw [tot_app]
      have : t.size = 1 := by rw [Tm.size_eq, hk]; rfl
      show tot st + (t.size + 0) ≤ _
      omega
  refine ⟨_, rfl, _, _, rfl, rfl, _, rfl, ite2 (fun e => leafEnd rfl rfl rfl rfl rfl (x0.trans x1)) (fun e => ?_)⟩
  have kd2 : 2 ≤ kd := by have := of_decide_eq_false (Bool.eq_false_iff.mpr e); omega
  refine vTake rfl x1.pool (by decide) (by decide) fun m0 H2 m00 m6 x2 => ?_
  have x02 := (x0.trans x1).trans x2
  have hN2 := x2.keep _ _ nN (x1.keep _ _ nN upd_same)
  refine ⟨fun σ' H' => ∃ many : Nat, many ≤ 8 ∧ (2 < kd → ∃ cn, sig[(kd - 3).toNat]? = some (cn, many)) ∧ σ' = [some (.ref l), some (.ref S), some (.ref psg), some (.ref pw), some (.ref pm), some (.ref N), some (.int kd), some (.int many), none, none, none, none, none, none, none] ∧ H' = H2, ?_, ?_⟩
  · refine ⟨_, rfl, _, _, rfl, rfl, _, rfl, ite2 (fun e2 => ?_) (fun e2 => ?_)⟩
    · have k3 : 2 < kd := of_decide_eq_true e2
      rw [lsg'] at k1
      obtain ⟨j, ej⟩ : ∃ j : Nat, kd - 3 = j := ⟨(kd - 3).toNat, by omega⟩
      have hj : j < sig.length := by omega
      have gj : sig[j]? = some sig[j] := List.getElem?_eq_getElem hj
      refine ⟨_, rfl, _, rfl, ⟨_, rfl, _, _, rfl, rfl, N, _, kd - 3, _, rfl, rfl, SqL.of hN2, by rw [ej]; exact atI_nat (by rw [List.getElem?_map, gj]; rfl), ?_⟩⟩
      refine ⟨psg, .int (sig[j].2 : Nat), rfl, ?_, sig[j].2, (sok.2 j _ gj).2.2.2, fun _ => ⟨sig[j].1, by rw [ej]; exact gj⟩, rfl, rfl⟩
      have := DGet.k (k := Sum.inr sig[j].1) (x02.keep _ _ nsg hsg)
      rw [sig_get sok gj] at this
      exact this
    · have : ¬ 2 < kd := of_decide_eq_false (Bool.eq_false_iff.mpr e2)
      exact ⟨m0.toNat, by omega, fun z => absurd z this, by rw [show ((m0.toNat : Nat) : Int) = m0 by omega]; rfl, rfl⟩
  rintro σ' H' ⟨many, hm8, hcn, rfl, rfl⟩
  have hS2 := x02.keep _ _ nS hS
  refine ⟨_, rfl, ⟨_, rfl, S, _, rfl, .inl (SqL.of hS2), ⟨_, rfl, _, rfl, S, _, rfl, .inl (SqL.of hS2), _, _, rfl, _, _, rfl, rfl, _, rfl, S, xs, rfl, SqL.of hS2, fun Pp hPp => ?_⟩⟩⟩
  obtain ⟨dd, edd⟩ : ∃ dd : Nat, dd = xs.length - min many xs.length := ⟨_, rfl⟩
  have ei : ((xs.length : Nat) : Int) - (if ((xs.length : Nat) : Int) < (many : Int) then ((xs.length : Nat) : Int) else (many : Int)) = (dd : Int) := by
    split <;> omega
  rw [ei, cut_drop xs dd (by omega)]
  have x3 := x02.new (o := .lst (xs.drop dd)) P0 hPp
  have nP : Pp ≠ l := (x02.pool.ne hPp).1
  have hP3 : (upd H' Pp (.lst (xs.drop dd))) Pp = some (.lst (xs.drop dd)) := upd_same
  have hN3 := (same_new (o := .lst (xs.drop dd)) hPp) _ _ hN2
  generalize upd H' Pp (.lst (xs.drop dd)) = H3 at x3 hP3 hN3 ⊢
  have dP : DtAll K H3 (xs.drop dd) ((st.drop dd).map HdD) := by rw [List.map_drop]; exact (dst.ext P0 x3).dropD dd
  refine ⟨_, rfl, Pp, _, rfl, .inl (SqL.of hP3), _, rfl, _, _, rfl, rfl, _, rfl, ite2 (fun e2 => iteT (leafEnd rfl rfl rfl rfl rfl x3)) (fun e2 => ?_)⟩
  have lP : (xs.drop dd).length = many := by
    have := of_decide_eq_false (Bool.eq_false_iff.mpr e2)
    rw [List.length_drop] at this ⊢
    omega
  have lm : many ≤ xs.length := by rw [List.length_drop] at lP; omega
  refine ⟨_, rfl, Pp, _, st.drop dd, rfl, hP3, dP, by rw [List.length_drop]; omega, fun H4 s4 => ⟨_, _, rfl, rfl, _, rfl, ite2 (fun e3 => leafEnd rfl rfl rfl rfl rfl (x3.same s4)) (fun e3 => ?_)⟩⟩
  have hi50 : hiN (st.drop dd) ≤ 50 := by have := of_decide_eq_false (Bool.eq_false_iff.mpr e3); omega
  have x4 := x3.same s4
  have hP4 := s4 _ _ hP3
  have dP4 := dP.same s4
  clear leafEnd
  refine ⟨_, rfl, Pp, rfl, ⟨_, SqL.of hP4⟩, fun D hD => lcS (K := K) (walk_list (xs := xs.drop dd)) hD (by omega) (fun ds => ds = ((st.drop dd).take ds.length).map fun e => e.1.d) rfl (fun H' s => SqL.of (s _ _ hP4)) ?_ ?_⟩
  · rintro i x H1 H1 ds R hi s1 ⟨rfl, gx⟩ jd len r
    obtain ⟨d, gd, dx⟩ := DtAll.getX dP4 gx
    rw [List.getElem?_map] at gd
    cases e0 : (st.drop dd)[i]? with
    | none => rw [e0] at gd; cases gd
    | some e =>
    rw [e0] at gd
    cases gd
    unfold HdD at dx
    obtain ⟨a1, u1, w1, rfl, hs1, j1, j2⟩ := Dt.t2 (dx.same s1)
    refine ⟨rfl, vTx rfl hs1 rfl (r e.1.d _ H1 (Same.refl _) j1 ?_)⟩
    rw [List.length_append, len, show i + [e.1.d].length = i + 1 from rfl, List.take_add_one, e0, List.map_append]
    rw [len] at jd
    rw [← jd]; rfl
  rintro H5 wts ds s5 hD5 dts len jd
  rw [len, show (xs.drop dd).length = (st.drop dd).length by rw [List.length_drop, List.length_drop, lx], List.take_length] at jd
  subst jd
  have x5 := x4.same s5
  have nD : D ≠ l := (x4.pool.ne hD).1
  have hS5 := x5.keep _ _ nS hS
  refine ⟨_, rfl, ⟨_, rfl, S, _, rfl, .inl (SqL.of hS5), _, rfl, _, _, rfl, rfl, _, rfl, S, xs, rfl, SqL.of hS5, fun R hR => ?_⟩⟩
  have ei2 : ((xs.length : Nat) : Int) - (many : Int) = (dd : Int) := by omega
  rw [ei2, cut_take xs dd (by omega)]
  have x6 := x5.new (o := .lst (xs.take dd)) P0 hR
  have nR : R ≠ l := (x5.pool.ne hR).1
  have hR6 : (upd H5 R (.lst (xs.take dd))) R = some (.lst (xs.take dd)) := upd_same
  have s46 : Same H4 (upd H5 R (.lst (xs.take dd))) := s5.trans (same_new hR)
  have hD6 : (upd H5 R (.lst (xs.take dd))) D = some (.lst wts) := (same_new hR) _ _ hD5
  have dts6 := dts.same (same_new (o := .lst (xs.take dd)) hR)
  generalize upd H5 R (.lst (xs.take dd)) = H6 at x6 hR6 s46 hD6 dts6 ⊢
  have hP6 := s46 _ _ hP4
  have dP6 := dP4.same s46
  have hN6 := s46 _ _ (s4 _ _ hN3)
  have totd : tot (st.take dd) + tot (st.drop dd) = tot st := by rw [← tot_app, List.take_append_drop]
  have kok : ∀ e ∈ st.drop dd, TOk sig ms e.1 ∧ e.1.ht ≤ hiN (st.drop dd) := fun e he => by
    have o := sto e (List.mem_of_mem_drop he)
    have := le_hiN he
    have := o.ht
    exact ⟨o.ok, by omega⟩
  have lst2 : (st.drop dd).length = many := by rw [List.length_drop, ← lx, ← List.length_drop]; exact lP
  -- what is told at the end
  have done : ∀ (Hx : Hp) (p p2 p3 : Addr) (v : V) (t : Tm), Ext l c H Hx → Dt K Hx v t.d → TOk sig ms t → t.ht ≤ hiN (st.drop dd) + 1 → t.size ≤ 1 + tot (st.drop dd) → Hx p = none → (upd Hx p (.tup [v, .int (hiN (st.drop dd) : Nat)])) p2 = none → (upd (upd Hx p (.tup [v, .int (hiN (st.drop dd) : Nat)])) p2 (.lst [.ref p])) p3 = none →
      Q (.ref p3) (upd (upd (upd Hx p (.tup [v, .int (hiN (st.drop dd) : Nat)])) p2 (.lst [.ref p])) p3 (.lst (xs.take dd ++ [.ref p]))) := fun Hx p p2 p3 v t x dv tok tht tsz hp hp2 hp3 => by
    have y2 := x.new (o := .tup [v, .int (hiN (st.drop dd) : Nat)]) P0 hp
    have y3 := y2.new (o := .lst [.ref p]) P0 hp2
    have y4 := y3.new (o := .lst (xs.take dd ++ [.ref p])) P0 hp3
    refine q _ p3 _ (st.take dd ++ [(t, hiN (st.drop dd))]) y4 (y3.pool.ne hp3).1 upd_same ?_ (fun e he => ?_) (by simp) ?_ ?_
    · rw [List.map_append, List.map_take]
      refine ((dst.ext P0 y4).takeD dd).append (.cons ?_ .nil)
      have d1 : Dt K (upd Hx p (.tup [v, .int (hiN (st.drop dd) : Nat)])) (.ref p) (HdD (t, hiN (st.drop dd))) := Dt.mk2 hp dv (.int _)
      exact (d1.new hp2).new hp3
    · rcases List.mem_append.mp he with h | h
      · exact sto e (List.mem_of_mem_take h)
      · rw [List.mem_singleton.mp h]
        exact ⟨tok, tht, by show hiN _ ≤ 51; omega⟩
    · rw [tot_app]
      show tot (st.take dd) + (t.size + 0) ≤ _
      omega
    · rw [List.length_append, List.length_take]
      show min dd st.length + 1 ≤ _
      omega
  have lt := xs.length_take_le dd
  refine ⟨fun σ' H' => ¬ 2 < kd ∧ σ' = [some (.ref l), some (.ref S), some (.ref psg), some (.ref pw), some (.ref pm), some (.ref N), some (.int kd), some (.int many), some (.ref Pp), some (.ref D), some (.ref R), none, none, none, none] ∧ H' = H6, ?_, ?_⟩
  · refine ⟨_, rfl, _, _, rfl, rfl, _, rfl, ite2 (fun e4 => ?_) (fun e4 => ⟨of_decide_eq_false (Bool.eq_false_iff.mpr e4), rfl, rfl⟩)⟩
    have k3 : 2 < kd := of_decide_eq_true e4
    obtain ⟨cn, hcn⟩ := hcn k3
    obtain ⟨j, ej⟩ : ∃ j : Nat, kd - 3 = j := ⟨(kd - 3).toNat, by omega⟩
    have hcn' : sig[j]? = some (cn, many) := by rw [ej] at hcn; exact hcn
    refine ⟨_, rfl, _, rfl, ⟨_, rfl, _, _, rfl, rfl, N, _, kd - 3, _, rfl, rfl, SqL.of hN6, by rw [ej]; exact atI_nat (by rw [List.getElem?_map, hcn']; rfl), ?_⟩⟩
    refine ⟨_, rfl, D, _, rfl, .inl ⟨SqL.of hD6, fun p1 hp1 => ⟨small (by show 3 ≤ _; decide), fun p2 hp2 => ?_⟩⟩⟩
    have s2 := (same_new (o := .tup wts) hp1).trans (same_new (o := .tup [.str "node", .str cn, .ref p1]) hp2)
    refine ⟨_, rfl, Pp, _, st.drop dd, rfl, s2 _ _ hP6, dP6.same s2, by omega, fun H7 s7 => ⟨small (by show 2 ≤ _; decide), fun p3 hp3 => ⟨small (by show 1 ≤ _; decide), fun p4 hp4 => ?_⟩⟩⟩
    have s3 := ((s2.trans s7).trans (same_new (o := .tup [.ref p2, .int (hiN (st.drop dd) : Nat)]) hp3)).trans (same_new (o := .lst [.ref p3]) hp4)
    refine ⟨R, p4, _, _, rfl, rfl, s3 _ _ hR6, upd_same, small (by show _ + 1 ≤ _; omega), fun p5 hp5 => ?_⟩
    refine done H7 p3 p4 p5 (.ref p2) (.node cn ((st.drop dd).map Prod.fst)) (x6.same (s2.trans s7)) ?_ ?_ ?_ ?_ hp3 hp4 hp5
    · refine Dt.same ?_ s7
      unfold Tm.d
      rw [Tm.ds_map, List.map_map]
      exact Dt.mk3 hp2 (.str _) (.str _) (.tup (SqT.of upd_same) (dts6.same (same_new hp1)))
    · refine .mk ⟨((sok.2 j _ hcn').1).wok, ?_, ?_⟩ fun k hk => ?_
      · rw [List.length_map, lst2]; exact List.mem_of_getElem? hcn'
      · rw [List.length_map, lst2]; exact hm8
      · obtain ⟨e, he, rfl⟩ := List.mem_map.mp hk
        exact (kok e he).1
    · refine Tm.ht_le fun k hk => ?_
      obtain ⟨e, he, rfl⟩ := List.mem_map.mp hk
      exact (kok e he).2
    · rw [Tm.size_eq]
      show 1 + (((st.drop dd).map Prod.fst).map Tm.size).sum ≤ _
      rw [List.map_map]
      exact Nat.le_refl _
  rintro σ' H' ⟨nk, rfl, rfl⟩
  refine ⟨_, rfl, many, rfl, by omega, by omega, fun D2 hD2 => lcX (K := K) (walk_range (lo := 0) (n := ((many : Nat) : Int).toNat)) x6.pool hD2 (by omega) (fun ds => ∃ ss : List Str, ds = ss.map PyData.str ∧ ∀ s ∈ ss, s ∈ ws) ⟨[], rfl, fun _ h => absurd h List.not_mem_nil⟩ (fun _ _ => trivial) ?_ ?_⟩
  · rintro i x H7 H7 ds R' hi x7 ⟨rfl, rfl⟩ ⟨ss, rfl, hss⟩ len r
    have W7 := (W.ext x6).ext x7
    have lw := W7.le
    have lw0 : 0 < ws.length := List.length_pos_iff.mpr nw
    refine ⟨rfl, _, rfl, _, rfl, _, rfl, pw, ws.map V.str, rfl, .inl (SqL.of W7.at_), l, c, ((ws.map V.str).length : Nat), False, rfl, x7.pool, by rw [List.length_map]; omega, by rw [List.length_map]; omega, .inl (Nat.le_refl 2), fun a H8 a0 a1 x8 => ?_⟩
    rw [List.length_map] at a1
    refine (W7.ext x8).ix a0 a1 fun s hs => r (.str s) _ _ x8 (.str s) ⟨ss ++ [s], by rw [List.map_append]; rfl, fun z hz => ?_⟩
    rcases List.mem_append.mp hz with h | h
    · exact hss z h
    · rw [List.mem_singleton.mp h]; exact hs
  rintro H7 vs7 ds7 x7 hv7 da7 len7 ⟨ss, rfl, hss⟩
  rw [List.length_map] at len7
  obtain rfl : vs7 = ss.map V.str := da7.strsE
  refine ⟨D2, ss, rfl, SqL.of hv7, by omega, fun a l' ha met nd => ⟨a, l', rfl, upd_same, by have := met.1; omega, fun zs p per _ hp => ?_⟩⟩
  have lz : zs.length ≤ many := by have := met.1; rw [per.length_eq]; omega
  have zw : ∀ z ∈ zs, z ∈ ws := fun z hz => hss z (List.mem_of_mem_take ((met.2 z).mp (per.mem_iff.mp hz)))
  have x9 := ((x6.trans x7).new (o := PKT.SetX _ _ a l') P0 ha).new (o := .lst (zs.map V.str)) P0 hp
  have nl : ∀ {q : Addr} {o : HO}, q ≠ l → H' q = some o → (upd (upd H7 a (PKT.SetX P w a l')) p (.lst (zs.map V.str))) q = some o := fun {q o} hq e => by
    have e7 := x7.keep _ _ hq e
    have e8 := (same_new (o := PKT.SetX P w a l') ha) _ _ e7
    exact (same_new (o := .lst (zs.map V.str)) hp) _ _ e8
  have hp9 : (upd (upd H7 a (PKT.SetX P w a l')) p (.lst (zs.map V.str))) p = some (.lst (zs.map V.str)) := upd_same
  have hD9 := nl nD hD6
  have hR9 := nl nR hR6
  have hP9 := nl nP hP6
  have seq9 : ∀ {vs : List V} {ds : List PyData}, DtAll K H' vs ds → DtAll K (upd (upd H7 a (PKT.SetX P w a l')) p (.lst (zs.map V.str))) vs ds := fun h => ((h.ext x6.pool x7).same (same_new ha)).same (same_new hp)
  have dts9 := seq9 dts6
  have dP9 := seq9 dP6
  have lt2 : wts.length = many := by rw [dts9.lenD, List.length_map, lst2]
  have lzt : (zs.zip ((st.drop dd).map Prod.fst)).length = zs.length := by rw [List.length_zip, List.length_map, lst2]; omega
  refine ⟨_, rfl, p, _, rfl, .inl (SqL.of hp9), _, rfl, by rw [List.length_map]; omega, by rw [List.length_map]; omega, fun D3 hD3 => lcS (K := K) (walk_range (lo := 0) (n := (((zs.map V.str).length : Nat) : Int).toNat)) hD3 (by rw [List.length_map]; omega) (fun ds => ds = ((zs.zip ((st.drop dd).map Prod.fst)).take ds.length).map Tm.ent) rfl (fun _ _ => trivial) ?_ ?_⟩
  · rintro i x H1 H1 ds R' hi s1 ⟨rfl, rfl⟩ jd len r
    rw [List.length_map] at hi
    have hi' : i < zs.length := by omega
    have gz : zs[i]? = some zs[i] := List.getElem?_eq_getElem hi'
    have gt : ((st.drop dd).map fun e => e.1.d)[i]? = some ((st.drop dd)[i]'(by omega)).1.d := by rw [List.getElem?_map, List.getElem?_eq_getElem (by omega)]; rfl
    obtain ⟨y, gy, dy⟩ := DtAll.getD dts9 gt
    have e0 : (0 : Int) + (i : Int) = (i : Int) := Int.zero_add _
    refine ⟨rfl, _, rfl, _, rfl, p, _, (0 : Int) + (i : Int), _, rfl, rfl, SqL.of (s1 _ _ hp9), by rw [e0]; exact atI_nat (by rw [List.getElem?_map, gz]; rfl), _, rfl, _, rfl, D, _, (0 : Int) + (i : Int), _, rfl, rfl, SqL.of (s1 _ _ hD9), by rw [e0]; exact atI_nat gy, small (by show 2 ≤ _; decide), fun q2 hq2 => ?_⟩
    refine r (Tm.ent (zs[i], ((st.drop dd)[i]'(by omega)).1)) _ _ (same_new hq2) (Dt.mk2 hq2 (.str _) (dy.same s1)) ?_
    have gzip : (zs.zip ((st.drop dd).map Prod.fst))[i]? = some (zs[i], ((st.drop dd)[i]'(by omega)).1) := by
      rw [List.getElem?_zip_eq_some]
      exact ⟨gz, by rw [List.getElem?_map, List.getElem?_eq_getElem (by omega)]; rfl⟩
    rw [List.length_append, len, show i + [Tm.ent (zs[i], ((st.drop dd)[i]'(by omega)).1)].length = i + 1 from rfl, List.take_add_one, gzip, List.map_append]
    rw [len] at jd
    rw [← jd]; rfl
  rintro H10 vs10 ds10 s10 hv10 da10 len10 jd
  rw [len10, List.length_map, show (((zs.length : Nat) : Int)).toNat = (zs.zip ((st.drop dd).map Prod.fst)).length by rw [lzt]; omega, List.take_length] at jd
  subst jd
  refine ⟨D3, _, rfl, .inl ⟨SqL.of hv10, fun p5 hp5 => ?_⟩⟩
  refine ⟨_, rfl, _, rfl, small (by show 2 ≤ _; decide), fun p6 hp6 => ?_⟩
  have s11 := (s10.trans (same_new (o := .tup vs10) hp5)).trans (same_new (o := .tup [.str "map", .ref p5]) hp6)
  refine ⟨_, rfl, Pp, _, st.drop dd, rfl, s11 _ _ hP9, dP9.same s11, by omega, fun H12 s12 => ⟨small (by show 2 ≤ _; decide), fun p7 hp7 => ⟨small (by show 1 ≤ _; decide), fun p8 hp8 => ?_⟩⟩⟩
  have s13 := ((s11.trans s12).trans (same_new (o := .tup [.ref p6, .int (hiN (st.drop dd) : Nat)]) hp7)).trans (same_new (o := .lst [.ref p7]) hp8)
  refine ⟨R, p8, _, _, rfl, rfl, s13 _ _ hR9, upd_same, small (by show _ + 1 ≤ _; omega), fun p9 hp9 => ?_⟩
  have ekids : (Tm.map (zs.zip ((st.drop dd).map Prod.fst))).kids = ((st.drop dd).map Prod.fst).take zs.length := by
    show (zs.zip ((st.drop dd).map Prod.fst)).map Prod.snd = _
    exact zip_snd_take _ _
  refine done H12 p7 p8 p9 (.ref p6) (.map (zs.zip ((st.drop dd).map Prod.fst))) (x9.same (s11.trans s12)) ?_ ?_ ?_ ?_ hp7 hp8 hp9
  · refine Dt.same ?_ s12
    unfold Tm.d
    rw [Tm.es_map]
    exact Dt.mk2 hp6 (.str _) (.tup (SqT.of upd_same) (da10.same (same_new hp5)))
  · refine .mk ⟨by rw [lzt]; omega, fun e he => (W.wd _ (zw _ (List.of_mem_zip he).1)).wok⟩ fun k hk => ?_
    rw [ekids] at hk
    obtain ⟨e, he, rfl⟩ := List.mem_map.mp (List.mem_of_mem_take hk)
    exact (kok e he).1
  · refine Tm.ht_le fun k hk => ?_
    rw [ekids] at hk
    obtain ⟨e, he, rfl⟩ := List.mem_map.mp (List.mem_of_mem_take hk)
    exact (kok e he).2
  · rw [Tm.size_eq, ekids]
    have key : ∀ (n : Nat) (l : List (Tm × Nat)), (((l.map Prod.fst).take n).map Tm.size).sum ≤ tot l := fun n l => by
      induction l generalizing n with
      | nil => simp [tot]
      | cons a r ih =>
        cases n with
        | zero => simp
        | succ n =>
          have := ih n
          show a.1.size + _ ≤ a.1.size + tot r
          exact Nat.add_le_add_left this _
    have := key zs.length (st.drop dd)
    omega
theorem ok_term {f : Addr} {fd : FuncData} (F : Fun K "_law_term" "_law_term" s_law_term f fd) (T : TxtK K mg) (C_law_take : C8.Cal P w K mg base 2 "_law_take" (spTake 2) []) (C_law_grown : C8.Cal P w K mg base 5 "_law_grown" (spGrown K) []) :
    FnOk P w K mg base CX0 6 f fd ["pool", "signature", "words", "metas", "most"] (spTerm K) := by
  refine F.ok sc_law_term (fun vs H Q E h => ?_) (fun cdv A outer s H vs Q E hr h => ?_)
  · obtain ⟨_, _, _, _, _, _, _, _, _, _, rfl, _⟩ := h
    rfl
  obtain ⟨l, c, psg, pw, pm, sig, ws, ms, sh, most, rfl, P0, nsg, hsg, sok, W, nw, M, m0, m1, q⟩ := h
  refine ⟨_, (pss_cons (ps_set (i := 5) sc_law_term.nd rfl (Or.inl rfl) (pe_lst pa_nil))
    (pss_cons (ps_for PassesOwn.never rfl (pi_range1 (by rfl) T.z_range (pa_cons (pe_op op_add pe_int (C8.pe_c C_law_take hr (by decide) rfl (pa_cons (pv 0) (pa_cons (pv 4) pa_nil)))) pa_nil)) (pg_name (i := 6) sc_law_term.nd rfl (Or.inl rfl)) (pss_one (ps_set (i := 5) sc_law_term.nd rfl (Or.inl rfl) (C8.pe_c C_law_grown hr (by decide) rfl (pa_cons (pv 0) (pa_cons (pv 5) (pa_cons (pv 1) (pa_cons (pv 2) (pa_cons (pv 3) pa_nil)))))))))
    (pss_one (ps_ret (pe_ix ix_tup (pe_ix ix_list (pv 5) (pe_un un_neg pe_int) (fun _ _ => rfl)) pe_int (fun _ _ => rfl)))))), ?_⟩
  refine ⟨Nat.zero_le _, fun S hS => ?_⟩
  have x0 := (Ext.refl P0).new (o := .lst []) P0 hS
  have nS : S ≠ l := (P0.ne hS).1
  refine ⟨_, rfl, _, rfl, l, c, (most : Nat), False, rfl, x0.pool, by omega, by omega, .inl (Nat.le_refl 2), fun d H1 d0 d1 x1 => ⟨_, _, rfl, rfl, 1 + d, rfl, by omega, by omega, for_range (lo := 0) (n := (1 + d).toNat) (fun i σ H' => ∃ (S : Addr) (xs : List V) (st : List (Tm × Nat)) (b : Option V), σ = [some (.ref l), some (.ref psg), some (.ref pw), some (.ref pm), some (.int (most : Nat)), some (.ref S), b] ∧ Ext l c H H' ∧ S ≠ l ∧ H' S = some (.lst xs) ∧ DtAll K H' xs (st.map HdD) ∧ (∀ e ∈ st, StOk sig ms e) ∧ tot st ≤ i ∧ st.length ≤ i ∧ (0 < i → st ≠ [])) ?_ ?_ ?_⟩⟩
  · exact ⟨S, [], [], none, rfl, x0.trans x1, nS, x1.keep _ _ nS upd_same, .nil, fun _ h => absurd h List.not_mem_nil, Nat.le_refl _, Nat.le_refl _, fun h => absurd h (Nat.lt_irrefl _)⟩
  · rintro i σ H' hi ⟨S, xs, st, b, rfl, x, nS, hS, ds, so, ht, hl, _⟩
    refine ⟨_, rfl, _, rfl, _, rfl, _, rfl, _, rfl, l, c, S, psg, pw, pm, xs, st, sig, ws, ms, sh, rfl, x.pool, nS, hS, ds, by omega, nsg, x.keep _ _ nsg hsg, sok, W.ext x, nw, M.ext x, so, fun H2 S' xs' st' x2 nS' hS' ds' so' ne' ht' hl' => ?_⟩
    exact ⟨S', xs', st', _, rfl, x.trans x2, nS', hS', ds', so', by omega, by omega, fun _ => ne'⟩
  · rintro σ H' ⟨S, xs, st, b, rfl, x, nS, hS, ds, so, ht, hl, hne⟩
    have ne := hne (by omega)
    have lx : xs.length = st.length := by rw [ds.lenD, List.length_map]
    have l0 : 0 < st.length := List.length_pos_iff.mpr ne
    have gl : st[st.length - 1]? = some (st[st.length - 1]'(by omega)) := List.getElem?_eq_getElem (by omega)
    obtain ⟨y, gy, dy⟩ := DtAll.getD ds (show (st.map HdD)[st.length - 1]? = some (HdD (st[st.length - 1]'(by omega))) by rw [List.getElem?_map, gl]; rfl)
    have hm := List.getElem_mem (l := st) (n := st.length - 1) (by omega)
    generalize st[st.length - 1]'(by omega) = e at gl dy hm
    unfold HdD at dy
    obtain ⟨a1, u1, w1, rfl, hs1, j1, j2⟩ := Dt.t2 dy
    have o := so e hm
    have sz : e.1.size ≤ tot st := by
      have key : ∀ l : List (Tm × Nat), e ∈ l → e.1.size ≤ tot l := fun l => by
        induction l with
        | nil => exact fun h => absurd h List.not_mem_nil
        | cons a r ih =>
          intro h
          show _ ≤ a.1.size + tot r
          rcases List.mem_cons.mp h with rfl | h
          · omega
          · have := ih h; omega
      exact key st hm
    refine ⟨_, rfl, _, rfl, S, xs, -1, _, rfl, rfl, SqL.of hS, ?_, a1, _, 0, _, rfl, rfl, hs1, rfl, q u1 e.1 H' x j1 o.ok (by have := o.ht; have := o.le; omega) (by omega)⟩
    have ne2 : xs ≠ [] := fun z => by rw [z] at lx; simp at lx; omega
    have gy' : xs[xs.length - 1]? = some (V.ref a1) := by rw [lx]; exact gy
    have e2 : xs.getLast ne2 = .ref a1 := by
      rw [List.getLast_eq_getElem]
      exact (List.getElem?_eq_some_iff.mp gy').2
    have := atI_last xs.dropLast (V.ref a1)
    rw [← e2, List.dropLast_concat_getLast ne2, e2] at this
    exact this
end
end PK
namespace PK
open PySem L2
/-! _law_same -/
section
variable {K : PySem.W.Frag} {H H' : Hp}
mutual
theorem Dp.mono (hT : ∀ a xs, SqT K H a xs → SqT K H' a xs) (hL : ∀ a xs, SqL K H a xs → SqL K H' a xs) : ∀ (d : PyData) (v : V), Dp K H v d → Dp K H' v d
  | .none, _, h => by cases h; exact .non
  | .bool _, _, h => by cases h; exact .bl _
  | .int _, _, h => by cases h; exact .int _
  | .str _, _, h => by cases h; exact .str _
  | .dict _, _, h => by cases h
  | .list ds, _, h => by
    cases h with
    | lst s a => exact .lst (hL _ _ s) (DpAll.mono hT hL ds _ a)
  | .tuple ds, _, h => by
    cases h with
    | tup s a => exact .tup (hT _ _ s) (DpAll.mono hT hL ds _ a)
theorem DpAll.mono (hT : ∀ a xs, SqT K H a xs → SqT K H' a xs) (hL : ∀ a xs, SqL K H a xs → SqL K H' a xs) : ∀ (ds : List PyData) (vs : List V), DpAll K H vs ds → DpAll K H' vs ds
  | [], _, h => by cases h; exact .nil
  | d :: ds, _, h => by
    cases h with
    | cons h1 h2 => exact .cons (Dp.mono hT hL d _ h1) (DpAll.mono hT hL ds _ h2)
end
theorem Dp.same {d : PyData} {v : V} (h : Dp K H v d) (e : Same H H') : Dp K H' v d := Dp.mono (fun _ _ q => Same.seqT e q) (fun _ _ q => e.seq q) d v h
theorem DpAll.length : ∀ {xs : List V} {ds : List PyData}, DpAll K H xs ds → xs.length = ds.length
  | _, _, .nil => rfl
  | _, _, .cons _ t => by rw [List.length_cons, List.length_cons, DpAll.length t]
theorem DpAll.get : ∀ {xs : List V} {ds : List PyData} {i : Nat} {d : PyData}, DpAll K H xs ds → ds[i]? = some d → ∃ x, xs[i]? = some x ∧ Dp K H x d
  | _, _, _, _, .nil, e => by simp at e
  | _, _, 0, _, .cons h _, e => by simp at e; subst e; exact ⟨_, rfl, h⟩
  | _, _, i + 1, _, .cons _ t, e => by
    obtain ⟨d, h1, h2⟩ := DpAll.get (i := i) t (by simpa using e)
    exact ⟨d, by simpa using h1, h2⟩
end
theorem depth_get : ∀ {ds : List PyData} {i : Nat} {d : PyData}, ds[i]? = some d → d.depth ≤ PyData.depthAll ds
  | [], _, _, e => by simp at e
  | x :: r, 0, d, e => by
    simp at e; subst e
    show _ ≤ max _ _
    exact Nat.le_max_left _ _
  | x :: r, i + 1, d, e => by
    have ih := depth_get (ds := r) (i := i) (d := d) (by simpa using e)
    show _ ≤ max _ _
    exact Nat.le_trans ih (Nat.le_max_right _ _)
mutual
/-- no list in it is long -/
def slim : PyData → Bool
  | .none | .bool _ | .int _ | .str _ => true
  | .list xs | .tuple xs => decide (xs.length ≤ 1000) && slimAll xs
  | .dict _ => false
def slimAll : List PyData → Bool
  | [] => true
  | x :: xs => slim x && slimAll xs
end
theorem slim_get : ∀ {ds : List PyData} {i : Nat} {d : PyData}, slimAll ds = true → ds[i]? = some d → slim d = true
  | [], _, _, _, e => by simp at e
  | x :: r, 0, d, h, e => by
    simp at e; subst e
    unfold slimAll at h
    exact (Bool.and_eq_true_iff.mp h).1
  | x :: r, i + 1, d, h, e => by
    unfold slimAll at h
    exact slim_get (ds := r) (i := i) (Bool.and_eq_true_iff.mp h).2 (by simpa using e)
theorem slim_seq {ds : List PyData} (h : slim (.tuple ds) = true) : ds.length ≤ 1000 ∧ slimAll ds = true := by
  unfold slim at h
  exact ⟨of_decide_eq_true (Bool.and_eq_true_iff.mp h).1, (Bool.and_eq_true_iff.mp h).2⟩
theorem slim_lst {ds : List PyData} (h : slim (.list ds) = true) : ds.length ≤ 1000 ∧ slimAll ds = true := by
  unfold slim at h
  exact ⟨of_decide_eq_true (Bool.and_eq_true_iff.mp h).1, (Bool.and_eq_true_iff.mp h).2⟩
def spSame (K : PySem.W.Frag) (n : Nat) : Sp := fun vs H Q _ => ∃ (x y : V) (d : PyData), vs = [x, y] ∧ Dp K H x d ∧ Dp K H y d ∧ d.depth < n ∧ slim d = true ∧ ∀ H', Same H H' → Q (.bl true) H'
theorem bF {b : Bool} {A B : Prop} (h : B) : if (!decide (V.bl b = V.bl b)) = true then A else B := by
  rw [decide_eq_true rfl]; exact iteF h
def spInt : Sp := fun vs H Q _ => ∃ n : Int, vs = [.int n] ∧ Q (.bl true) H
section
variable {P : Program} {w : World} {K : PySem.W.Frag} {mg : Str → Option Value} {base : Heap}
abbrev s_law_is_integer : Stmt := topS 25
theorem sc_law_is_integer : FnScope ["actual"] ["actual"] (defScope s_law_is_integer) := ⟨rfl, rfl, rfl, by decide +kernel, rfl, by decide +kernel, by decide +kernel⟩
-- slots: 0:actual
abbrev s_law_same : Stmt := topS 26
theorem sc_law_same : FnScope ["actual", "due", "k"] ["actual", "due"] (defScope s_law_same) := ⟨rfl, rfl, rfl, by decide +kernel, rfl, by decide +kernel, by decide +kernel⟩
-- slots: 0:actual(cell) 1:due(cell) 2:k(comp)
theorem ok_isint {f : Addr} {fd : FuncData} (F : Fun K "_law_is_integer" "_law_is_integer" s_law_is_integer f fd) (T : Txt K mg) : FnOk P w K mg base CX0 1 f fd ["actual"] spInt := by
  refine F.ok sc_law_is_integer (fun vs H Q E h => ?_) (fun cdv A outer s H vs Q E hr h => ?_)
  · obtain ⟨n, rfl, _⟩ := h
    rfl
  obtain ⟨n, rfl, q⟩ := h
  refine ⟨_, (pss_one (ps_ret (pe_and (pe_callB call_isi (by rfl) T.z_isinstance (by decide +kernel) (pa_cons (pv 0) (pa_cons (pe_bltn (v := .ty "int") (by rfl) T.z_int (by decide +kernel) rfl) pa_nil))) (pe_one (pe_not (pe_callB call_isi (by rfl) T.z_isinstance (by decide +kernel) (pa_cons (pv 0) (pa_cons (pe_bltn (v := .ty "bool") (by rfl) T.z_bool (by decide +kernel) rfl) pa_nil)))))))), ?_⟩
  have ty : TyX K H (.int n) (.type "int") := .base (.int n)
  refine vIsi rfl ty (b := true) (by decide +kernel) ⟨_, rfl, iteT (vIsi rfl ty (b := false) (by decide +kernel) ⟨_, rfl, q⟩)⟩
theorem ok_same {n : Nat} {f : Addr} {fd : FuncData} (F : Fun K "_law_same" "_law_same" s_law_same f fd) (T : Txt K mg) (C_law_is_integer : C8.Cal P w K mg base 1 "_law_is_integer" spInt []) (C_law_same : C8.Cal P w K mg base (n + 1) "_law_same" (spSame K n) []) :
    FnOk P w K mg base CX0 (n + 2) f fd ["actual", "due"] (spSame K (n + 1)) := by
  refine F.ok sc_law_same (fun vs H Q E h => ?_) (fun cdv A outer s H vs Q E hr h => ?_)
  · obtain ⟨x, y, d, rfl, _⟩ := h
    rfl
  obtain ⟨x, y, d, rfl, hx, hy, hd, hsl, q⟩ := h
  refine ⟨_, (pss_cons (ps_if (pt_val (pe_callB call_isi (by rfl) T.z_isinstance (by decide +kernel) (pa_cons (pv 1) (pa_cons (pe_bltn (v := .ty "tuple") (by rfl) T.z_tuple (by decide +kernel) rfl) pa_nil)))) (pss_cons (ps_if (PW.pt (pw_or (pt_not (pt_val (pe_callB call_isi (by rfl) T.z_isinstance (by decide +kernel) (pa_cons (pv 0) (pa_cons (pe_bltn (v := .ty "tuple") (by rfl) T.z_tuple (by decide +kernel) rfl) pa_nil))))) (pw_or1 (pt_cmpR op_ne (pe_callB call_len_seq (by rfl) T.z_len (by decide +kernel) (pa_cons (pv 0) pa_nil)) (pe_callB call_len_seq (by rfl) T.z_len (by decide +kernel) (pa_cons (pv 1) pa_nil)) (nomark _))))) (pss_one (ps_ret pe_bl)) pss_nil)
    (pss_one (ps_ret (pe_callB (cr_all (by rfl)) (by rfl) T.z_all (by decide +kernel) (pa_cons (pe_lc (own := [("k", 2)]) (g := (gName 2)) (tt := tYes) (by rfl) sc_law_same.nd (pi_range1 (by rfl) T.z_range (pa_cons (pe_callB call_len_seq (by rfl) T.z_len (by decide +kernel) (pa_cons (pv 1) pa_nil)) pa_nil)) (blkOk_by (N := ["actual", "due", "k"]) (sc := defScope s_law_same) (by decide +kernel)) (fun _ _ _ _ _ => (pg_name (i := 2) sc_law_same.nd rfl (Or.inl rfl))) (fun _ _ _ _ _ => pts_nil) (fun _ _ _ _ _ => (C8.pe_c C_law_same hr (by omega) rfl (pa_cons (pe_ix (r := rIx K) ix_seq (pv 0) (pv 2) (fun _ _ => rfl)) (pa_cons (pe_ix (r := rIx K) ix_seq (pv 1) (pv 2) (fun _ _ => rfl)) pa_nil))))) pa_nil))))) pss_nil)
    (pss_cons (ps_if (pt_val (pe_callB call_isi (by rfl) T.z_isinstance (by decide +kernel) (pa_cons (pv 1) (pa_cons (pe_bltn (v := .ty "list") (by rfl) T.z_list (by decide +kernel) rfl) pa_nil)))) (pss_cons (ps_if (PW.pt (pw_or (pt_not (pt_val (pe_callB call_isi (by rfl) T.z_isinstance (by decide +kernel) (pa_cons (pv 0) (pa_cons (pe_bltn (v := .ty "list") (by rfl) T.z_list (by decide +kernel) rfl) pa_nil))))) (pw_or1 (pt_cmpR op_ne (pe_callB call_len_seq (by rfl) T.z_len (by decide +kernel) (pa_cons (pv 0) pa_nil)) (pe_callB call_len_seq (by rfl) T.z_len (by decide +kernel) (pa_cons (pv 1) pa_nil)) (nomark _))))) (pss_one (ps_ret pe_bl)) pss_nil)
    (pss_one (ps_ret (pe_callB (cr_all (by rfl)) (by rfl) T.z_all (by decide +kernel) (pa_cons (pe_lc (own := [("k", 2)]) (g := (gName 2)) (tt := tYes) (by rfl) sc_law_same.nd (pi_range1 (by rfl) T.z_range (pa_cons (pe_callB call_len_seq (by rfl) T.z_len (by decide +kernel) (pa_cons (pv 1) pa_nil)) pa_nil)) (blkOk_by (N := ["actual", "due", "k"]) (sc := defScope s_law_same) (by decide +kernel)) (fun _ _ _ _ _ => (pg_name (i := 2) sc_law_same.nd rfl (Or.inl rfl))) (fun _ _ _ _ _ => pts_nil) (fun _ _ _ _ _ => (C8.pe_c C_law_same hr (by omega) rfl (pa_cons (pe_ix (r := rIx K) ix_seq (pv 0) (pv 2) (fun _ _ => rfl)) (pa_cons (pe_ix (r := rIx K) ix_seq (pv 1) (pv 2) (fun _ _ => rfl)) pa_nil))))) pa_nil))))) pss_nil)
    (pss_cons (ps_if (pt_cmpR op_isN (pv 1) pe_non (nomark _)) (pss_one (ps_ret (pe_cmpR op_isN (pv 0) pe_non (nomark _)))) pss_nil)
    (pss_cons (ps_if (pt_val (pe_callB call_isi (by rfl) T.z_isinstance (by decide +kernel) (pa_cons (pv 1) (pa_cons (pe_bltn (v := .ty "bool") (by rfl) T.z_bool (by decide +kernel) rfl) pa_nil)))) (pss_one (ps_ret (pe_and (pe_callB call_isi (by rfl) T.z_isinstance (by decide +kernel) (pa_cons (pv 0) (pa_cons (pe_bltn (v := .ty "bool") (by rfl) T.z_bool (by decide +kernel) rfl) pa_nil))) (pe_one (pe_cmpR op_eq (pv 0) (pv 1) (nomark _)))))) pss_nil)
    (pss_cons (ps_if (pt_val (pe_callB call_isi (by rfl) T.z_isinstance (by decide +kernel) (pa_cons (pv 1) (pa_cons (pe_bltn (v := .ty "str") (by rfl) T.z_str (by decide +kernel) rfl) pa_nil)))) (pss_one (ps_ret (pe_and (pe_callB call_isi (by rfl) T.z_isinstance (by decide +kernel) (pa_cons (pv 0) (pa_cons (pe_bltn (v := .ty "str") (by rfl) T.z_str (by decide +kernel) rfl) pa_nil))) (pe_one (pe_cmpR op_eq (pv 0) (pv 1) (nomark _)))))) pss_nil)
    (pss_one (ps_ret (pe_and (C8.pe_c C_law_is_integer hr (by omega) rfl (pa_cons (pv 0) pa_nil)) (pe_one (pe_cmpR op_eq (pv 0) (pv 1) (nomark _))))))))))), ?_⟩
  have q0 := q H (Same.refl H)
  cases d with
  | tuple ds =>
    cases hx with
    | tup sx ax =>
    cases hy with
    | tup sy ay =>
    rename_i px xs py ys
    have tx := ty_tup sx
    have ty := ty_tup sy
    have lx := DpAll.length ax
    have ly := DpAll.length ay
    have hd' : PyData.depthAll ds + 1 < n + 1 := hd
    obtain ⟨hz, hsa⟩ := slim_seq hsl
    refine vIsi rfl ty (b := true) (by decide +kernel) ⟨_, rfl, iteT (vIsi rfl tx (b := true) (by decide +kernel) ⟨_, rfl, iteF ?_⟩)⟩
    refine ⟨_, rfl, px, _, rfl, .inr sx, _, rfl, py, _, rfl, .inr sy, rfl, _, rfl, ?_⟩
    rw [show xs.length = ys.length by omega, decide_eq_true rfl]
    refine iteF ⟨_, rfl, py, _, rfl, .inr sy, _, rfl, by omega, by omega, fun D hD => lc_range (lo := 0) (n := ((ys.length : Nat) : Int).toNat) (fun i H' => i ≤ ys.length ∧ Same H H' ∧ H' D = some (.lst ((List.replicate i true).map V.bl))) ?_ ?_ ?_⟩
    · exact ⟨Nat.zero_le _, same_new hD, upd_same⟩
    · rintro i H' hi ⟨_, sm, hl⟩
      have hi' : i < ys.length := by omega
      have hi2 : i < ds.length := by omega
      have gd : ds[i]? = some ds[i] := List.getElem?_eq_getElem hi2
      obtain ⟨x1, gx, dx⟩ := DpAll.get ax gd
      obtain ⟨y1, gy, dy⟩ := DpAll.get ay gd
      have dd := depth_get gd
      have e0 : (0 : Int) + (i : Int) = (i : Int) := Int.zero_add _
      refine ⟨rfl, yes_ ⟨_, rfl, _, rfl, .inr (.inl ⟨px, xs, _, x1, rfl, rfl, Same.seqT sm sx, by rw [e0]; exact atI_nat gx, ?_⟩)⟩⟩
      refine ⟨_, rfl, _, rfl, .inr (.inl ⟨py, ys, _, y1, rfl, rfl, Same.seqT sm sy, by rw [e0]; exact atI_nat gy, ?_⟩)⟩
      refine ⟨x1, y1, ds[i], rfl, Dp.same dx sm, Dp.same dy sm, by omega, slim_get hsa gd, fun H2 s2 => ⟨_, s2 _ _ hl, ?_, hi', Same.upd (sm.trans s2) hD, ?_⟩⟩
      · rw [List.length_map, List.length_replicate]; exact smallL (by omega)
      · rw [upd_same, List.replicate_succ', List.map_append]; rfl
    · rintro H' ⟨_, sm, hl⟩
      refine ⟨D, _, rfl, SqL.of hl, ?_⟩
      have e2 : (List.replicate ((ys.length : Nat) : Int).toNat true).all id = true := by simp
      rw [e2]
      exact q H' sm
  | list ds =>
    cases hx with
    | lst sx ax =>
    cases hy with
    | lst sy ay =>
    rename_i px xs py ys
    have tx := ty_lst sx
    have ty := ty_lst sy
    have lx := DpAll.length ax
    have ly := DpAll.length ay
    have hd' : PyData.depthAll ds + 1 < n + 1 := hd
    obtain ⟨hz, hsa⟩ := slim_lst hsl
    refine vIsi rfl ty (b := false) (by decide +kernel) ⟨_, rfl, iteF (vIsi rfl ty (b := true) (by decide +kernel) ⟨_, rfl, iteT (vIsi rfl tx (b := true) (by decide +kernel) ⟨_, rfl, iteF ?_⟩)⟩)⟩
    refine ⟨_, rfl, px, _, rfl, .inl sx, _, rfl, py, _, rfl, .inl sy, rfl, _, rfl, ?_⟩
    rw [show xs.length = ys.length by omega, decide_eq_true rfl]
    refine iteF ⟨_, rfl, py, _, rfl, .inl sy, _, rfl, by omega, by omega, fun D hD => lc_range (lo := 0) (n := ((ys.length : Nat) : Int).toNat) (fun i H' => i ≤ ys.length ∧ Same H H' ∧ H' D = some (.lst ((List.replicate i true).map V.bl))) ?_ ?_ ?_⟩
    · exact ⟨Nat.zero_le _, same_new hD, upd_same⟩
    · rintro i H' hi ⟨_, sm, hl⟩
      have hi' : i < ys.length := by omega
      have hi2 : i < ds.length := by omega
      have gd : ds[i]? = some ds[i] := List.getElem?_eq_getElem hi2
      obtain ⟨x1, gx, dx⟩ := DpAll.get ax gd
      obtain ⟨y1, gy, dy⟩ := DpAll.get ay gd
      have dd := depth_get gd
      have e0 : (0 : Int) + (i : Int) = (i : Int) := Int.zero_add _
      refine ⟨rfl, yes_ ⟨_, rfl, _, rfl, .inl (id ⟨px, xs, _, x1, rfl, rfl, sm.seq sx, by rw [e0]; exact atI_nat gx, ?_⟩)⟩⟩
      refine ⟨_, rfl, _, rfl, .inl (id ⟨py, ys, _, y1, rfl, rfl, sm.seq sy, by rw [e0]; exact atI_nat gy, ?_⟩)⟩
      refine ⟨x1, y1, ds[i], rfl, Dp.same dx sm, Dp.same dy sm, by omega, slim_get hsa gd, fun H2 s2 => ⟨_, s2 _ _ hl, ?_, hi', Same.upd (sm.trans s2) hD, ?_⟩⟩
      · rw [List.length_map, List.length_replicate]; exact smallL (by omega)
      · rw [upd_same, List.replicate_succ', List.map_append]; rfl
    · rintro H' ⟨_, sm, hl⟩
      refine ⟨D, _, rfl, SqL.of hl, ?_⟩
      have e2 : (List.replicate ((ys.length : Nat) : Int).toNat true).all id = true := by simp
      rw [e2]
      exact q H' sm
  | none =>
    cases hx; cases hy
    have ty : TyX K H .non (.type "NoneType") := .base .non
    exact vIsi rfl ty (b := false) (by decide +kernel) ⟨_, rfl, iteF (vIsi rfl ty (b := false) (by decide +kernel) ⟨_, rfl, iteF ⟨_, rfl, rfl, _, rfl, iteT ⟨_, rfl, rfl, q0⟩⟩⟩)⟩
  | bool b =>
    cases hx; cases hy
    have ty : TyX K H (.bl b) (.type "bool") := .base (.bl b)
    refine vIsi rfl ty (b := false) (by decide +kernel) ⟨_, rfl, iteF (vIsi rfl ty (b := false) (by decide +kernel) ⟨_, rfl, iteF ⟨_, rfl, rfl, _, rfl, iteF (vIsi rfl ty (b := true) (by decide +kernel) ⟨_, rfl, iteT (vIsi rfl ty (b := true) (by decide +kernel) ⟨_, rfl, iteT ⟨_, rfl, _, rfl, rfl, ?_⟩⟩)⟩)⟩⟩)⟩
    rw [decide_eq_true rfl]
    exact q0
  | str b =>
    cases hx; cases hy
    have ty : TyX K H (.str b) (.type "str") := .base (.str b)
    refine vIsi rfl ty (b := false) (by decide +kernel) ⟨_, rfl, iteF (vIsi rfl ty (b := false) (by decide +kernel) ⟨_, rfl, iteF ⟨_, rfl, rfl, _, rfl, iteF (vIsi rfl ty (b := false) (by decide +kernel) ⟨_, rfl, iteF (vIsi rfl ty (b := true) (by decide +kernel) ⟨_, rfl, iteT (vIsi rfl ty (b := true) (by decide +kernel) ⟨_, rfl, iteT ⟨_, rfl, _, rfl, rfl, ?_⟩⟩)⟩)⟩)⟩⟩)⟩
    rw [decide_eq_true rfl]
    exact q0
  | int b =>
    cases hx; cases hy
    have ty : TyX K H (.int b) (.type "int") := .base (.int b)
    refine vIsi rfl ty (b := false) (by decide +kernel) ⟨_, rfl, iteF (vIsi rfl ty (b := false) (by decide +kernel) ⟨_, rfl, iteF ⟨_, rfl, rfl, _, rfl, iteF (vIsi rfl ty (b := false) (by decide +kernel) ⟨_, rfl, iteF (vIsi rfl ty (b := false) (by decide +kernel) ⟨_, rfl, iteF ⟨_, rfl, _, rfl, _, rfl, iteT ⟨_, rfl, _, rfl, rfl, ?_⟩⟩⟩)⟩)⟩⟩)⟩
    rw [decide_eq_true rfl]
    exact q0
  | dict kvs => cases hx
end
end PK
namespace PK
open PySem L2
theorem lookA_cons {α β : Type} [DecidableEq α] (k : α) (v : β) (r : List (α × β)) (s : α) : lookA ((k, v) :: r) s = match lookA r s with | some t => some t | none => if k = s then some v else none := rfl
/-! the law's filling -/
def noN (t : Tm) : Prop := t.kids.length ≤ 1000 ∧ ∀ f ts, t ≠ .form f ts
def noF : Tm → Prop := Al noN
theorem Al.imp {p q : Tm → Prop} (h : ∀ t, p t → q t) {t : Tm} (a : Al p t) : Al q t := by
  induction t using Tm.ind with
  | h t ih => exact .mk (h t a.at_) fun k hk => ih k hk (a.kid hk)
/-- the dict tells what the row tells, and no more of words -/
def BindE (K : PySem.W.Frag) (H : Hp) (kvs : List (Key × V)) (tab : Tab) : Prop := ∀ s, (∀ t, lookA tab s = some t → ∃ v, valV kvs (.inr s) = some v ∧ Dt K H v t.d) ∧ (lookA tab s = none → valV kvs (.inr s) = none)
theorem BindE.mono {K : PySem.W.Frag} {H H' : Hp} {kvs : List (Key × V)} {tab : Tab} (h : BindE K H kvs tab) (k : ∀ v d, Dt K H v d → Dt K H' v d) : BindE K H' kvs tab := fun s =>
  ⟨fun t e => let ⟨v, e1, e2⟩ := (h s).1 t e; ⟨v, e1, k _ _ e2⟩, (h s).2⟩
theorem lookA_snoc {β : Type} : ∀ (l : List (Str × β)) (k : Str) (v : β) (s : Str), lookA (l ++ [(k, v)]) s = if k = s then some v else lookA l s
  | [], k, v, s => by
    show lookA [(k, v)] s = _
    rw [lookA_cons]; rfl
  | (j, u) :: l, k, v, s => by
    show lookA ((j, u) :: (l ++ [(k, v)])) s = _
    rw [lookA_cons, lookA_cons, lookA_snoc l k v s]
    by_cases e : k = s
    · simp [e]
    · simp [e]
theorem BindE.put {K : PySem.W.Frag} {H : Hp} {kvs : List (Key × V)} {tab : Tab} (h : BindE K H kvs tab) {w : Str} {v : V} {t : Tm} (dv : Dt K H v t.d) : BindE K H (putK kvs (.inr w) v) (tab ++ [(w, t)]) := fun s => by
  rw [lookA_snoc, valV_put]
  by_cases e : w = s
  · subst e
    rw [if_pos rfl, if_pos rfl]
    exact ⟨fun t' et => ⟨v, rfl, by cases et; exact dv⟩, fun z => nomatch z⟩
  · rw [if_neg e, if_neg (fun z => e (Sum.inr.inj z).symm)]
    exact h s
theorem BindE.nil {K : PySem.W.Frag} {H : Hp} : BindE K H [] [] := fun s => ⟨fun t e => (by cases e), fun _ => rfl⟩
theorem zip_ent (es : List (Str × Tm)) (f : Tm → Tm) : List.zipWith (fun (e : Str × Tm) (k : Tm) => (e.1, k)) es ((es.map Prod.snd).map f) = es.map fun e => (e.1, f e.2) := by
  induction es with
  | nil => rfl
  | cons e es ih => rw [List.map_cons, List.map_cons, List.zipWith_cons_cons, ih, List.map_cons]
/-! the data of a term -/
theorem depth_all : ∀ {ds : List PyData} {n : Nat}, (∀ d ∈ ds, d.depth ≤ n) → PyData.depthAll ds ≤ n
  | [], _, _ => Nat.zero_le _
  | d :: r, n, h => by
    show max _ _ ≤ n
    have h1 := h d List.mem_cons_self
    have h2 := depth_all (ds := r) fun x hx => h x (List.mem_cons_of_mem _ hx)
    omega
theorem slim_all : ∀ {ds : List PyData}, (∀ d ∈ ds, slim d = true) → slimAll ds = true
  | [], _ => by unfold slimAll; rfl
  | d :: r, h => by
    unfold slimAll
    rw [h d List.mem_cons_self, slim_all fun x hx => h x (List.mem_cons_of_mem _ hx)]; rfl
theorem slim_tup {ds : List PyData} (h1 : ds.length ≤ 1000) (h : ∀ d ∈ ds, slim d = true) : slim (.tuple ds) = true := by
  unfold slim
  rw [decide_eq_true h1, slim_all h]; rfl
theorem slim_str (x : Str) : slim (.str x) = true := by unfold slim; rfl
theorem slim_int (x : Int) : slim (.int x) = true := by unfold slim; rfl
theorem slim_two {a b : PyData} (h1 : slim a = true) (h2 : slim b = true) : slim (.tuple [a, b]) = true := slim_tup (by show 2 ≤ 1000; decide) fun d hd => by
  rcases List.mem_cons.mp hd with rfl | hd
  · exact h1
  · rw [List.mem_singleton.mp hd]; exact h2
theorem tm_depth {t : Tm} (nf : noF t) : t.d.depth ≤ 3 * t.ht := by
  induction t using Tm.ind with
  | h t ih =>
    have hpos := t.ht_pos
    cases t with
    | node c ts =>
      unfold Tm.d
      rw [Tm.ds_map]
      have : PyData.depthAll (ts.map Tm.d) ≤ 3 * (Tm.node c ts).ht - 3 := depth_all fun d hd => by
        obtain ⟨k, hk, rfl⟩ := List.mem_map.mp hd
        have h1 := ih k hk (nf.kid hk)
        have h2 := Tm.ht_kid (t := .node c ts) hk
        omega
      show max 0 (max 0 (max (PyData.depthAll (ts.map Tm.d) + 1) 0)) + 1 ≤ _
      omega
    | map es =>
      unfold Tm.d
      rw [Tm.es_map]
      have : PyData.depthAll (es.map Tm.ent) ≤ 3 * (Tm.map es).ht - 2 := depth_all fun d hd => by
        obtain ⟨e, he, rfl⟩ := List.mem_map.mp hd
        have hk : e.2 ∈ (Tm.map es).kids := List.mem_map.mpr ⟨e, he, rfl⟩
        have h1 := ih e.2 hk (nf.kid hk)
        have h2 := Tm.ht_kid hk
        unfold Tm.ent
        show max 0 (max e.2.d.depth 0) + 1 ≤ _
        omega
      show max 0 (max (PyData.depthAll (es.map Tm.ent) + 1) 0) + 1 ≤ _
      omega
    | form f ts => exact absurd rfl (nf.at_.2 f ts)
    | int n => unfold Tm.d; show max 0 (max 0 0) + 1 ≤ _; omega
    | name n => unfold Tm.d; show max 0 (max 0 0) + 1 ≤ _; omega
    | addr n => unfold Tm.d; show max 0 (max 0 0) + 1 ≤ _; omega
    | var n => unfold Tm.d; show max 0 (max 0 0) + 1 ≤ _; omega
theorem tm_slim {t : Tm} (nf : noF t) : slim t.d = true := by
  induction t using Tm.ind with
  | h t ih =>
    cases t with
    | node c ts =>
      unfold Tm.d
      rw [Tm.ds_map]
      refine slim_tup (by show 3 ≤ 1000; decide) fun d hd => ?_
      rcases List.mem_cons.mp hd with rfl | hd
      · exact slim_str _
      rcases List.mem_cons.mp hd with rfl | hd
      · exact slim_str _
      rw [List.mem_singleton.mp hd]
      refine slim_tup (by rw [List.length_map]; exact nf.at_.1) fun d hd => ?_
      obtain ⟨k, hk, rfl⟩ := List.mem_map.mp hd
      exact ih k hk (nf.kid hk)
    | map es =>
      unfold Tm.d
      rw [Tm.es_map]
      have lk : es.length ≤ 1000 := by have := nf.at_.1; rw [show (Tm.map es).kids = es.map Prod.snd from rfl, List.length_map] at this; exact this
      refine slim_two (slim_str _) (slim_tup (by rw [List.length_map]; exact lk) fun d hd => ?_)
      obtain ⟨e, he, rfl⟩ := List.mem_map.mp hd
      have hk : e.2 ∈ (Tm.map es).kids := List.mem_map.mpr ⟨e, he, rfl⟩
      exact slim_two (slim_str _) (ih e.2 hk (nf.kid hk))
    | form f ts => exact absurd rfl (nf.at_.2 f ts)
    | int n => unfold Tm.d; exact slim_two (slim_str _) (slim_int _)
    | name n => unfold Tm.d; exact slim_two (slim_str _) (slim_str _)
    | addr n => unfold Tm.d; exact slim_two (slim_str _) (slim_int _)
    | var n => unfold Tm.d; exact slim_two (slim_str _) (slim_str _)
end PK
namespace PK
open PySem L2
/-! a dict in order -/
theorem eqU {k : Nat} {A : Around} (hr : Room k A) : A.units + 190 < cLine := by have := hr.un; omega
def layN (t : Tm) : Prop := t.d.canLay0 = true
theorem lay_all : ∀ {ds : List PyData}, (∀ d ∈ ds, d.canLay0 = true) → PyData.canLayAll0 ds = true
  | [], _ => rfl
  | d :: r, h => by
    show (d.canLay0 && PyData.canLayAll0 r) = true
    rw [h d List.mem_cons_self, lay_all fun x hx => h x (List.mem_cons_of_mem _ hx)]; rfl
theorem lay_tup {ds : List PyData} (h : ∀ d ∈ ds, d.canLay0 = true) : (PyData.tuple ds).canLay0 = true := lay_all h
theorem lay_str {x : Str} (h : SOk x) : (PyData.str x).canLay0 = true := h
theorem TOk.lay {sig : List (Str × Nat)} {ms : List Str} {t : Tm} (h : TOk sig ms t) : t.d.canLay0 = true := by
  have w : ∀ x ∈ (["int", "name", "addr", "meta", "node", "map"] : List Str), SOk x := by decide +kernel
  induction t using Tm.ind with
  | h t ih =>
    have hl := h.at_
    have two : ∀ (a : Str) (x : PyData), a ∈ (["int", "name", "addr", "meta", "node", "map"] : List Str) → x.canLay0 = true → (PyData.tuple [.str a, x]).canLay0 = true := fun a x ha hx => lay_tup fun d hd => by
      rcases List.mem_cons.mp hd with rfl | hd
      · exact w _ ha
      · rw [List.mem_singleton.mp hd]; exact hx
    cases t with
    | node c ts =>
      unfold Tm.d
      rw [Tm.ds_map]
      refine lay_tup fun d hd => ?_
      rcases List.mem_cons.mp hd with rfl | hd
      · exact w "node" (by decide)
      rcases List.mem_cons.mp hd with rfl | hd
      · exact hl.1.1
      rw [List.mem_singleton.mp hd]
      refine lay_tup fun d hd => ?_
      obtain ⟨k, hk, rfl⟩ := List.mem_map.mp hd
      exact ih k hk (h.kid hk)
    | map es =>
      unfold Tm.d
      rw [Tm.es_map]
      refine two _ _ (by decide) (lay_tup fun d hd => ?_)
      obtain ⟨e, he, rfl⟩ := List.mem_map.mp hd
      have hk : e.2 ∈ (Tm.map es).kids := List.mem_map.mpr ⟨e, he, rfl⟩
      unfold Tm.ent
      refine lay_tup fun d hd => ?_
      rcases List.mem_cons.mp hd with rfl | hd
      · exact (hl.2 e he).1
      · rw [List.mem_singleton.mp hd]; exact ih e.2 hk (h.kid hk)
    | form f ts => exact hl.elim
    | int n => unfold Tm.d; exact two _ _ (by decide) rfl
    | name n => unfold Tm.d; exact two _ _ (by decide) hl.1
    | addr n => unfold Tm.d; exact two _ _ (by decide) rfl
    | var n => unfold Tm.d; exact two _ _ (by decide) hl.2.1
theorem TOk.noF {sig : List (Str × Nat)} {ms : List Str} {t : Tm} (h : TOk sig ms t) : noF t := Al.imp (fun t h => by
  refine ⟨?_, fun f ts e => by subst e; exact h.elim⟩
  cases t with
  | node c ts => show ts.length ≤ 1000; have := h.2.2; omega
  | map es => show (es.map Prod.snd).length ≤ 1000; rw [List.length_map]; have := h.1; omega
  | form f ts => exact h.elim
  | _ => exact Nat.zero_le _) h
theorem Tm.hd_node {t : Tm} : t.hd = "node" ↔ ∃ c ts, t = .node c ts := by
  constructor
  · intro h
    cases t with
    | node c ts => exact ⟨c, ts, rfl⟩
    | form f ts => exact absurd h f.ne_node
    | int n => exact absurd h (show ("int" : Str) ≠ "node" by decide +kernel)
    | name n => exact absurd h (show ("name" : Str) ≠ "node" by decide +kernel)
    | addr n => exact absurd h (show ("addr" : Str) ≠ "node" by decide +kernel)
    | var n => exact absurd h (show ("meta" : Str) ≠ "node" by decide +kernel)
    | map n => exact absurd h (show ("map" : Str) ≠ "node" by decide +kernel)
  · rintro ⟨c, ts, rfl⟩; rfl
structure Cmp (p : Tm) : Prop where
  lay : p.d.canLay0 = true
  dep : p.d.depth ≤ 190
structure TxtM (K : PySem.W.Frag) (mg : Str → Option Value) : Prop extends TxtK K mg where
  z_zip : mg "zip" = none
  z_dict : mg "dict" = none
  g_MH : ∃ t, mg "MOST_HEIGHT" = some (.int 200 t)
/-- a dict's rows and what they tell, in order -/
inductive Bnd (K : PySem.W.Frag) (H : Hp) : List (Key × V) → Tab → Prop
  | nil : Bnd K H [] []
  | cons {s : Str} {v : V} {t : Tm} {kvs : List (Key × V)} {tab : Tab} : Dt K H v t.d → Bnd K H kvs tab → Bnd K H ((.inr s, v) :: kvs) ((s, t) :: tab)
section
variable {K : PySem.W.Frag} {H H' : Hp}
theorem Bnd.mono (k : ∀ v d, Dt K H v d → Dt K H' v d) : ∀ {kvs : List (Key × V)} {tab : Tab}, Bnd K H kvs tab → Bnd K H' kvs tab
  | _, _, .nil => .nil
  | _, _, .cons d r => .cons (k _ _ d) (Bnd.mono k r)
theorem Bnd.snoc {s : Str} {v : V} {t : Tm} (dv : Dt K H v t.d) : ∀ {kvs : List (Key × V)} {tab : Tab}, Bnd K H kvs tab → Bnd K H (kvs ++ [(.inr s, v)]) (tab ++ [(s, t)])
  | _, _, .nil => .cons dv .nil
  | _, _, .cons d r => .cons d (Bnd.snoc dv r)
theorem Bnd.len : ∀ {kvs : List (Key × V)} {tab : Tab}, Bnd K H kvs tab → kvs.length = tab.length
  | _, _, .nil => rfl
  | _, _, .cons _ r => by rw [List.length_cons, List.length_cons, Bnd.len r]
theorem Bnd.none {s : Str} : ∀ {kvs : List (Key × V)} {tab : Tab}, Bnd K H kvs tab → s ∉ tab.map Prod.fst → valV kvs (.inr s) = none
  | _, _, .nil, _ => valV_nil
  | _, _, .cons _ r, n => by
    rw [List.map_cons] at n
    have ne : (Sum.inr _ : Key) ≠ .inr s := fun z => n (List.mem_cons.mpr (.inl (Sum.inr.inj z).symm))
    rw [valV_tl ne]
    exact Bnd.none r fun z => n (List.mem_cons_of_mem _ z)
theorem Bnd.put {s : Str} {v : V} {t : Tm} {kvs : List (Key × V)} {tab : Tab} (b : Bnd K H kvs tab) (n : s ∉ tab.map Prod.fst) (dv : Dt K H v t.d) : Bnd K H (putK kvs (.inr s) v) (tab ++ [(s, t)]) := by
  rw [putK_new _ (b.none n)]
  exact b.snoc dv
theorem lookA_no {β : Type} : ∀ {l : List (Str × β)} {s : Str}, s ∉ l.map Prod.fst → lookA l s = none
  | [], _, _ => rfl
  | (k, v) :: r, s, n => by
    rw [List.map_cons] at n
    rw [lookA_cons, lookA_no fun z => n (List.mem_cons_of_mem _ z), if_neg fun z => n (List.mem_cons.mpr (.inl z.symm))]
theorem lookA_of {β : Type} : ∀ {l : List (Str × β)} {e : Str × β}, (l.map Prod.fst).Nodup → e ∈ l → lookA l e.1 = some e.2
  | (k, v) :: r, e, nd, h => by
    rw [List.map_cons] at nd
    obtain ⟨n, nd⟩ := List.nodup_cons.mp nd
    rw [lookA_cons]
    rcases List.mem_cons.mp h with rfl | h
    · rw [lookA_no n, if_pos rfl]
    · rw [lookA_of nd h]
theorem Bnd.ind : ∀ {kvs : List (Key × V)} {tab : Tab}, Bnd K H kvs tab → (tab.map Prod.fst).Nodup → BindE K H kvs tab
  | _, _, .nil, _ => .nil
  | _, _, .cons (s := s) (v := v) (t := t) (kvs := kvs) (tab := tab) d r, nd => fun k => by
    rw [List.map_cons] at nd
    obtain ⟨n, nd⟩ := List.nodup_cons.mp nd
    have ih := Bnd.ind r nd k
    rw [lookA_cons]
    by_cases e : s = k
    · subst e
      rw [lookA_no n, if_pos rfl, valV_pos rfl]
      exact ⟨fun t' e => ⟨v, rfl, by cases e; exact d⟩, fun z => nomatch z⟩
    · rw [if_neg e, valV_tl (fun z => e (Sum.inr.inj z))]
      refine ⟨fun t' e2 => ih.1 t' ?_, fun e2 => ih.2 ?_⟩
      · cases q : lookA tab k with
        | none => rw [q] at e2; cases e2
        | some u => rw [q] at e2; exact e2
      · cases q : lookA tab k with
        | none => rfl
        | some u => rw [q] at e2; cases e2
end
theorem Fm.ne_meta (f : Fm) : f.s ≠ "meta" := by cases f <;> decide +kernel
theorem Tm.hd_meta {t : Tm} (h : ∀ s, t ≠ .var s) : t.hd ≠ "meta" := by
  cases t with
  | int n => exact (show ("int" : Str) ≠ "meta" by decide +kernel)
  | name n => exact (show ("name" : Str) ≠ "meta" by decide +kernel)
  | addr n => exact (show ("addr" : Str) ≠ "meta" by decide +kernel)
  | var n => exact absurd rfl (h n)
  | map n => exact (show ("map" : Str) ≠ "meta" by decide +kernel)
  | node c ts => exact (show ("node" : Str) ≠ "meta" by decide +kernel)
  | form f ts => exact f.ne_meta
end PK
namespace PK
open PySem L2
/-! fill -/
section
variable {X : Cx} {x : Str} {p : Pos}
theorem pe_glI {n : Int} (hg : Gl X x) (h : ∃ t, X.mg x = some (.int n t)) (hd : (x == ("__debug__" : Str)) = false := by decide) : PE X (.Name x p) (tC (.int n)) := by
  obtain ⟨t, h⟩ := h
  exact pe_glob hg h ⟨_, rfl⟩ hd
end
theorem Tm.var_or (p : Tm) : (∃ s, p = .var s) ∨ ∀ s, p ≠ .var s := by
  cases p with
  | var s => exact .inl ⟨s, rfl⟩
  | _ => exact .inr fun s h => nomatch h
def bnd (T : Tab) (t : Tm) : Bool := match t with
  | .var s => (lookA T s).isSome
  | _ => false
def spBound (K : PySem.W.Frag) : Sp := fun vs H Q _ => ∃ (x : V) (D : Addr) (kvs : List (Key × V)) (t : Tm) (T : Tab), vs = [x, .ref D] ∧ Dt K H x t.d ∧ H D = some (.dK kvs) ∧ BindE K H kvs T ∧ Q (.bl (bnd T t)) H
def wg (T : Tab) (e : Tm × Nat × Bool) : Tm := if e.2.2 = true then e.1 else e.1.fill T
def entD (e : Tm × Nat × Bool) : PyData := .tuple [e.1.d, .int (e.2.1 : Nat), .bool e.2.2]
def wgS (T : Tab) (l : List (Tm × Nat × Bool)) : Nat := (l.map fun e => (wg T e).size).sum
def kidsE (e : Tm × Nat × Bool) : List (Tm × Nat × Bool) := e.1.kids.map fun k => (k, e.2.1 + 1, e.2.2)
theorem wgS_app (T : Tab) (a b : List (Tm × Nat × Bool)) : wgS T (a ++ b) = wgS T a + wgS T b := by unfold wgS; rw [List.map_append, List.sum_append]
theorem wgS_len (T : Tab) : ∀ l, l.length ≤ wgS T l
  | [] => Nat.le_refl _
  | e :: r => by
    have h1 := wgS_len T r
    have h2 := (wg T e).size_pos
    show r.length + 1 ≤ (wg T e).size + wgS T r
    omega
theorem fill_with {T : Tab} {t : Tm} (h : bnd T t = false) : t.fill T = t.withKids (t.kids.map (Tm.fill T)) := by
  rw [Tm.fill_eq]
  cases t with
  | var s =>
    show (lookA T s).getD (.var s) = .var s
    have h : (lookA T s).isSome = false := h
    cases e : lookA T s with
    | none => rfl
    | some u => rw [e] at h; cases h
  | _ => rfl
/-- what stands when it is known whether a word is bound -/
def stdE (T : Tab) (e : Tm × Nat × Bool) : Prop := e.2.2 = true ∨ bnd T e.1 = false
theorem wg_kids {T : Tab} {e : Tm × Nat × Bool} (h : stdE T e) : (wg T e).kids = (kidsE e).map (wg T) := by
  obtain ⟨t, d, b⟩ := e
  cases b with
  | true =>
    show t.kids = (t.kids.map fun k => (k, d + 1, true)).map (wg T)
    rw [List.map_map]
    exact (List.map_id' _).symm
  | false =>
    have h : bnd T t = false := h.resolve_left (fun z => nomatch z)
    show (t.fill T).kids = (t.kids.map fun k => (k, d + 1, false)).map (wg T)
    rw [fill_with h, Tm.kids_with (by rw [List.length_map]), List.map_map]
    rfl
theorem wg_size {T : Tab} {e : Tm × Nat × Bool} (h : stdE T e) : (wg T e).size = 1 + wgS T (kidsE e) := by
  rw [Tm.size_eq, wg_kids h, List.map_map]
  rfl
theorem wg_ht {T : Tab} {e k : Tm × Nat × Bool} (h : stdE T e) (hk : k ∈ kidsE e) : (wg T k).ht + 1 ≤ (wg T e).ht :=
  Tm.ht_kid (by rw [wg_kids h]; exact List.mem_map.mpr ⟨k, hk, rfl⟩)
theorem kidsE_dep {e k : Tm × Nat × Bool} (hk : k ∈ kidsE e) : k.2.1 = e.2.1 + 1 := by
  obtain ⟨u, _, rfl⟩ := List.mem_map.mp hk
  rfl
/-- the class of what is raised -/
structure TxtL (K : PySem.W.Frag) (mg : Str → Option Value) (CL CP : Addr) : Prop extends TxtM K mg where
  z_sum : mg "sum" = none
  gL : mg "TooLarge" = some (.ref CL)
  xL : PySem.W.excIn K CL [.type "ValueError", .type "Exception", .type "BaseException", .type "object"] "ValueError.__new__" = true
  kL : PySem.W.keepIn K (.ref CL) = true
  bL : PySem.W.subIn K (.ref CL) (.type "BaseException") = some true
  tL : PySem.W.typeIn K (.ref CL) = some (.type "type")
  eL : PySem.W.exmOne K (.ref CL) (.ref CL) = some true
  gP : mg "PassError" = some (.ref CP)
  cE : ExcC K CL
  kP : PySem.W.kitOne K (.ref CL) (.ref CP) = some true
structure CalR (P : Program) (w : World) (K : PySem.W.Frag) (mg : Str → Option Value) (base : Heap) (k : Nat) (x : Str) (sp : Sp) : Prop where
  ex : ∃ (f : Addr) (fd : FuncData) (ps : List Str), FnOk P w K mg base (L2.CX P w) k f fd ps sp ∧ mg x = some (.ref f) ∧ PySem.W.keepIn K (.ref f) = true ∧ Binds K fd ps []
section
variable {X : Cx} {k j : Nat} {x : Str} {sp : Sp} {p pos : Pos} {e : Expr} {es : List Expr} {t : TA} {W : WX}
theorem pe_crS (c : CalR X.prog X.w X.K X.mg X.base k x sp) (tk : Takes X W) (hr : Room j X.A) (hk : k ≤ j) (hg : Gl X x) (ha : PA X (e :: es) t)
    (hdb : (x == ("__debug__" : Str)) = false := by decide) (he : starEach (e :: es) X.env = (false, eval e X.env) :: starEach es X.env := by rfl) (hpl : (backTo pos (starEach es X.env)).any (·.1) = false := by rfl) :
    PE X (.Call (.Name x p) (e :: es) [] pos) (tCallS sp (WE W) t) := by
  obtain ⟨f, fd, ps, F, hm, kp, b⟩ := c.ex
  exact pe_callS F (hr.mono hk) hg hm kp b (fun σ => passAt tk σ) ha hdb he hpl
theorem pe_crE {E : XK} (c : CalR X.prog X.w X.K X.mg X.base k x sp) (tk : Takes X (fun cls d _ H => E cls d H)) (hr : Room j X.A) (hk : k ≤ j) (hg : Gl X x) (ha : PA X (e :: es) t)
    (hdb : (x == ("__debug__" : Str)) = false := by decide) (he : starEach (e :: es) X.env = (false, eval e X.env) :: starEach es X.env := by rfl) (hpl : (backTo pos (starEach es X.env)).any (·.1) = false := by rfl) :
    PE X (.Call (.Name x p) (e :: es) [] pos) (tCallS sp (WE fun cls d _ H => E cls d H) t) := pe_crS c tk hr hk hg ha hdb he hpl
end
def spRoom (K : PySem.W.Frag) (CL : Addr) : Sp := fun vs H Q E => ∃ (x : V) (D : Addr) (kvs : List (Key × V)) (t : Tm) (T : Tab) (m : Nat), vs = [x, .ref D, .int (m : Nat)] ∧ Dt K H x t.d ∧ H D = some (.dK kvs) ∧ BindE K H kvs T ∧ (t.fill T).size ≤ 1000000 ∧ m ≤ 1000000 ∧
  (∀ H', Same H H' → (t.fill T).size ≤ m → (t.fill T).ht ≤ 201 → Q .non H') ∧ ∀ H', Same H H' → (m < (t.fill T).size ∨ 201 < (t.fill T).ht) → E (.ref CL) none H'
def spFill (K : PySem.W.Frag) (CL : Addr) : Sp := fun vs H Q E => ∃ (x : V) (D : Addr) (kvs : List (Key × V)) (t : Tm) (T : Tab) (m : Nat), vs = [x, .ref D, .int (m : Nat)] ∧ Dt K H x t.d ∧ H D = some (.dK kvs) ∧ BindE K H kvs T ∧ (t.fill T).size ≤ 1000000 ∧ m ≤ 1000000 ∧ t.size ≤ 1000000 ∧
  (∀ H' v, Same H H' → (t.fill T).size ≤ m → (t.fill T).ht ≤ 201 → Dt K H' v (t.fill T).d → Q v H') ∧ ∀ H', Same H H' → (m < (t.fill T).size ∨ 201 < (t.fill T).ht) → E (.ref CL) none H'
theorem wg_ht2 {T : Tab} {e : Tm × Nat × Bool} {n : Nat} (h : stdE T e) (hk : ∀ k ∈ kidsE e, (wg T k).ht ≤ n) : (wg T e).ht ≤ n + 1 :=
  Tm.ht_le fun k hk2 => by
    rw [wg_kids h] at hk2
    obtain ⟨z, hz, rfl⟩ := List.mem_map.mp hk2
    exact hk z hz
def RInv (K : PySem.W.Frag) (t0 : Tm) (H : Hp) (x : V) (D Wa : Addr) (T : Tab) (mo : Nat) (m : Nat) (σ : L2.St) (H' : Hp) : Prop := ∃ (l : List (Tm × Nat × Bool)) (many : Nat) (xs : List V) (o1 o2 o3 o4 : Option V), m = wgS T l ∧ σ = [some x, some (.ref D), some (.int (mo : Nat)), some (.int (many : Nat)), some (.ref Wa), o1, o2, o3, o4] ∧ Same H H' ∧ H' Wa = some (.lst xs) ∧ DtAll K H' xs (l.map entD) ∧ many + wgS T l = (t0.fill T).size ∧ many ≤ mo ∧ (∀ e ∈ l, e.2.1 + (wg T e).ht ≤ (t0.fill T).ht) ∧ ((∀ e ∈ l, e.2.1 + (wg T e).ht ≤ 201) → (t0.fill T).ht ≤ 201)
/-- the head that a part of what is filled becomes -/
def headT (T : Tab) (t : Tm) : Tm × Nat := if bnd T t = true then (t.fill T, 0) else (t, t.kids.length)
theorem al_wg {t : Tm} {k : Tm} : k ∈ t.parts → k = t ∨ ∃ c ∈ t.kids, k ∈ c.parts := by
  rw [Tm.parts_eq]
  intro h
  rcases List.mem_cons.mp h with rfl | h
  · exact .inl rfl
  · obtain ⟨l, hl, hk⟩ := List.mem_flatten.mp h
    obtain ⟨c, hc, rfl⟩ := List.mem_map.mp hl
    exact .inr ⟨c, hc, hk⟩
theorem pre_list {T : Tab} : ∀ {ks : List Tm}, (∀ k ∈ ks, ∀ (rest : List Tm) (hs : List (Tm × Nat)), PreL rest hs → PreL (k.fill T :: rest) (k.parts.map (headT T) ++ hs)) → ∀ (rest : List Tm) (hs : List (Tm × Nat)), PreL rest hs → PreL (ks.map (Tm.fill T) ++ rest) (((ks.map Tm.parts).flatten).map (headT T) ++ hs)
  | [], _, _, _, p => p
  | k :: ks, h, rest, hs, p => by
    have ih := pre_list (fun x hx => h x (List.mem_cons_of_mem _ hx)) rest hs p
    have := h k List.mem_cons_self _ _ ih
    rw [List.map_cons, List.map_cons, List.flatten_cons, List.map_append, List.append_assoc]
    exact this
theorem pre_fill {T : Tab} (t : Tm) : ∀ (rest : List Tm) (hs : List (Tm × Nat)), PreL rest hs → PreL (t.fill T :: rest) (t.parts.map (headT T) ++ hs) := by
  induction t using Tm.ind with
  | h t ih =>
    intro rest hs p
    have l := pre_list ih rest hs p
    rw [Tm.parts_eq]
    show PreL _ (headT T t :: (((t.kids.map Tm.parts).flatten).map (headT T) ++ hs))
    unfold headT at l ⊢
    cases hb : bnd T t with
    | true =>
      have hk : t.kids = [] := by
        cases t with
        | var s => rfl
        | _ => cases hb
      rw [hk] at l ⊢
      rw [if_pos rfl]
      exact .leaf p
    | false =>
      rw [if_neg (by decide), fill_with hb]
      by_cases hk : t.kids = []
      · rw [hk] at l ⊢
        rw [List.map_nil, Tm.with_nil hk]
        exact .leaf p
      · exact .node l (by rw [List.length_map]) (List.length_pos_iff.mpr hk) rfl
theorem sum_le {f : Tm → Nat} : ∀ {l : List Tm} {k : Tm}, k ∈ l → f k ≤ (l.map f).sum
  | a :: r, k, h => by
    show _ ≤ f a + (r.map f).sum
    rcases List.mem_cons.mp h with rfl | h
    · omega
    · have := sum_le (f := f) h; omega
theorem parts_size {t : Tm} : ∀ {k : Tm}, k ∈ t.parts → k.size ≤ t.size := by
  induction t using Tm.ind with
  | h t ih =>
    intro k hk
    rcases al_wg hk with rfl | ⟨c, hc, hk⟩
    · exact Nat.le_refl _
    · have h1 := ih c hc hk
      have h2 := sum_le (f := Tm.size) hc
      rw [Tm.size_eq t]
      omega
theorem kids_size (t : Tm) : t.kids.length ≤ t.size := by
  have key : ∀ l : List Tm, l.length ≤ (l.map Tm.size).sum := fun l => by
    induction l with
    | nil => exact Nat.le_refl _
    | cons a l ih =>
      have := a.size_pos
      show l.length + 1 ≤ a.size + (l.map Tm.size).sum
      omega
  have := key t.kids
  rw [Tm.size_eq]
  omega
theorem tk_same {H H1 H2 : Hp} (t : GenF.TK H H1) (s : Same H1 H2) : GenF.TK H H2 := fun b xs r => (t b xs r).elim (fun h => .inl (s _ _ h)) fun ⟨o, h⟩ => .inr ⟨o, s _ _ h⟩
theorem tk_upd {H H1 : Hp} {D : Addr} {vs us : List V} (t : GenF.TK H H1) (hD : H1 D = some (.lst vs)) : GenF.TK H (upd H1 D (.lst us)) := fun b xs r => by
  have ne : b ≠ D := fun e => by
    subst e
    rcases t b xs r with h | ⟨o, h⟩ <;> rw [hD] at h <;> cases h
  rcases t b xs r with h | ⟨o, h⟩
  · exact .inl (by rw [upd_ne ne]; exact h)
  · exact .inr ⟨o, by rw [upd_ne ne]; exact h⟩
theorem bnd_fill {T : Tab} {s : Str} {u : Tm} (e : lookA T s = some u) : (Tm.var s).fill T = u := by
  rw [Tm.fill_eq]
  show (lookA T s).getD (.var s) = u
  rw [e]; rfl
section
variable {P : Program} {w : World} {K : PySem.W.Frag} {mg : Str → Option Value} {base : Heap} {aF CL CP : Addr}
abbrev s_is_bound : Stmt := topS 12
theorem sc_is_bound : FnScope ["part", "bindings"] ["part", "bindings"] (defScope s_is_bound) := ⟨rfl, rfl, rfl, by decide +kernel, rfl, by decide +kernel, by decide +kernel⟩
-- slots: 0:part 1:bindings
abbrev s_check_room : Stmt := topS 13
theorem sc_check_room : FnScope ["term", "bindings", "most", "many", "waiting", "part", "depth", "is_filled", "child"] ["term", "bindings", "most"] (defScope s_check_room) := ⟨rfl, rfl, rfl, by decide +kernel, rfl, by decide +kernel, by decide +kernel⟩
-- slots: 0:term 1:bindings 2:most 3:many 4:waiting 5:part 6:depth(cell) 7:is_filled(cell) 8:child(comp)
abbrev s_fill : Stmt := topS 11
theorem sc_fill : FnScope ["term", "bindings", "most", "heads", "part"] ["term", "bindings", "most"] (defScope s_fill) := ⟨rfl, rfl, rfl, by decide +kernel, rfl, by decide +kernel, by decide +kernel⟩
-- slots: 0:term 1:bindings 2:most 3:heads 4:part
theorem ok_bound {f : Addr} {fd : FuncData} (F : Fun K "_is_bound" "_is_bound" s_is_bound f fd) (Tx : Txt K mg) : FnOk P w K mg base CX0 1 f fd ["part", "bindings"] (spBound K) := by
  refine F.ok sc_is_bound (fun vs H Q E h => ?_) (fun cdv A outer s H vs Q E hr h => ?_)
  · obtain ⟨_, _, _, _, _, rfl, _⟩ := h
    rfl
  obtain ⟨x, D, kvs, t, T, rfl, hx, hD, bd, q⟩ := h
  refine ⟨_, (pss_one (ps_ret (pe_and (pe_cmpR op_eq (pe_ix ix_tup (pv 0) pe_int (fun _ _ => rfl)) pe_str (nomark _)) (pe_one (pe_cmp (pc_din (hu_of hr) (pe_ix ix_tup (pv 0) pe_int (fun _ _ => rfl)) (pv 1))))))), ?_⟩
  obtain ⟨a, r, rfl, hs⟩ := Tm.dt_parts hx
  refine vTx rfl hs (atI_nat (j := 0) rfl) ⟨rfl, _, rfl, ?_⟩
  rcases t.var_or with ⟨w, rfl⟩ | hv
  · unfold Tm.d at hx
    obtain ⟨b2, u2, w2, e2, hs2, k1, k2⟩ := Dt.t2 hx
    cases e2
    obtain rfl := k2.s
    refine sT rfl (vTx rfl hs2 (atI_nat (j := 1) rfl) ⟨_, rfl, D, _, rfl, DGet.k (k := .inr w) hD, ?_⟩)
    have e : (valV kvs (.inr w)).isSome = bnd T (.var w) := by
      show _ = (lookA T w).isSome
      cases q : lookA T w with
      | none => rw [(bd w).2 q]; rfl
      | some u =>
        obtain ⟨v, e, _⟩ := (bd w).1 u q
        rw [e]; rfl
    rw [e]
    exact q
  · have e : bnd T t = false := by
      cases t with
      | var s => exact absurd rfl (hv s)
      | _ => rfl
    rw [e] at q
    exact sF (Tm.hd_meta hv) q
theorem ok_room {f : Addr} {fd : FuncData} (F : Fun K "_check_room" "_check_room" s_check_room f fd) (T : TxtL K mg CL CP) (C_children : C8.Cal P w K mg base 1 "children" (spKidsV K) []) (C_is_bound : C8.Cal P w K mg base 1 "_is_bound" (spBound K) []) : FnOk P w K mg base (L2.CX P w) 2 f fd ["term", "bindings", "most"] (spRoom K CL) := by
  refine F.okX sc_check_room (fun vs H Q E h => ?_) (fun cdv A outer s H vs Q E hr h => ?_)
  · obtain ⟨_, _, _, _, _, _, rfl, _⟩ := h
    rfl
  obtain ⟨x, D, kvs, t, U, mo, rfl, hx, hD, bd, hsz, hmo, q, qE⟩ := h
  refine ⟨_, (pss_cons (ps_set (i := 3) sc_check_room.nd rfl (Or.inl rfl) pe_int)
    (pss_cons (ps_set (i := 4) sc_check_room.nd rfl (Or.inl rfl) (pe_lst (pa_cons (pe_tup (pa_cons (pv 0) (pa_cons pe_int (pa_cons pe_bl pa_nil)))) pa_nil)))
    (pss_one (ps_while (passes_of rfl) (pt_truth (pv 4) (by intro _; rfl)) (pss_cons (ps_asg (pe_bm0 PySem.F.plainAttrs_list PySem.F.slot_list_pop PySem.F.type_list_pop mt_pop (pv 4)) (pg_tup (by rfl) (pgs_cons (pg_name (i := 5) sc_check_room.nd rfl (Or.inl rfl)) (pgs_cons (pg_name (i := 6) sc_check_room.nd rfl (Or.inr rfl)) (pgs_cons (pg_name (i := 7) sc_check_room.nd rfl (Or.inr rfl)) pgs_nil)))))
    (C8.pss_cut (ps_if (PW.pt (pw_and (pt_not (pt_val (pv 7))) (pw_and1 (pt_val (C8.pe_c C_is_bound hr (by decide) rfl (pa_cons (pv 5) (pa_cons (pv 1) pa_nil))))))) (pss_one (ps_asg (pe_tup (pa_cons (pe_dget (hu_of hr) (pv 1) (pe_ix ix_tup (pv 5) pe_int (fun _ _ => rfl)) (fun _ _ => rfl)) (pa_cons pe_bl pa_nil))) (pg_tup (by rfl) (pgs_cons (pg_name (i := 5) sc_check_room.nd rfl (Or.inl rfl)) (pgs_cons (pg_name (i := 7) sc_check_room.nd rfl (Or.inr rfl)) pgs_nil))))) pss_nil)
    (pss_cons (ps_aug (i := 3) sc_check_room.nd rfl (Or.inl rfl) pe_int ip_add)
    (pss_cons (ps_if (PW.pt (pw_or (pt_cmpR op_gt (pv 3) (pv 2) (nomark _)) (pw_or1 (pt_cmpR op_gt (pv 6) (pe_glI (n := 200) rfl T.g_MH) (nomark _))))) (pss_one (ps_raise rfl (takes_of rfl rfl rfl rfl) (pmk_own PySem.F.excBase_ValueError T.xL T.gL T.kL (raises_own T.bL T.tL) rfl))) pss_nil)
    (pss_one (ps_expr (pe_bm PySem.F.plainAttrs_list PySem.F.slot_list_extend PySem.F.type_list_extend mt_extend (pv 4) (pa_cons (pe_lc (own := [("child", 8)]) (g := (gName 8)) (tt := tYes) (by rfl) sc_check_room.nd (pi_tup (C8.pe_c C_children hr (by decide) rfl (pa_cons (pv 5) pa_nil))) (blkOk_by (N := ["term", "bindings", "most", "many", "waiting", "part", "depth", "is_filled", "child"]) (sc := defScope s_check_room) (by decide +kernel)) (fun _ _ _ _ _ => (pg_name (i := 8) sc_check_room.nd rfl (Or.inl rfl))) (fun _ _ _ _ _ => pts_nil) (fun _ _ _ _ _ => (pe_tup (pa_cons (pv 8) (pa_cons (pe_op op_add (pv 6) pe_int) (pa_cons (pv 7) pa_nil)))))) pa_nil)))))))))))), ?_⟩
  refine ⟨_, rfl, small (by show 3 ≤ _; decide), fun p1 hp1 => ⟨small (by show 1 ≤ _; decide), fun Wa hW => ?_⟩⟩
  have s1 := same_new (o := .tup [x, .int 0, .bl false]) hp1
  have s2 := s1.trans (same_new (o := .lst [.ref p1]) hW)
  have hWH := Same.free s1 hW
  have nDW : D ≠ Wa := ne_of_none (s1 _ _ hD) hW
  refine ⟨RInv K t H x D Wa U mo, ⟨_, [(t, 0, false)], 0, [.ref p1], none, none, none, none, rfl, rfl, s2, upd_same, ?_, ?_, ?_⟩, ?_⟩
  · refine .cons ?_ .nil
    exact (Dt.tup (SqT.of upd_same) (.cons (hx.same s1) (.cons (.int 0) (.cons (.bl false) .nil)))).same (same_new hW)
  · show 0 + ((t.fill U).size + 0) = _
    omega
  · refine ⟨Nat.zero_le _, fun e he => ?_, fun h => ?_⟩
    · rw [List.mem_singleton.mp he]
      show 0 + (t.fill U).ht ≤ _
      omega
    · have h1 : 0 + (t.fill U).ht ≤ 201 := h (t, 0, false) (List.mem_singleton.mpr rfl)
      omega
  rintro m σ H1 ⟨l, many, xs, o1, o2, o3, o4, rfl, rfl, s, hW1, dx, hm, hmm, hd, hup⟩
  refine ⟨_, rfl, !xs.isEmpty, .inl ⟨xs, SqL.of hW1, rfl⟩, ?_⟩
  rcases List.eq_nil_or_concat l with rfl | ⟨r, e, rfl⟩
  · cases dx
    exact iteF (q _ s (by have : many + 0 = (t.fill U).size := hm; omega) (hup fun e he => nomatch he))
  · obtain ⟨t1, d1, b1⟩ := e
    rw [List.concat_eq_append] at dx hm hd hup ⊢
    rw [List.map_append] at dx
    obtain ⟨ys, zs, rfl, dy, d2⟩ := DtAll.splitR dx
    cases d2 with
    | cons dz dn =>
    cases dn
    unfold entD at dz
    obtain ⟨a1, u, v1, v2, rfl, hs1, ju, jv, jw⟩ := Dt.t3 dz
    obtain rfl := jv.i
    cases jw
    rw [show (!(ys ++ [V.ref a1]).isEmpty) = true by simp]
    rw [wgS_app] at hm ⊢
    have w1 : wgS U [(t1, d1, b1)] = (wg U (t1, d1, b1)).size := Nat.add_zero _
    rw [w1] at hm ⊢
    have hd1 := hd (t1, d1, b1) (by simp)
    have hr1 : ∀ e ∈ r, e.2.1 + (wg U e).ht ≤ (t.fill U).ht := fun e he => hd e (List.mem_append_left _ he)
    refine iteT ⟨fun σ' H' => ∃ m', m' < wgS U r + (wg U (t1, d1, b1)).size ∧ RInv K t H x D Wa U mo m' σ' H', fun _ _ h => h, ?_⟩
    refine ⟨_, rfl, .inl ⟨rfl, _, SqL.of hW1⟩, Wa, _, .ref a1, rfl, rfl, hW1, by rw [List.length_append]; simp, ?_⟩
    rw [List.dropLast_concat]
    have s3 : Same H (upd H1 Wa (.lst ys)) := Same.upd s hWH
    have hs3 : SqT K (upd H1 Wa (.lst ys)) a1 _ := seqT_upd hs1 hW1
    have ju3 : Dt K (upd H1 Wa (.lst ys)) u t1.d := ju.updL hW1
    have d3 : DtAll K (upd H1 Wa (.lst ys)) ys (r.map entD) := dy.upd hW1
    have bd3 : BindE K (upd H1 Wa (.lst ys)) kvs U := bd.mono fun _ _ z => z.same s3
    have hD3 := s3 _ _ hD
    refine ⟨a1, _, rfl, hs3, rfl, u, _, rfl, _, _, rfl, _, _, rfl, rfl, ?_⟩
    refine ⟨fun σ' H' => ∃ (u' : V) (e : Tm × Nat × Bool), σ' = [some x, some (.ref D), some (.int (mo : Nat)), some (.int (many : Nat)), some (.ref Wa), some u', some (.int (d1 : Nat)), some (.bl e.2.2), o4] ∧ e.2.1 = d1 ∧ stdE U e ∧ wg U e = wg U (t1, d1, b1) ∧ Same (upd H1 Wa (.lst ys)) H' ∧ Dt K H' u' e.1.d, ?_, ?_⟩
    · refine ⟨_, rfl, b1, rfl, ?_⟩
      cases b1 with
      | true => exact iteF (iteF ⟨u, (t1, d1, true), rfl, rfl, .inl rfl, rfl, Same.refl _, ju3⟩)
      | false =>
        refine iteT ⟨_, rfl, _, rfl, u, D, kvs, t1, U, rfl, ju3, hD3, bd3, _, rfl, ?_⟩
        cases hb : bnd U t1 with
        | false => exact iteF ⟨u, (t1, d1, false), rfl, rfl, .inr hb, rfl, Same.refl _, ju3⟩
        | true =>
          cases t1 with
          | var w =>
            unfold Tm.d at ju3
            obtain ⟨b2, u2, w2, e2, hs2, k1, k2⟩ := Dt.t2 ju3
            cases e2
            obtain rfl := k2.s
            have hb : (lookA U w).isSome = true := hb
            cases e : lookA U w with
            | none => rw [e] at hb; cases hb
            | some u =>
            obtain ⟨v, ev, dv⟩ := (bd3 w).1 u e
            refine iteT ⟨_, rfl, vTx rfl hs2 (atI_nat (j := 1) rfl) ⟨D, v, rfl, by rw [← ev]; exact DGet.k (k := .inr w) hD3, small (by show 2 ≤ _; decide), fun p2 hp2 => ?_⟩⟩
            refine ⟨p2, _, rfl, SqT.of upd_same, rfl, v, _, rfl, _, _, rfl, rfl, v, (u, d1, true), rfl, rfl, .inl rfl, ?_, same_new hp2, dv.same (same_new hp2)⟩
            show u = (Tm.var w).fill U
            rw [Tm.fill_eq]
            show u = (lookA U w).getD (.var w)
            rw [e]; rfl
          | _ => cases hb
    · rintro σ' H4 ⟨u', e, rfl, ed, std, ewg, s4, du⟩
      have hW4 := s4 _ _ (upd_same (H := H1) (a := Wa) (o := .lst ys))
      have e1 := wg_size std
      have hp := (wg U (t1, d1, b1)).ht_pos
      have el : (kidsE e).length = e.1.kids.length := by unfold kidsE; rw [List.length_map]
      have kl := wgS_len U (kidsE e)
      have hdd : d1 + (wg U (t1, d1, b1)).ht ≤ (t.fill U).ht := hd1
      rw [ewg] at e1
      refine ⟨_, rfl, _, _, rfl, rfl, ?_⟩
      have wr := wgS_len U r
      have sE := s3.trans s4
      refine ⟨_, rfl, _, rfl, _, _, rfl, rfl, _, rfl, ?_⟩
      by_cases hA : mo < many + 1
      · rw [decide_eq_true (show ((mo : Nat) : Int) < ((many : Nat) : Int) + 1 by omega)]
        exact iteT (iteT (qE _ sE (.inl (by omega))))
      rw [decide_eq_false (show ¬ (((mo : Nat) : Int) < ((many : Nat) : Int) + 1) by omega)]
      refine iteF ⟨_, rfl, _, _, rfl, rfl, _, rfl, ?_⟩
      by_cases hB : 200 < d1
      · rw [decide_eq_true (show (200 : Int) < ((d1 : Nat) : Int) by omega)]
        exact iteT (qE _ sE (.inr (by omega)))
      rw [decide_eq_false (show ¬ ((200 : Int) < ((d1 : Nat) : Int)) by omega)]
      refine iteF ?_
      refine ⟨_, rfl, .inl ⟨rfl, _, SqL.of hW4⟩, ?_⟩
      refine ⟨_, rfl, u', e.1, H4, rfl, fun _ _ z => z, du, by omega, fun H5 q1 ws1 s5 hq1 dq1 => ?_⟩
      have lw : ws1.length = e.1.kids.length := by rw [dq1.lenD, List.length_map]
      refine ⟨q1, rfl, ⟨_, hq1⟩, fun D2 hD2 => lcS (K := K) (walk_tup (xs := ws1)) hD2 (by omega) (fun ds => ds = ((kidsE e).take ds.length).map entD) rfl (fun H' s => Same.seqT s hq1) ?_ ?_⟩
      · rintro i z H6 H6 ds R hi s6 ⟨rfl, gx⟩ jd len r6
        obtain ⟨d, gd, dz⟩ := DtAll.getX (dq1.same (s5.trans s6)) gx
        rw [List.getElem?_map] at gd
        cases e0 : e.1.kids[i]? with
        | none => rw [e0] at gd; cases gd
        | some k =>
        rw [e0] at gd
        cases gd
        refine ⟨rfl, _, rfl, _, rfl, _, _, rfl, rfl, _, rfl, small (by show 3 ≤ _; decide), fun p2 hp2 => ?_⟩
        refine r6 (entD (k, d1 + 1, e.2.2)) _ _ (same_new hp2) (Dt.tup (SqT.of upd_same) (.cons (dz.same (same_new hp2)) (.cons (.int _) (.cons (.bl _) .nil)))) ?_
        have gk : (kidsE e)[i]? = some (k, d1 + 1, e.2.2) := by
          unfold kidsE
          rw [List.getElem?_map, e0, ed]; rfl
        rw [List.length_append, len, show i + [entD (k, d1 + 1, e.2.2)].length = i + 1 from rfl, List.take_add_one, gk, List.map_append]
        rw [len] at jd
        rw [← jd]; rfl
      · rintro H7 vs7 ds7 s7 hv7 da7 len7 jd
        rw [len7, lw, ← el, List.take_length] at jd
        subst jd
        have l7 := da7.lenD
        rw [List.length_map] at l7
        have s47 := (s4.trans s5).trans s7
        have hW7 := s47 _ _ (upd_same (H := H1) (a := Wa) (o := .lst ys))
        have ly : ys.length = r.length := by rw [dy.lenD, List.length_map]
        have lr := wgS_len U r
        refine ⟨Wa, D2, ys, vs7, rfl, rfl, hW7, hv7, small (by omega), ?_⟩
        have ea := wgS_app U r (kidsE e)
        refine ⟨_, by omega, r ++ kidsE e, many + 1, _, _, _, _, _, rfl, rfl, Same.upd (s3.trans s47) hWH, upd_same, ?_, by omega, by omega, fun k hk => ?_, fun hall => hup fun k hk => ?_⟩
        · rw [List.map_append]
          exact ((d3.same s47).append da7).upd hW7
        · rcases List.mem_append.mp hk with h | h
          · exact hr1 k h
          · have h1 := wg_ht std h
            have h2 := kidsE_dep h
            rw [ewg] at h1
            omega
        · rcases List.mem_append.mp hk with h | h
          · exact hall k (List.mem_append_left _ h)
          · rw [List.mem_singleton.mp h]
            show d1 + (wg U (t1, d1, b1)).ht ≤ 201
            rw [← ewg]
            have h3 := wg_ht2 (n := 200 - d1) std fun k hk => by
              have h4 := hall k (List.mem_append_right _ hk)
              have h5 := kidsE_dep hk
              omega
            omega
theorem ok_fill {f : Addr} {fd : FuncData} {kws : List (Str × V)} (F : FunD K "fill" "fill" (defArgs s_fill) (defBody s_fill) (defScope s_fill) [] kws f fd) (T : TxtL K mg CL CP) (C_children : C8.Cal P w K mg base 1 "children" (spKidsV K) []) (C_is_bound : C8.Cal P w K mg base 1 "_is_bound" (spBound K) []) (C_check_room : CalR P w K mg base 2 "_check_room" (spRoom K CL)) (C_parts_of : GenF.CalG P w K mg base 3 "parts_of" (spParts K)) (C_assembled : C8.Cal P w K mg base 2 "assembled" (spAsm K) []) : FnOk P w K mg base (L2.CX P w) 4 f fd ["term", "bindings", "most"] (spFill K CL) := by
  refine F.ok sc_fill (fun vs H Q E h => ?_) (fun cdv A outer s H vs Q E hr h => ?_)
  · obtain ⟨_, _, _, _, _, _, rfl, _⟩ := h
    rfl
  obtain ⟨x, D, kvs, t, U, mo, rfl, hx, hD, bd, hsz, hmo, hps, q, qE⟩ := h
  refine ⟨_, (pss_cons (ps_expr (pe_crS C_check_room (takes_of rfl rfl rfl rfl) hr (by decide) rfl (pa_cons (pv 0) (pa_cons (pv 1) (pa_cons (pv 2) pa_nil)))))
    (pss_cons (ps_set (i := 3) sc_fill.nd rfl (Or.inl rfl) (pe_lst pa_nil))
    (pss_cons (GenF.PS.nox <| GenF.ps_forG rfl (GenF.pig_c C_parts_of hr (by decide) rfl (pa_cons (pv 0) pa_nil)) (pg_name (i := 4) sc_fill.nd rfl (Or.inl rfl)) (pss_one (ps_if (pt_val (C8.pe_c C_is_bound hr (by decide) rfl (pa_cons (pv 4) (pa_cons (pv 1) pa_nil)))) (pss_one (ps_expr (pe_bm PySem.F.plainAttrs_list PySem.F.slot_list_append PySem.F.type_list_append mt_append (pv 3) (pa_cons (pe_tup (pa_cons (pe_dget (hu_of hr) (pv 1) (pe_ix ix_tup (pv 4) pe_int (fun _ _ => rfl)) (fun _ _ => rfl)) (pa_cons pe_int pa_nil))) pa_nil)))) (pss_one (ps_expr (pe_bm PySem.F.plainAttrs_list PySem.F.slot_list_append PySem.F.type_list_append mt_append (pv 3) (pa_cons (pe_tup (pa_cons (pv 4) (pa_cons (pe_callB call_len_seq (by rfl) T.z_len (by decide +kernel) (pa_cons (C8.pe_c C_children hr (by decide) rfl (pa_cons (pv 4) pa_nil)) pa_nil)) pa_nil))) pa_nil)))))))
    (pss_one (ps_ret (C8.pe_c C_assembled hr (by decide) rfl (pa_cons (pv 3) pa_nil))))))), ?_⟩
  refine ⟨_, rfl, _, rfl, _, rfl, x, D, kvs, t, U, mo, rfl, hx, hD, bd, hsz, hmo, fun H1 s1 hle hht => ?_, fun H1 s1 hh => qE H1 s1 hh⟩
  refine ⟨Nat.zero_le _, fun hl hhl => ?_⟩
  have s2 := s1.trans (same_new (o := .lst []) hhl)
  have hhl0 := Same.free s1 hhl
  have hx2 := hx.same s2
  refine ⟨_, rfl, _, _, ⟨x, t, rfl, hx2, hps, rfl, rfl⟩, fun G e1 e2 e3 => ?_⟩
  refine for_it (GenF.walk_genE e1 e2 e3) (fun i σ H' => ∃ (ws : List V) (o : Option V), σ = [some x, some (.ref D), some (.int (mo : Nat)), some (.ref hl), o] ∧ Same H H' ∧ GenF.TK (upd H1 hl (.lst [])) H' ∧ H' hl = some (.lst ws) ∧ DtAll K H' ws ((t.parts.take i).map fun k => HdD (headT U k))) ⟨[], none, rfl, s2, GenF.TK.refl _, upd_same, .nil⟩ (fun i σ H' hi h => ?_) ?_ ?_
  · obtain ⟨_, _, _, _, k, _⟩ := h
    exact k
  · rintro i z σ H3 H2 hi ⟨ws, o, rfl, s3, tk, hh, da⟩ ⟨rfl, k, gk, dk⟩
    have hkp : k ∈ t.parts := List.mem_of_getElem? gk
    have dk2 : Dt K H2 z k.d := Dt.mono tk.sq _ _ dk
    have hD2 := s3 _ _ hD
    have bd2 : BindE K H2 kvs U := bd.mono fun _ _ q => q.same s3
    have ilt := (List.getElem?_eq_some_iff.mp gk).1
    have lws : ws.length = i := by rw [da.lenD, List.length_map, List.length_take]; omega
    have e4 : t.parts.take (i + 1) = t.parts.take i ++ [k] := by rw [List.take_add_one, gk]; rfl
    have tsz : t.parts.length = t.size := Tm.parts_len t
    have step : ∀ (H4 : Hp) (p : Addr) (v : V) (n : Nat), Same H2 H4 → H4 p = none → Dt K H4 v (headT U k).1.d → n = (headT U k).2 → ∃ l xs y, V.ref hl = V.ref l ∧ [V.ref p] = [y] ∧ (upd H4 p (.tup [v, .int (n : Nat)])) l = some (.lst xs) ∧ xs.length < sizeLine ∧
        ∃ (ws : List V) (o : Option V), [some x, some (V.ref D), some (.int (mo : Nat)), some (.ref hl), some z] = [some x, some (.ref D), some (.int (mo : Nat)), some (.ref hl), o] ∧ Same H (upd (upd H4 p (.tup [v, .int (n : Nat)])) l (.lst (xs ++ [y]))) ∧ GenF.TK (upd H1 hl (.lst [])) (upd (upd H4 p (.tup [v, .int (n : Nat)])) l (.lst (xs ++ [y]))) ∧ (upd (upd H4 p (.tup [v, .int (n : Nat)])) l (.lst (xs ++ [y]))) hl = some (.lst ws) ∧ DtAll K (upd (upd H4 p (.tup [v, .int (n : Nat)])) l (.lst (xs ++ [y]))) ws ((t.parts.take (i + 1)).map fun k => HdD (headT U k)) := fun H4 p v n s4 hp dv en => by
      have s5 : Same H2 (upd H4 p (.tup [v, .int (n : Nat)])) := Same.trans s4 (same_new hp)
      have hh5 := s5 _ _ hh
      refine ⟨hl, ws, .ref p, rfl, rfl, hh5, smallL (by omega), ws ++ [.ref p], some z, rfl, Same.upd (s3.trans s5) hhl0, tk_upd (tk_same tk s5) hh5, upd_same, ?_⟩
      rw [e4, List.map_append]
      have d1 : Dt K (upd H4 p (.tup [v, .int (n : Nat)])) (.ref p) (HdD (headT U k)) := by
        unfold HdD
        rw [← en]
        exact Dt.mk2 hp dv (.int _)
      exact ((da.same s5).append (.cons d1 .nil)).upd hh5
    refine ⟨_, rfl, _, rfl, z, D, kvs, k, U, rfl, dk2, hD2, bd2, _, rfl, ?_⟩
    cases hb : bnd U k with
    | true =>
      cases k with
      | var w =>
        unfold Tm.d at dk2
        obtain ⟨b2, u2, w2, e2, hs2, k1, k2⟩ := Dt.t2 dk2
        cases e2
        obtain rfl := k2.s
        have hb' : (lookA U w).isSome = true := hb
        cases e : lookA U w with
        | none => rw [e] at hb'; cases hb'
        | some u =>
        obtain ⟨v, ev, dv⟩ := (bd2 w).1 u e
        have eh : headT U (.var w) = (u, 0) := by
          unfold headT
          rw [hb, if_pos rfl, bnd_fill e]
        refine iteT ⟨_, rfl, .inl ⟨rfl, _, SqL.of hh⟩, ?_⟩
        refine ⟨_, rfl, vTx rfl hs2 (atI_nat (j := 1) rfl) ⟨D, v, rfl, by rw [← ev]; exact DGet.k (k := .inr w) hD2, small (by show 2 ≤ _; decide), fun p hp => ?_⟩⟩
        exact step H2 p v 0 (Same.refl _) hp (by rw [eh]; exact dv) (by rw [eh])
      | _ => cases hb
    | false =>
      have eh : headT U k = (k, k.kids.length) := by
        unfold headT
        rw [hb]; rfl
      have ks := kids_size k
      have ps := parts_size hkp
      refine iteF ⟨_, rfl, .inl ⟨rfl, _, SqL.of hh⟩, ?_⟩
      refine ⟨_, rfl, _, rfl, z, k, H2, rfl, fun _ _ q => q, dk2, by omega, fun H4 q1 ws1 s4 hq1 dq1 => ⟨q1, ws1, rfl, .inr hq1, small (by show 2 ≤ _; decide), fun p hp => ?_⟩⟩
      exact step H4 p z ws1.length s4 hp (by rw [eh]; exact dk2.same s4) (by rw [eh, dq1.lenD, List.length_map])
  · rintro σ H2 ⟨ws, o, rfl, s3, tk, hh, da⟩
    have tsz : t.parts.length = t.size := Tm.parts_len t
    rw [← tsz, List.take_length] at da
    have pr := pre_fill (T := U) t [] [] .nil
    rw [List.append_nil] at pr
    refine ⟨_, rfl, hl, ws, t.parts.map (headT U), t.fill U, rfl, SqL.of hh, ?_, pr, by rw [List.length_map]; omega, fun H4 v s4 dv => q H4 v (s3.trans s4) hle hht dv⟩
    rw [List.map_map]
    exact da
end
end PK
namespace PK
open PySem L2
/-! the law's counting, chains -/
def spCt (K : PySem.W.Frag) (n : Nat) : Sp := fun vs H Q _ => ∃ (x : V) (t : Tm), vs = [x] ∧ Dt K H x t.d ∧ t.ht ≤ n ∧ t.size ≤ 1000000 ∧ ∀ H', Same H H' → Q (.int (t.size : Nat)) H'
def chainT (w : Str) : Nat → Tm → Tm
  | 0, t => t
  | n + 1, t => .map [(w, chainT w n t)]
def spCh (K : PySem.W.Frag) : Sp := fun vs H Q _ => ∃ (x : V) (t : Tm) (m : Nat) (w : Str), vs = [x, .int (m : Nat), .str w] ∧ Dt K H x t.d ∧ m ≤ 1000 ∧ ∀ (H' : Hp) (v : V), Same H H' → Dt K H' v (chainT w m t).d → Q v H'
/-- what a term's parts are as the law takes them: its kids, or one thing that is no term -/
def PartsV (K : PySem.W.Frag) (H : Hp) (ws : List V) (t : Tm) : Prop := DtAll K H ws (t.kids.map Tm.d) ∨ (t.kids = [] ∧ ∃ y, ws = [y] ∧ ((∃ n, y = .int n) ∨ ∃ z, y = .str z))
theorem sum_cast : ∀ l : List Tm, (l.map fun k => ((k.size : Nat) : Int)).sum = (((l.map Tm.size).sum : Nat) : Int)
  | [] => rfl
  | k :: l => by
    rw [List.map_cons, List.map_cons, List.sum_cons, List.sum_cons, sum_cast l, Int.natCast_add]
theorem Tm.dt_cut {K : PySem.W.Frag} {H : Hp} {v : V} {t : Tm} (hx : Dt K H v t.d) : ∃ (a : Addr) (r : List V), v = .ref a ∧ SqT K H a (.str t.hd :: r) ∧ (t.hd ≠ "node" → t.hd ≠ "map" → PartsV K H r t) := by
  cases t with
  | node c ts =>
    unfold Tm.d at hx
    obtain ⟨a, x, y, z, rfl, hs, h1, h2, h3⟩ := Dt.t3 hx
    obtain rfl := h1.s
    exact ⟨a, _, rfl, hs, fun h => absurd rfl h⟩
  | map es =>
    unfold Tm.d at hx
    obtain ⟨a, x, y, rfl, hs, h1, h2⟩ := Dt.t2 hx
    obtain rfl := h1.s
    exact ⟨a, _, rfl, hs, fun _ h => absurd rfl h⟩
  | form f ts =>
    unfold Tm.d at hx
    obtain ⟨a, xs, rfl, hs, da⟩ := Dt.tn hx
    cases da with
    | cons h1 dr =>
    obtain rfl := h1.s
    rw [Tm.ds_map] at dr
    exact ⟨a, _, rfl, hs, fun _ _ => .inl dr⟩
  | int m =>
    unfold Tm.d at hx
    obtain ⟨a, x, y, rfl, hs, h1, h2⟩ := Dt.t2 hx
    obtain rfl := h1.s
    exact ⟨a, _, rfl, hs, fun _ _ => .inr ⟨rfl, _, rfl, .inl ⟨_, h2.i⟩⟩⟩
  | name m =>
    unfold Tm.d at hx
    obtain ⟨a, x, y, rfl, hs, h1, h2⟩ := Dt.t2 hx
    obtain rfl := h1.s
    exact ⟨a, _, rfl, hs, fun _ _ => .inr ⟨rfl, _, rfl, .inr ⟨_, h2.s⟩⟩⟩
  | addr m =>
    unfold Tm.d at hx
    obtain ⟨a, x, y, rfl, hs, h1, h2⟩ := Dt.t2 hx
    obtain rfl := h1.s
    exact ⟨a, _, rfl, hs, fun _ _ => .inr ⟨rfl, _, rfl, .inl ⟨_, h2.i⟩⟩⟩
  | var m =>
    unfold Tm.d at hx
    obtain ⟨a, x, y, rfl, hs, h1, h2⟩ := Dt.t2 hx
    obtain rfl := h1.s
    exact ⟨a, _, rfl, hs, fun _ _ => .inr ⟨rfl, _, rfl, .inr ⟨_, h2.s⟩⟩⟩
theorem PartsV.same {K : PySem.W.Frag} {H H' : Hp} {ws : List V} {t : Tm} (h : PartsV K H ws t) (s : Same H H') : PartsV K H' ws t := h.elim (fun h => .inl (h.same s)) .inr
theorem chain_succ (w : Str) : ∀ (n : Nat) (t : Tm), chainT w (n + 1) t = .map [(w, chainT w n t)] := fun _ _ => rfl
section
variable {P : Program} {w : World} {K : PySem.W.Frag} {mg : Str → Option Value} {base : Heap} {aF CL CP : Addr}
abbrev s_law_count : Stmt := topS 27
theorem sc_law_count : FnScope ["term", "parts", "entry", "part"] ["term"] (defScope s_law_count) := ⟨rfl, rfl, rfl, by decide +kernel, rfl, by decide +kernel, by decide +kernel⟩
-- slots: 0:term 1:parts 2:entry(comp) 3:part(comp)
abbrev s_law_chain : Stmt := topS 28
theorem sc_law_chain : FnScope ["term", "many", "word", "made", "k"] ["term", "many", "word"] (defScope s_law_chain) := ⟨rfl, rfl, rfl, by decide +kernel, rfl, by decide +kernel, by decide +kernel⟩
-- slots: 0:term 1:many 2:word 3:made 4:k
theorem ok_chain {f : Addr} {fd : FuncData} (F : Fun K "_law_chain" "_law_chain" s_law_chain f fd) (T : Txt K mg) : FnOk P w K mg base CX0 1 f fd ["term", "many", "word"] (spCh K) := by
  refine F.ok sc_law_chain (fun vs H Q E h => ?_) (fun cdv A outer s H vs Q E hr h => ?_)
  · obtain ⟨_, _, _, _, rfl, _⟩ := h
    rfl
  obtain ⟨x, t, m, wd, rfl, hx, hm, q⟩ := h
  refine ⟨_, (pss_cons (ps_set (i := 3) sc_law_chain.nd rfl (Or.inl rfl) (pv 0))
    (pss_cons (ps_for PassesOwn.never rfl (pi_range1 (by rfl) T.z_range (pa_cons (pv 1) pa_nil)) (pg_name (i := 4) sc_law_chain.nd rfl (Or.inl rfl)) (pss_one (ps_set (i := 3) sc_law_chain.nd rfl (Or.inl rfl) (pe_tup (pa_cons pe_str (pa_cons (pe_tup (pa_cons (pe_tup (pa_cons (pv 2) (pa_cons (pv 3) pa_nil))) pa_nil)) pa_nil))))))
    (pss_one (ps_ret (pv 3))))), ?_⟩
  refine ⟨_, rfl, _, rfl, m, rfl, by omega, by omega, for_range (lo := 0) (n := ((m : Nat) : Int).toNat) (fun i σ H' => ∃ (v : V) (o : Option V), σ = [some x, some (.int (m : Nat)), some (.str wd), some v, o] ∧ Same H H' ∧ Dt K H' v (chainT wd i t).d) ⟨x, none, rfl, Same.refl H, hx⟩ ?_ ?_⟩
  · rintro i σ H' hi ⟨v, o, rfl, s1, dv⟩
    refine ⟨_, rfl, _, rfl, small (by show 2 ≤ _; decide), fun p1 hp1 => ⟨small (by show 1 ≤ _; decide), fun p2 hp2 => ⟨small (by show 2 ≤ _; decide), fun p3 hp3 => ?_⟩⟩⟩
    refine ⟨.ref p3, _, rfl, ((s1.trans (same_new hp1)).trans (same_new hp2)).trans (same_new hp3), ?_⟩
    rw [chain_succ]
    unfold Tm.d
    rw [Tm.es_map]
    have d1 : Dt K _ (.ref p1) (Tm.ent (wd, chainT wd i t)) := Dt.mk2 hp1 (.str wd) dv
    exact Dt.mk2 hp3 (.str "map") (Dt.mk1 hp2 d1)
  · rintro σ H' ⟨v, o, rfl, s1, dv⟩
    rw [show ((m : Nat) : Int).toNat = m by omega] at dv
    exact ⟨_, rfl, q H' v s1 dv⟩
theorem ok_count {n : Nat} {f : Addr} {fd : FuncData} (F : Fun K "_law_count" "_law_count" s_law_count f fd) (T : TxtL K mg CL CP) (C_law_count : C8.Cal P w K mg base n "_law_count" (spCt K n) []) : FnOk P w K mg base CX0 (n + 1) f fd ["term"] (spCt K (n + 1)) := by
  refine F.ok sc_law_count (fun vs H Q E h => ?_) (fun cdv A outer s H vs Q E hr h => ?_)
  · obtain ⟨_, _, rfl, _⟩ := h
    rfl
  obtain ⟨x, t, rfl, hx, hht, hs, q⟩ := h
  refine ⟨_, (pss_cons (ps_set (i := 1) sc_law_count.nd rfl (Or.inl rfl) (pe_slice sl_tup (pv 0) (po_some pe_int) po_none))
    (C8.pss_cut (ps_if (pt_cmpR op_eq (pe_ix ix_tup (pv 0) pe_int (fun _ _ => rfl)) pe_str (nomark _)) (pss_one (ps_set (i := 1) sc_law_count.nd rfl (Or.inl rfl) (pe_ix ix_tup (pv 0) pe_int (fun _ _ => rfl)))) pss_nil)
    (C8.pss_cut (ps_if (pt_cmpR op_eq (pe_ix ix_tup (pv 0) pe_int (fun _ _ => rfl)) pe_str (nomark _)) (pss_one (ps_set (i := 1) sc_law_count.nd rfl (Or.inl rfl) (pe_callTy call_tuple_of (by rfl) T.z_tuple (by decide +kernel) (pa_cons (pe_lc (own := [("entry", 2)]) (g := (gName 2)) (tt := tYes) (by rfl) sc_law_count.nd (pi_tup (pe_ix ix_tup (pv 0) pe_int (fun _ _ => rfl))) (blkOk_by (N := ["term", "parts", "entry", "part"]) (sc := defScope s_law_count) (by decide +kernel)) (fun _ _ _ _ _ => (pg_name (i := 2) sc_law_count.nd rfl (Or.inl rfl))) (fun _ _ _ _ _ => pts_nil) (fun _ _ _ _ _ => (pe_ix (r := rIxT K) ix_tup (pv 2) pe_int (fun _ _ => rfl)))) pa_nil)))) pss_nil)
    (pss_one (ps_ret (pe_op op_add pe_int (pe_callB (cr_sum (by rfl)) (by rfl) T.z_sum (by decide +kernel) (pa_cons (pe_lc (own := [("part", 3)]) (g := (gName 3)) (by rfl) sc_law_count.nd (pi_tup (pv 1)) (blkOk_by (N := ["term", "parts", "entry", "part"]) (sc := defScope s_law_count) (by decide +kernel)) (fun _ _ _ _ _ => (pg_name (i := 3) sc_law_count.nd rfl (Or.inl rfl))) (fun _ _ _ _ _ => pts_one (pt_val (pe_callB (id := "isinstance") (r := rIsi K) call_isi (by rfl) T.z_isinstance (by decide +kernel) (pa_cons (pv 3) (pa_cons (pe_bltn (v := .ty "tuple") (by rfl) T.z_tuple (by decide +kernel) rfl) pa_nil))))) (fun _ _ _ _ _ => (C8.pe_c C_law_count hr (by omega) rfl (pa_cons (pv 3) pa_nil)))) pa_nil)))))))), ?_⟩
  obtain ⟨a, r, rfl, hs0, hpv0⟩ := Tm.dt_cut hx
  refine ⟨_, rfl, _, rfl, a, _, rfl, hs0, fun z => ?_, fun p hp => ?_⟩
  · have e := z.1
    revert e
    show (HT.sIx (r.length + 1) 0 (some 1) = 0) → False
    unfold HT.sIx
    intro e
    simp at e
  have ec : cutV (V.str t.hd :: r) (some 1) none = r := by
    unfold cutV HT.sIx
    simp
  rw [ec]
  have s1 : Same H (upd H p (.tup r)) := same_new hp
  have hs1 := Same.seqT s1 hs0
  refine ⟨fun σ' H' => ∃ (p : Addr) (ws : List V), σ' = [some (.ref a), some (.ref p), none, none] ∧ Same H H' ∧ SqT K H' p ws ∧ (PartsV K H' ws t ∨ t.hd = "map"), ?_, ?_⟩
  · refine vTx rfl hs1 (atI_nat (j := 0) rfl) ⟨rfl, _, rfl, ?_⟩
    by_cases hh : t.hd = "node"
    · obtain ⟨c, ts, rfl⟩ := Tm.hd_node.mp hh
      unfold Tm.d at hx
      obtain ⟨a2, x2, y2, z2, e2, hs2, h1, h2, h3⟩ := Dt.t3 hx
      cases e2
      obtain ⟨b, ys, rfl, hb, hys⟩ := Dt.tn h3
      rw [Tm.ds_map] at hys
      refine sT hh (vTx rfl (Same.seqT s1 hs2) (atI_nat (j := 2) rfl) ⟨b, ys, rfl, s1, Same.seqT s1 hb, .inl (.inl (hys.same s1))⟩)
    · refine sF hh ⟨p, r, rfl, s1, SqT.of upd_same, ?_⟩
      by_cases h2 : t.hd = "map"
      · exact .inr h2
      · exact .inl ((hpv0 hh h2).same s1)
  rintro σ' H1 ⟨p1, ws, rfl, s2, hp1, hpv⟩
  have hs2 := Same.seqT s2 hs0
  refine ⟨fun σ' H' => ∃ (p : Addr) (ws : List V), σ' = [some (.ref a), some (.ref p), none, none] ∧ Same H H' ∧ SqT K H' p ws ∧ PartsV K H' ws t, ?_, ?_⟩
  · refine vTx rfl hs2 (atI_nat (j := 0) rfl) ⟨rfl, _, rfl, ?_⟩
    by_cases hh : t.hd = "map"
    · have : ∃ es, t = .map es := by
        cases t with
        | map es => exact ⟨es, rfl⟩
        | form f ts => exact absurd hh f.ne_map
        | int _ => exact absurd hh (show ("int" : Str) ≠ "map" by decide +kernel)
        | name _ => exact absurd hh (show ("name" : Str) ≠ "map" by decide +kernel)
        | addr _ => exact absurd hh (show ("addr" : Str) ≠ "map" by decide +kernel)
        | var _ => exact absurd hh (show ("meta" : Str) ≠ "map" by decide +kernel)
        | node _ _ => exact absurd hh (show ("node" : Str) ≠ "map" by decide +kernel)
      obtain ⟨es, rfl⟩ := this
      unfold Tm.d at hx
      obtain ⟨a2, x2, y2, e2, hs3, h1, h2⟩ := Dt.t2 hx
      cases e2
      obtain ⟨b, ys, rfl, hb, hys⟩ := Dt.tn h2
      rw [Tm.es_map] at hys
      have ly : ys.length = es.length := by rw [hys.lenD, List.length_map]
      have lk := kids_size (.map es)
      rw [show (Tm.map es).kids = es.map Prod.snd from rfl, List.length_map] at lk
      have hb1 := Same.seqT s2 hb
      refine sT hh (vTx rfl (Same.seqT s2 hs3) (atI_nat (j := 1) rfl) ⟨b, rfl, ⟨_, hb1⟩, fun D hD => lcS (K := K) (walk_tup (xs := ys)) hD (by omega) (fun ds => ds = (es.take ds.length).map fun e => e.2.d) rfl (fun H' s => Same.seqT s hb1) ?_ ?_⟩)
      · rintro i x H3 H3 ds R hi s3 ⟨rfl, gx⟩ jd len r3
        obtain ⟨e, ge, dx⟩ := DtAll.getX (hys.same (s2.trans s3)) gx
        rw [List.getElem?_map] at ge
        cases e0 : es[i]? with
        | none => rw [e0] at ge; cases ge
        | some en =>
          rw [e0] at ge
          cases ge
          obtain ⟨a1, x1, y1, rfl, hs4, k1, k2⟩ := Dt.t2 dx
          refine ⟨rfl, vTx rfl hs4 (atI_nat (j := 1) rfl) (r3 en.2.d y1 _ (Same.refl _) k2 ?_)⟩
          rw [List.length_append, len, show i + [en.2.d].length = i + 1 from rfl, List.take_add_one, e0, List.map_append]
          rw [len] at jd
          rw [← jd]; rfl
      · rintro H4 ws4 ds4 s4 hw4 da4 len4 jd
        rw [len4, ly, List.take_length] at jd
        refine ⟨D, _, rfl, .inl ⟨SqL.of hw4, fun p5 hp5 => ⟨p5, ws4, rfl, ((s2.trans s4).trans (same_new hp5)), SqT.of upd_same, .inl ?_⟩⟩⟩
        rw [show (Tm.map es).kids.map Tm.d = es.map fun e => e.2.d from by unfold Tm.kids; rw [List.map_map]; rfl]
        rw [jd] at da4
        exact da4.same (same_new hp5)
    · refine sF hh ⟨p1, ws, rfl, s2, hp1, ?_⟩
      exact hpv.resolve_right hh
  rintro σ' H2 ⟨p2, ws2, rfl, s3, hp2, hpv⟩
  refine ⟨_, rfl, p2, rfl, ⟨_, hp2⟩, fun D hD => ?_⟩
  rcases hpv with da | ⟨hk, y, rfl, hy⟩
  · have lw : ws2.length = t.kids.length := by rw [da.lenD, List.length_map]
    have ks := kids_size t
    refine lc_it (walk_tup (K := K) (xs := ws2)) (fun i H' => ∃ vs : List Int, Same H2 H' ∧ H' D = some (.lst (vs.map V.int)) ∧ vs = (t.kids.take i).map fun k => ((k.size : Nat) : Int)) ⟨[], same_new hD, upd_same, rfl⟩ (fun i H' _ h => ?_) ?_ ?_
    · obtain ⟨_, s, _⟩ := h
      exact Same.seqT s hp2
    · rintro i x H3 H3 hi ⟨vs, s4, hv4, e4⟩ ⟨rfl, gx⟩
      obtain ⟨d, gd, dx⟩ := DtAll.getX (da.same s4) gx
      rw [List.getElem?_map] at gd
      cases e0 : t.kids[i]? with
      | none => rw [e0] at gd; cases gd
      | some k =>
      rw [e0] at gd
      cases gd
      have hk : k ∈ t.kids := List.mem_of_getElem? e0
      have hk1 := Tm.ht_kid hk
      obtain ⟨b, r5, rfl, hb⟩ := Tm.dt_parts dx
      have hsz := sum_le (f := Tm.size) hk
      have ts := Tm.size_eq t
      have lv : vs.length ≤ i := by rw [e4, List.length_map, List.length_take]; omega
      refine ⟨rfl, vIsi rfl (ty_tup hb) (b := true) (by decide +kernel) ?_⟩
      refine ⟨_, rfl, iteT ⟨_, rfl, .ref b, k, rfl, dx, by omega, by omega, fun H5 s5 => ?_⟩⟩
      have hv5 := s5 _ _ hv4
      refine ⟨_, hv5, smallL (by rw [List.length_map]; omega), vs ++ [((k.size : Nat) : Int)], Same.upd (s4.trans s5) hD, by rw [upd_same, List.map_append]; rfl, ?_⟩
      rw [List.take_add_one, e0, List.map_append, e4]; rfl
    · rintro H3 ⟨vs, s4, hv4, e4⟩
      refine ⟨D, vs, rfl, SqL.of hv4, _, _, rfl, rfl, ?_⟩
      have e : (1 : Int) + vs.sum = ((t.size : Nat) : Int) := by
        rw [lw, List.take_length] at e4
        rw [e4, sum_cast, Tm.size_eq t]
        omega
      show Q (V.int (1 + vs.sum)) H3
      rw [e]
      exact q H3 (s3.trans s4)
  · refine lc_it (walk_tup (K := K) (xs := [y])) (fun i H' => Same H2 H' ∧ H' D = some (.lst [])) ⟨same_new hD, upd_same⟩ (fun i H' _ h => Same.seqT h.1 hp2) ?_ ?_
    · rintro i x H3 H3 hi ⟨s4, hv4⟩ ⟨rfl, gx⟩
      obtain rfl : y = x := by
        have hi : i < 1 := hi
        have : i = 0 := by omega
        subst this
        exact Option.some.inj gx
      refine ⟨rfl, ?_⟩
      rcases hy with ⟨m, rfl⟩ | ⟨z, rfl⟩
      · exact vIsi rfl (.base (.int m)) (b := false) (by decide +kernel) ⟨_, rfl, iteF ⟨s4, hv4⟩⟩
      · exact vIsi rfl (.base (.str z)) (b := false) (by decide +kernel) ⟨_, rfl, iteF ⟨s4, hv4⟩⟩
    · rintro H3 ⟨s4, hv4⟩
      refine ⟨D, [], rfl, SqL.of hv4, _, _, rfl, rfl, ?_⟩
      have e : t.size = 1 := by rw [Tm.size_eq, hk]; rfl
      rw [e] at q
      exact q H3 (s3.trans s4)
end
end PK
namespace PK
open PySem PySem.Spec PyProof.Rows L2
/-! isinstance of a caught error without fields -/
def rIsN0 (K : PySem.W.Frag) (a : Addr) (cls : Value) (d : Option Addr) : List V → Hp → VK → Prop := fun xs H Q =>
  ∃ (c : V) (cv : Value) (yes : Bool) (D : Addr), xs = [.ref a, c] ∧ (∀ u, RelV c u → u = cv) ∧ cls = .ref D ∧ d = none ∧ ExcC K D ∧ PySem.W.kitOne K (.ref D) cv = some yes ∧ Q (.bl yes) H
theorem call_isN0 {X : Cx} {a : Addr} {oe : Obj} {cls : Value} {d : Option Addr} {pn : List (Addr × Obj)} (hz : Zc cls d oe) (hf : ∃ vs, oe.data = .fields vs) : CallR (X.suite a ((a, oe) :: pn)) (.builtin "isinstance") (rIsN0 X.K a cls d) := by
  intro pins s σ H xs us Q I r h
  obtain ⟨c, cv, yes, D, rfl, hcv, rfl, rfl, C, hk, q⟩ := h
  exact call_isE C hz hf pins s σ H _ us Q I r ⟨c, cv, yes, rfl, hcv, hk, q⟩
/-- fill with a limit, its error caught -/
def spLim (K : PySem.W.Frag) : Sp := fun vs H Q _ => ∃ (x : V) (D : Addr) (kvs : List (Key × V)) (t : Tm) (T : Tab) (m : Nat), vs = [x, .ref D, .int (m : Nat)] ∧ Dt K H x t.d ∧ H D = some (.dK kvs) ∧ BindE K H kvs T ∧ (t.fill T).size ≤ 1000000 ∧ m ≤ 1000000 ∧ t.size ≤ 1000000 ∧
  (∀ H' v, Same H H' → (t.fill T).size ≤ m → (t.fill T).ht ≤ 201 → Dt K H' v (t.fill T).d → Q v H') ∧ ∀ H', Same H H' → (m < (t.fill T).size ∨ 201 < (t.fill T).ht) → Q (.bl true) H'
def spPlain (K : PySem.W.Frag) : Sp := fun vs H Q _ => ∃ (x : V) (D : Addr) (kvs : List (Key × V)) (t : Tm) (T : Tab), vs = [x, .ref D] ∧ Dt K H x t.d ∧ H D = some (.dK kvs) ∧ BindE K H kvs T ∧ (t.fill T).size ≤ 1000000 ∧ t.size ≤ 1000000 ∧
  (∀ H' v, Same H H' → (t.fill T).size ≤ 4000 → (t.fill T).ht ≤ 201 → Dt K H' v (t.fill T).d → Q v H') ∧ ∀ H', Same H H' → (4000 < (t.fill T).size ∨ 201 < (t.fill T).ht) → Q .non H'
section
variable {P : Program} {w : World} {K : PySem.W.Frag} {mg : Str → Option Value} {base : Heap} {aF CL CP : Addr}
abbrev s_law_limited : Stmt := topS 29
theorem sc_law_limited : FnScope ["term", "bindings", "most", "e"] ["term", "bindings", "most"] (defScope s_law_limited) := ⟨rfl, rfl, rfl, by decide +kernel, rfl, by decide +kernel, by decide +kernel⟩
-- slots: 0:term 1:bindings 2:most 3:e
abbrev s_law_plain : Stmt := topS 30
theorem sc_law_plain : FnScope ["term", "bindings"] ["term", "bindings"] (defScope s_law_plain) := ⟨rfl, rfl, rfl, by decide +kernel, rfl, by decide +kernel, by decide +kernel⟩
-- slots: 0:term 1:bindings
theorem ok_limited {f : Addr} {fd : FuncData} (F : Fun K "_law_limited" "_law_limited" s_law_limited f fd) (T : TxtL K mg CL CP) (C_fill : PKW.CalF P w K mg base 4 "fill" (spFill K CL) 2 ["most"] [.int 4000]) : FnOk P w K mg base CX0 5 f fd ["term", "bindings", "most"] (spLim K) := by
  refine F.ok sc_law_limited (fun vs H Q E h => ?_) (fun cdv A outer s H vs Q E hr h => ?_)
  · obtain ⟨_, _, _, _, _, _, rfl, _⟩ := h
    rfl
  obtain ⟨x, D, kvs, t, U, m, rfl, hx, hD, hb, hsz, hm, hts, q, qE⟩ := h
  refine ⟨_, (pss_one (ps_try_as (i := 3) rfl rfl sc_law_limited.nd rfl rfl ⟨rfl, by decide, .inl T.gL⟩ takes0 (fun W pn xe tk _ => pss_one (ps_ret (PKW.pe_ckS C_fill tk hr (by decide) rfl (pa_cons (pv 0) (pa_cons (pv 1) pa_nil)) (pk_cons (pv 2) pk_nil)))) (fun a oe cls d pn hz hf => pss_one (ps_ret (pe_callB (id := "isinstance") (call_isN0 hz hf) (by rfl) T.z_isinstance (by decide +kernel) (pa_cons (pv 3) (pa_cons (pe_glob (v := .ref CP) rfl T.gP rfl) pa_nil))))))), ?_⟩
  refine ⟨_, rfl, _, rfl, _, rfl, rfl, rfl, x, D, kvs, t, U, m, rfl, hx, hD, hb, hsz, hm, hts, fun H1 v s1 h1 h2 dv => ?_, fun H1 s1 hh => ?_⟩
  · exact q H1 v s1 h1 h2 dv
  · refine ⟨true, T.eL, fun _ a ha => ?_, fun q => nomatch q⟩
    exact ⟨_, rfl, .ref CP, .ref CP, true, CL, rfl, fun u ru => ru, rfl, rfl, T.cE, T.kP, qE H1 s1 hh⟩
theorem ok_plain {f : Addr} {fd : FuncData} (F : Fun K "_law_plain" "_law_plain" s_law_plain f fd) (T : TxtL K mg CL CP) (C_fill : PKW.CalF P w K mg base 4 "fill" (spFill K CL) 2 ["most"] [.int 4000]) : FnOk P w K mg base CX0 5 f fd ["term", "bindings"] (spPlain K) := by
  refine F.ok sc_law_plain (fun vs H Q E h => ?_) (fun cdv A outer s H vs Q E hr h => ?_)
  · obtain ⟨_, _, _, _, _, rfl, _⟩ := h
    rfl
  obtain ⟨x, D, kvs, t, U, rfl, hx, hD, hb, hsz, hts, q, qE⟩ := h
  refine ⟨_, (pss_one (ps_try_only rfl rfl ⟨rfl, by decide, .inl T.gL⟩ takes0 (fun W pn xe tk _ => pss_one (ps_ret (PKW.pe_cfS C_fill tk hr (by decide) rfl (pa_cons (pv 0) (pa_cons (pv 1) pa_nil))))) (fun a oe cls d pn _ _ => pss_one (ps_ret pe_non)))), ?_⟩
  refine ⟨_, rfl, _, rfl, x, D, kvs, t, U, 4000, rfl, hx, hD, hb, hsz, by decide, hts, fun H1 v s1 h1 h2 dv => q H1 v s1 h1 h2 dv, fun H1 s1 hh => ?_⟩
  refine ⟨true, T.eL, fun _ a ha => ?_, fun q => nomatch q⟩
  exact qE H1 s1 hh
end
end PK
namespace PK
open PySem L2
/-! the law's filling -/
def spFl (K : PySem.W.Frag) (n : Nat) : Sp := fun vs H Q _ => ∃ (x : V) (D : Addr) (kvs : List (Key × V)) (t : Tm) (U : Tab), vs = [x, .ref D] ∧ Dt K H x t.d ∧ H D = some (.dK kvs) ∧ BindE K H kvs U ∧ t.size ≤ 1000000 ∧ t.ht ≤ n ∧ ∀ (H' : Hp) (v : V), Same H H' → Dt K H' v (t.fill U).d → Q v H'
theorem kid_size {t k : Tm} (h : k ∈ t.kids) : k.size ≤ t.size := by
  have := sum_le (f := Tm.size) h
  rw [Tm.size_eq t]; omega
section
variable {P : Program} {w : World} {K : PySem.W.Frag} {mg : Str → Option Value} {base : Heap} {aF CL CP : Addr}
abbrev s_law_fill : Stmt := topS 24
theorem sc_law_fill : FnScope ["term", "bindings", "head", "entry", "part"] ["term", "bindings"] (defScope s_law_fill) := ⟨rfl, rfl, rfl, by decide +kernel, rfl, by decide +kernel, by decide +kernel⟩
-- slots: 0:term 1:bindings(cell) 2:head 3:entry(comp) 4:part(comp)
theorem ok_lfill {n : Nat} {f : Addr} {fd : FuncData} (F : Fun K "_law_fill" "_law_fill" s_law_fill f fd) (T : TxtL K mg CL CP) (C_law_fill : C8.Cal P w K mg base n "_law_fill" (spFl K n) []) : FnOk P w K mg base CX0 (n + 1) f fd ["term", "bindings"] (spFl K (n + 1)) := by
  refine F.ok sc_law_fill (fun vs H Q E h => ?_) (fun cdv A outer s H vs Q E hr h => ?_)
  · obtain ⟨_, _, _, _, _, rfl, _⟩ := h
    rfl
  obtain ⟨x, tb, kvs, t, U, rfl, hv, htb, hb, hsz, hht, q⟩ := h
  have ksz := kids_size t
  refine ⟨_, (pss_cons (ps_set (i := 2) sc_law_fill.nd rfl (Or.inl rfl) (pe_ix ix_tup (pv 0) pe_int (fun _ _ => rfl)))
    (pss_cons (ps_if (PW.pt (pw_and (pt_cmpR op_eq (pv 2) pe_str (nomark _)) (pw_and1 (pt_cmp (pc_din (hu_of hr) (pe_ix ix_tup (pv 0) pe_int (fun _ _ => rfl)) (pv 1)))))) (pss_one (ps_ret (pe_dget (hu_of hr) (pv 1) (pe_ix ix_tup (pv 0) pe_int (fun _ _ => rfl)) (fun _ _ => rfl)))) pss_nil)
    (pss_cons (ps_if (pt_cmpR op_eq (pv 2) pe_str (nomark _)) (pss_one (ps_ret (pe_tup (pa_cons pe_str (pa_cons (pe_callTy call_tuple_of (by rfl) T.z_tuple (by decide +kernel) (pa_cons (pe_lc (own := [("entry", 3)]) (g := (gName 3)) (tt := tYes) (by rfl) sc_law_fill.nd (pi_tup (pe_ix ix_tup (pv 0) pe_int (fun _ _ => rfl))) (blkOk_by (N := ["term", "bindings", "head", "entry", "part"]) (sc := defScope s_law_fill) (by decide +kernel)) (fun _ _ _ _ _ => (pg_name (i := 3) sc_law_fill.nd rfl (Or.inl rfl))) (fun _ _ _ _ _ => pts_nil) (fun _ _ _ _ _ => (pe_tup (pa_cons (pe_ix (r := rIxT K) ix_tup (pv 3) pe_int (fun _ _ => rfl)) (pa_cons (C8.pe_c C_law_fill hr (by omega) rfl (pa_cons (pe_ix (r := rIxT K) ix_tup (pv 3) pe_int (fun _ _ => rfl)) (pa_cons (pv 1) pa_nil))) pa_nil))))) pa_nil)) pa_nil))))) pss_nil)
    (pss_cons (ps_if (pt_cmpR op_eq (pv 2) pe_str (nomark _)) (pss_one (ps_ret (pe_tup (pa_cons pe_str (pa_cons (pe_ix ix_tup (pv 0) pe_int (fun _ _ => rfl)) (pa_cons (pe_callTy call_tuple_of (by rfl) T.z_tuple (by decide +kernel) (pa_cons (pe_lc (own := [("part", 4)]) (g := (gName 4)) (tt := tYes) (by rfl) sc_law_fill.nd (pi_tup (pe_ix ix_tup (pv 0) pe_int (fun _ _ => rfl))) (blkOk_by (N := ["term", "bindings", "head", "entry", "part"]) (sc := defScope s_law_fill) (by decide +kernel)) (fun _ _ _ _ _ => (pg_name (i := 4) sc_law_fill.nd rfl (Or.inl rfl))) (fun _ _ _ _ _ => pts_nil) (fun _ _ _ _ _ => (C8.pe_c C_law_fill hr (by omega) rfl (pa_cons (pv 4) (pa_cons (pv 1) pa_nil))))) pa_nil)) pa_nil)))))) pss_nil)
    (pss_cons (ps_if (pt_cmpR op_in_seq (pv 2) (pe_lst (pa_cons pe_str (pa_cons pe_str (pa_cons pe_str (pa_cons pe_str pa_nil))))) rfl) (pss_one (ps_ret (pe_op L2.op_catA (pe_tup (pa_cons (pv 2) pa_nil)) (pe_callTy call_tuple_of (by rfl) T.z_tuple (by decide +kernel) (pa_cons (pe_lc (own := [("part", 4)]) (g := (gName 4)) (tt := tYes) (by rfl) sc_law_fill.nd (pi_tup (pe_slice sl_tup (pv 0) (po_some pe_int) po_none)) (blkOk_by (N := ["term", "bindings", "head", "entry", "part"]) (sc := defScope s_law_fill) (by decide +kernel)) (fun _ _ _ _ _ => (pg_name (i := 4) sc_law_fill.nd rfl (Or.inl rfl))) (fun _ _ _ _ _ => pts_nil) (fun _ _ _ _ _ => (C8.pe_c C_law_fill hr (by omega) rfl (pa_cons (pv 4) (pa_cons (pv 1) pa_nil))))) pa_nil))))) pss_nil)
    (pss_one (ps_ret (pv 0)))))))), ?_⟩
  have hv0 := hv
  have inl : ∀ w0 : Str, w0 ∉ (["get", "set", "plus", "minus"] : List Str) → inV (.str w0) ((["get", "set", "plus", "minus"] : List Str).map V.str) = false := fun w0 h => by rw [inV_str]; exact decide_eq_false h
  cases t with
  | map es =>
    unfold Tm.d at hv
    obtain ⟨a, x, y, rfl, hs, h1, h2⟩ := Dt.t2 hv
    obtain rfl := h1.s
    obtain ⟨b, ys, rfl, hb2, hys⟩ := Dt.tn h2
    rw [Tm.es_map] at hys
    have ly : ys.length = es.length := by rw [hys.lenD, List.length_map]
    rw [show (Tm.map es).kids = es.map Prod.snd from rfl, List.length_map] at ksz
    refine vTx rfl hs (atI_nat (j := 0) rfl) ⟨_, rfl, rfl, _, rfl, sF (by decide +kernel) ⟨_, rfl, rfl, _, rfl, sT rfl ?_⟩⟩
    refine vTx rfl hs (atI_nat (j := 1) rfl) ⟨b, rfl, ⟨_, hb2⟩, fun D hD => lcS (K := K) (walk_tup (xs := ys)) hD (by omega) (fun ds => ds = (es.take ds.length).map fun e => Tm.ent (e.1, e.2.fill U)) rfl (fun H' s => Same.seqT s hb2) ?_ ?_⟩
    · rintro i x H1 H1 ds R hi s1 ⟨rfl, gx⟩ jd len r
      obtain ⟨d, gd, dx⟩ := DtAll.getX (hys.same s1) gx
      rw [List.getElem?_map] at gd
      cases e0 : es[i]? with
      | none => rw [e0] at gd; cases gd
      | some en =>
      rw [e0] at gd
      cases gd
      have hk : en.2 ∈ (Tm.map es).kids := List.mem_map.mpr ⟨en, List.mem_of_getElem? e0, rfl⟩
      have := Tm.ht_kid hk
      obtain ⟨a1, x1, y1, rfl, hs1, k1, k2⟩ := Dt.t2 dx
      refine ⟨rfl, vTx rfl hs1 (atI_nat (j := 0) rfl) (vTx rfl hs1 (atI_nat (j := 1) rfl) ⟨_, rfl, y1, tb, kvs, en.2, U, rfl, k2, s1 _ _ htb, hb.mono fun _ _ z => z.same s1, Nat.le_trans (kid_size hk) hsz, by omega, fun H2 v' s2 dv => ⟨small (by show 2 ≤ _; decide), fun p2 hp2 => ?_⟩⟩)⟩
      refine r (Tm.ent (en.1, en.2.fill U)) _ _ (s2.trans (same_new hp2)) (Dt.mk2 hp2 (k1.same s2) dv) ?_
      rw [List.length_append, len, show i + [Tm.ent (en.1, en.2.fill U)].length = i + 1 from rfl, List.take_add_one, e0, List.map_append]
      rw [len] at jd
      rw [← jd]; rfl
    rintro H1 ws ds s1 hws da len jd
    rw [len, ly, List.take_length] at jd
    rw [jd] at da
    refine ⟨D, _, rfl, .inl ⟨SqL.of hws, fun p1 hp1 => ⟨small (by show 2 ≤ _; decide), fun p2 hp2 => ?_⟩⟩⟩
    refine q _ _ ((s1.trans (same_new hp1)).trans (same_new hp2)) ?_
    rw [Tm.fill_eq]
    show Dt K _ _ (Tm.map (List.zipWith (fun (e : Str × Tm) (k : Tm) => (e.1, k)) es ((es.map Prod.snd).map (Tm.fill U)))).d
    rw [zip_ent]
    unfold Tm.d
    rw [Tm.es_map, List.map_map]
    exact Dt.mk2 hp2 (.str "map") (.tup (SqT.of upd_same) (da.same (same_new hp1)))
  | form g ts =>
    unfold Tm.d at hv
    obtain ⟨a, xs, rfl, hs, da0⟩ := Dt.tn hv
    cases da0 with
    | cons h1 dr =>
    obtain rfl := h1.s
    rename_i ys
    rw [Tm.ds_map] at dr
    have ly : ys.length = ts.length := by rw [dr.lenD, List.length_map]
    have ksz : ts.length ≤ (Tm.form g ts).size := ksz
    refine vTx (v := .str g.s) rfl hs (atI_nat (j := 0) rfl) ⟨_, rfl, rfl, _, rfl, sF g.ne_meta ⟨_, rfl, rfl, _, rfl, sF g.ne_map ⟨_, rfl, rfl, _, rfl, sF g.ne_node ⟨_, rfl, small (by show 4 ≤ _; decide), fun p1 hp1 => ?_⟩⟩⟩⟩
    have s1 := same_new (o := .lst [.str "get", .str "set", .str "plus", .str "minus"]) hp1
    refine ⟨p1, _, rfl, .inl (SqL.of upd_same), rfl, rfl, true, congrArg V.bl g.inF, iteT ⟨_, rfl, small (by show 1 ≤ _; decide), fun p2 hp2 => ?_⟩⟩
    have s2 := s1.trans (same_new (o := .tup [.str g.s]) hp2)
    have hs2 := Same.seqT s2 hs
    refine ⟨_, rfl, _, rfl, a, _, rfl, hs2, fun z => ?_, fun p3 hp3 => ?_⟩
    · have e := z.1
      revert e
      show (HT.sIx (ys.length + 1) 0 (some 1) = 0) → False
      unfold HT.sIx
      intro e
      simp at e
    have ec : cutV (V.str g.s :: ys) (some 1) none = ys := by
      unfold cutV HT.sIx
      simp
    rw [ec]
    have s3 := s2.trans (same_new (o := .tup ys) hp3)
    refine ⟨p3, rfl, ⟨_, SqT.of upd_same⟩, fun D hD => lcS (K := K) (walk_tup (xs := ys)) hD (by omega) (fun ds => ds = ((ts.take ds.length).map (Tm.fill U)).map Tm.d) rfl (fun H' s => Same.seqT s (SqT.of upd_same)) ?_ ?_⟩
    · rintro i x H1 H1 ds R hi s4 ⟨rfl, gx⟩ jd len r
      obtain ⟨d, gd, dx⟩ := DtAll.getX (dr.same (s3.trans s4)) gx
      rw [List.getElem?_map] at gd
      cases e0 : ts[i]? with
      | none => rw [e0] at gd; cases gd
      | some k =>
      rw [e0] at gd
      cases gd
      have hk : k ∈ (Tm.form g ts).kids := List.mem_of_getElem? e0
      have := Tm.ht_kid hk
      have sx := s3.trans s4
      refine ⟨rfl, _, rfl, _, rfl, x, tb, kvs, k, U, rfl, dx, sx _ _ htb, hb.mono fun _ _ z => z.same sx, Nat.le_trans (kid_size hk) hsz, by omega, fun H2 v' s2 dv => r (k.fill U).d v' H2 s2 dv ?_⟩
      rw [List.length_append, len, show i + [(k.fill U).d].length = i + 1 from rfl, List.take_add_one, e0, List.map_append, List.map_append]
      rw [len] at jd
      rw [← jd]; rfl
    rintro H1 ws ds s4 hws da len jd
    rw [len, ly, List.take_length] at jd
    rw [jd] at da
    have lws : ws.length = ts.length := by rw [da.lenD, List.length_map, List.length_map]
    refine ⟨D, _, rfl, .inl ⟨SqL.of hws, fun p5 hp5 => ?_⟩⟩
    have s5 := s4.trans (same_new (o := .tup ws) hp5)
    have hp25 : (upd H1 p5 (.tup ws)) p2 = some (.tup [.str g.s]) := s5 _ _ ((same_new (o := .tup ys) hp3) _ _ upd_same)
    have fin : ∀ (H6 : Hp) (v : V), Same (upd H1 p5 (.tup ws)) H6 → Dt K H6 v (.tuple (.str g.s :: (ts.map (Tm.fill U)).map Tm.d)) → Q v H6 := fun H6 v s6 dv => by
      refine q H6 v ((s3.trans s5).trans s6) ?_
      rw [Tm.fill_eq]
      show Dt K _ _ (Tm.form g (ts.map (Tm.fill U))).d
      unfold Tm.d
      rw [Tm.ds_map]
      exact dv
    refine ⟨p2, p5, [.str g.s], ws, rfl, rfl, SqT.of hp25, SqT.of upd_same, small (by show 1 + ws.length ≤ _; omega), fun e => absurd e (by simp), fun _ e => ?_, fun _ _ p6 hp6 => ?_⟩
    · subst e
      have ts0 : ts = [] := List.length_eq_zero_iff.mp lws.symm
      subst ts0
      exact fin _ _ (Same.refl _) (.tup (SqT.of hp25) (.cons (.str _) .nil))
    · exact fin _ _ (same_new hp6) (.tup (SqT.of upd_same) (.cons (.str _) ((da.same (same_new hp5)).same (same_new hp6))))
  | var s =>
    unfold Tm.d at hv
    obtain ⟨a, x, y, rfl, hs, h1, h2⟩ := Dt.t2 hv
    obtain rfl := h1.s
    obtain rfl := h2.s
    refine vTx rfl hs (atI_nat (j := 0) rfl) ⟨_, rfl, rfl, _, rfl, sT rfl (vTx rfl hs (atI_nat (j := 1) rfl) ⟨_, rfl, tb, _, rfl, DGet.k (k := .inr s) htb, _, rfl, ?_⟩)⟩
    cases e : lookA U s with
    | some u =>
      obtain ⟨v', e1, e2⟩ := (hb s).1 u e
      rw [e1]
      refine iteT ⟨_, rfl, vTx rfl hs (atI_nat (j := 1) rfl) ⟨tb, v', rfl, by rw [← e1]; exact DGet.k (k := .inr s) htb, q H v' (Same.refl H) ?_⟩⟩
      rw [Tm.fill_eq]
      show Dt K H v' ((lookA U s).getD (.var s)).d
      rw [e]
      exact e2
    | none =>
      rw [(hb s).2 e]
      refine iteF ⟨_, rfl, rfl, _, rfl, sF (by decide +kernel) ⟨_, rfl, rfl, _, rfl, sF (by decide +kernel) ⟨_, rfl, small (by show 4 ≤ _; decide), fun p1 hp1 => ?_⟩⟩⟩
      refine ⟨p1, _, rfl, .inl (SqL.of upd_same), rfl, rfl, false, congrArg V.bl (inl "meta" (by decide +kernel)), iteF ⟨_, rfl, q _ _ (same_new hp1) ?_⟩⟩
      rw [Tm.fill_eq]
      show Dt K _ _ ((lookA U s).getD (.var s)).d
      rw [e]
      exact hv0.new hp1
  | node c ts =>
    unfold Tm.d at hv
    obtain ⟨a, x, y, z, rfl, hs, h1, h2, h3⟩ := Dt.t3 hv
    obtain rfl := h1.s
    obtain rfl := h2.s
    obtain ⟨b, ys, rfl, hb2, hys⟩ := Dt.tn h3
    rw [Tm.ds_map] at hys
    have ly : ys.length = ts.length := by rw [hys.lenD, List.length_map]
    have lk : ts.length ≤ 1000000 := Nat.le_trans ksz hsz
    refine vTx rfl hs (atI_nat (j := 0) rfl) ⟨_, rfl, rfl, _, rfl, sF (by decide +kernel) ⟨_, rfl, rfl, _, rfl, sF (by decide +kernel) ⟨_, rfl, rfl, _, rfl, sT rfl ?_⟩⟩⟩
    refine vTx rfl hs (atI_nat (j := 1) rfl) (vTx rfl hs (atI_nat (j := 2) rfl) ⟨b, rfl, ⟨_, hb2⟩, fun D hD => lcS (K := K) (walk_tup (xs := ys)) hD (by omega) (fun ds => ds = ((ts.take ds.length).map (Tm.fill U)).map Tm.d) rfl (fun H' s => Same.seqT s hb2) ?_ ?_⟩)
    · rintro i x H1 H1 ds R hi s1 ⟨rfl, gx⟩ jd len r
      obtain ⟨d, gd, dx⟩ := DtAll.getX hys gx
      rw [List.getElem?_map] at gd
      cases e0 : ts[i]? with
      | none => rw [e0] at gd; cases gd
      | some k =>
      rw [e0] at gd
      cases gd
      have hk : k ∈ (Tm.node c ts).kids := List.mem_of_getElem? e0
      have := Tm.ht_kid hk
      refine ⟨rfl, _, rfl, _, rfl, x, tb, kvs, k, U, rfl, dx.same s1, s1 _ _ htb, hb.mono fun _ _ z => z.same s1, Nat.le_trans (kid_size hk) hsz, by omega, fun H2 v' s2 dv => r (k.fill U).d v' H2 s2 dv ?_⟩
      rw [List.length_append, len, show i + [(k.fill U).d].length = i + 1 from rfl, List.take_add_one, e0, List.map_append, List.map_append]
      rw [len] at jd
      rw [← jd]; rfl
    rintro H1 ws ds s1 hws da len jd
    rw [len, ly, List.take_length] at jd
    rw [jd] at da
    refine ⟨D, _, rfl, .inl ⟨SqL.of hws, fun p1 hp1 => ⟨small (by show 3 ≤ _; decide), fun p2 hp2 => ?_⟩⟩⟩
    refine q _ _ ((s1.trans (same_new hp1)).trans (same_new hp2)) ?_
    rw [Tm.fill_eq]
    show Dt K _ _ (Tm.node c (ts.map (Tm.fill U))).d
    unfold Tm.d
    rw [Tm.ds_map]
    exact Dt.mk3 hp2 (.str _) (.str _) (.tup (SqT.of upd_same) (da.same (same_new hp1)))
  | int m =>
    unfold Tm.d at hv
    obtain ⟨a, x, y, rfl, hs, h1, h2⟩ := Dt.t2 hv
    obtain rfl := h1.s
    refine vTx rfl hs (atI_nat (j := 0) rfl) ⟨_, rfl, rfl, _, rfl, sF (by decide +kernel) ⟨_, rfl, rfl, _, rfl, sF (by decide +kernel) ⟨_, rfl, rfl, _, rfl, sF (by decide +kernel) ⟨_, rfl, small (by show 4 ≤ _; decide), fun p1 hp1 => ?_⟩⟩⟩⟩
    refine ⟨p1, _, rfl, .inl (SqL.of upd_same), rfl, rfl, false, congrArg V.bl (inl "int" (by decide +kernel)), iteF ⟨_, rfl, q _ _ (same_new hp1) ?_⟩⟩
    rw [Tm.fill_eq]
    exact hv0.new hp1
  | name m =>
    unfold Tm.d at hv
    obtain ⟨a, x, y, rfl, hs, h1, h2⟩ := Dt.t2 hv
    obtain rfl := h1.s
    refine vTx rfl hs (atI_nat (j := 0) rfl) ⟨_, rfl, rfl, _, rfl, sF (by decide +kernel) ⟨_, rfl, rfl, _, rfl, sF (by decide +kernel) ⟨_, rfl, rfl, _, rfl, sF (by decide +kernel) ⟨_, rfl, small (by show 4 ≤ _; decide), fun p1 hp1 => ?_⟩⟩⟩⟩
    refine ⟨p1, _, rfl, .inl (SqL.of upd_same), rfl, rfl, false, congrArg V.bl (inl "name" (by decide +kernel)), iteF ⟨_, rfl, q _ _ (same_new hp1) ?_⟩⟩
    rw [Tm.fill_eq]
    exact hv0.new hp1
  | addr m =>
    unfold Tm.d at hv
    obtain ⟨a, x, y, rfl, hs, h1, h2⟩ := Dt.t2 hv
    obtain rfl := h1.s
    refine vTx rfl hs (atI_nat (j := 0) rfl) ⟨_, rfl, rfl, _, rfl, sF (by decide +kernel) ⟨_, rfl, rfl, _, rfl, sF (by decide +kernel) ⟨_, rfl, rfl, _, rfl, sF (by decide +kernel) ⟨_, rfl, small (by show 4 ≤ _; decide), fun p1 hp1 => ?_⟩⟩⟩⟩
    refine ⟨p1, _, rfl, .inl (SqL.of upd_same), rfl, rfl, false, congrArg V.bl (inl "addr" (by decide +kernel)), iteF ⟨_, rfl, q _ _ (same_new hp1) ?_⟩⟩
    rw [Tm.fill_eq]
    exact hv0.new hp1
end
end PK
namespace PK
open PySem L2
/-! wide and tall terms -/
theorem Same.ext {l c : Addr} {H H' : Hp} (s : Same H H') (P : Pool H l c) : Ext l c H H' := ⟨fun b o _ h => s b o h, by
  obtain ⟨ns, i, r, z, hl, hc, q⟩ := P
  exact ⟨ns, i, r, z, s _ _ hl, s _ _ hc, q⟩⟩
inductive Wid (b : Tm) : Nat → Tm → Prop
  | leaf : Wid b 0 b
  | two {n : Nat} {t : Tm} : Wid b n t → Wid b (n + 1) (.map [("a", t), ("b", t)])
  | more {n : Nat} {t : Tm} : Wid b n t → Wid b (n + 1) (.map [("a", .map [("a", t), ("b", t)])])
theorem Dt.ext1 {l c : Addr} {K : PySem.W.Frag} {H H' : Hp} {v : V} {d : PyData} (h : Dt K H v d) (x : Ext l c H H') (P : Pool H l c) : Dt K H' v d := Dt.mono (fun _ _ z => x.seqT P z) _ _ h
theorem dmap {K : PySem.W.Frag} {H : Hp} {v : V} {es : List (Str × Tm)} (h : Dt K H v (.tuple [.str "map", .tuple (es.map Tm.ent)])) : Dt K H v (Tm.map es).d := by unfold Tm.d; rw [Tm.es_map]; exact h
theorem neF {v u : V} {A B : Prop} (e : v = u) (h : B) : if (!decide (v = u)) = true then A else B := by rw [decide_eq_true e]; exact iteF h
theorem fill_map (U : Tab) (es : List (Str × Tm)) : (Tm.map es).fill U = .map (es.map fun e => (e.1, e.2.fill U)) := by
  rw [Tm.fill_eq]
  show Tm.map (List.zipWith (fun (e : Str × Tm) (k : Tm) => (e.1, k)) es ((es.map Prod.snd).map (Tm.fill U))) = _
  rw [zip_ent]
theorem fill_form (U : Tab) (g : Fm) (ts : List Tm) : (Tm.form g ts).fill U = .form g (ts.map (Tm.fill U)) := Tm.fill_eq ..
theorem fill_int (U : Tab) (n : Int) : (Tm.int n).fill U = .int n := Tm.fill_eq ..
theorem size_map (es : List (Str × Tm)) : (Tm.map es).size = 1 + (es.map fun e => e.2.size).sum := by
  rw [Tm.size_eq]
  show 1 + ((es.map Prod.snd).map Tm.size).sum = _
  rw [List.map_map]; rfl
theorem Wid.fill {b t : Tm} {n : Nat} {U : Tab} (h : Wid b n t) : Wid (b.fill U) n (t.fill U) := by
  induction h with
  | leaf => exact .leaf
  | two h ih => rw [fill_map]; exact .two ih
  | more h ih => rw [fill_map, List.map_singleton, fill_map]; exact .more ih
theorem Wid.size {b t : Tm} {n : Nat} (h : Wid b n t) : t.size + 2 ≤ (b.size + 2) * 2 ^ n := by
  induction h with
  | leaf => omega
  | two h ih => rw [size_map, Nat.pow_succ, ← Nat.mul_assoc]; simp only [List.map_cons, List.map_nil, List.sum_cons, List.sum_nil]; omega
  | more h ih => rw [size_map, Nat.pow_succ, ← Nat.mul_assoc]; simp only [List.map_cons, List.map_nil, List.sum_cons, List.sum_nil]; rw [size_map]; simp only [List.map_cons, List.map_nil, List.sum_cons, List.sum_nil]; omega
theorem ht_map {es : List (Str × Tm)} {n : Nat} (h : ∀ e ∈ es, e.2.ht ≤ n) : (Tm.map es).ht ≤ n + 1 := Tm.ht_le fun k hk => by
  obtain ⟨e, he, rfl⟩ := List.mem_map.mp hk
  exact h e he
theorem Wid.ht {b t : Tm} {n : Nat} (h : Wid b n t) : t.ht ≤ b.ht + 2 * n := by
  induction h with
  | leaf => omega
  | two h ih =>
    have := ht_map (es := [("a", _), ("b", _)]) (n := _) fun e he => by
      rcases List.mem_cons.mp he with rfl | he
      · exact ih
      · rw [List.mem_singleton.mp he]; exact ih
    omega
  | more h ih =>
    have h1 := ht_map (es := [("a", _), ("b", _)]) (n := _) fun e he => by
      rcases List.mem_cons.mp he with rfl | he
      · exact ih
      · rw [List.mem_singleton.mp he]; exact ih
    have := ht_map (es := [("a", _)]) (n := _) fun e he => by
      rw [List.mem_singleton.mp he]; exact h1
    omega
/-! what may be compared -/
def lN (t : Tm) : Prop := match t with
  | .node c _ => SOk c
  | .map es => ∀ e ∈ es, SOk e.1
  | .name s => SOk s
  | .var s => SOk s
  | _ => True
theorem lay_tm {t : Tm} (h : Al lN t) : t.d.canLay0 = true := by
  have w : ∀ x ∈ (["int", "name", "addr", "meta", "node", "map", "get", "set", "plus", "minus"] : List Str), SOk x := by decide +kernel
  induction t using Tm.ind with
  | h t ih =>
    have hl := h.at_
    have two : ∀ (a : Str) (x : PyData), SOk a → x.canLay0 = true → (PyData.tuple [.str a, x]).canLay0 = true := fun a x ha hx => lay_tup fun d hd => by
      rcases List.mem_cons.mp hd with rfl | hd
      · exact ha
      · rw [List.mem_singleton.mp hd]; exact hx
    cases t with
    | node c ts =>
      unfold Tm.d
      rw [Tm.ds_map]
      refine lay_tup fun d hd => ?_
      rcases List.mem_cons.mp hd with rfl | hd
      · exact w "node" (by decide)
      rcases List.mem_cons.mp hd with rfl | hd
      · exact hl
      rw [List.mem_singleton.mp hd]
      refine lay_tup fun d hd => ?_
      obtain ⟨k, hk, rfl⟩ := List.mem_map.mp hd
      exact ih k hk (h.kid hk)
    | map es =>
      unfold Tm.d
      rw [Tm.es_map]
      refine two _ _ (w _ (by decide)) (lay_tup fun d hd => ?_)
      obtain ⟨e, he, rfl⟩ := List.mem_map.mp hd
      have hk : e.2 ∈ (Tm.map es).kids := List.mem_map.mpr ⟨e, he, rfl⟩
      exact two _ _ (hl e he) (ih e.2 hk (h.kid hk))
    | form f ts =>
      unfold Tm.d
      rw [Tm.ds_map]
      refine lay_tup fun d hd => ?_
      rcases List.mem_cons.mp hd with rfl | hd
      · exact w _ (by cases f <;> decide)
      obtain ⟨k, hk, rfl⟩ := List.mem_map.mp hd
      exact ih k hk (h.kid hk)
    | int n => unfold Tm.d; exact two _ _ (w _ (by decide)) rfl
    | name n => unfold Tm.d; exact two _ _ (w _ (by decide)) hl
    | addr n => unfold Tm.d; exact two _ _ (w _ (by decide)) rfl
    | var n => unfold Tm.d; exact two _ _ (w _ (by decide)) hl
theorem tm_depthF {t : Tm} : t.d.depth ≤ 3 * t.ht := by
  induction t using Tm.ind with
  | h t ih =>
    have hpos := t.ht_pos
    cases t with
    | node c ts =>
      unfold Tm.d
      rw [Tm.ds_map]
      have : PyData.depthAll (ts.map Tm.d) ≤ 3 * (Tm.node c ts).ht - 3 := depth_all fun d hd => by
        obtain ⟨k, hk, rfl⟩ := List.mem_map.mp hd
        have h1 := ih k hk
        have h2 := Tm.ht_kid (t := .node c ts) hk
        omega
      show max 0 (max 0 (max (PyData.depthAll (ts.map Tm.d) + 1) 0)) + 1 ≤ _
      omega
    | map es =>
      unfold Tm.d
      rw [Tm.es_map]
      have : PyData.depthAll (es.map Tm.ent) ≤ 3 * (Tm.map es).ht - 2 := depth_all fun d hd => by
        obtain ⟨e, he, rfl⟩ := List.mem_map.mp hd
        have hk : e.2 ∈ (Tm.map es).kids := List.mem_map.mpr ⟨e, he, rfl⟩
        have h1 := ih e.2 hk
        have h2 := Tm.ht_kid hk
        unfold Tm.ent
        show max 0 (max e.2.d.depth 0) + 1 ≤ _
        omega
      show max 0 (max (PyData.depthAll (es.map Tm.ent) + 1) 0) + 1 ≤ _
      omega
    | form f ts =>
      unfold Tm.d
      rw [Tm.ds_map]
      have : PyData.depthAll (ts.map Tm.d) ≤ 3 * (Tm.form f ts).ht - 3 := depth_all fun d hd => by
        obtain ⟨k, hk, rfl⟩ := List.mem_map.mp hd
        have h1 := ih k hk
        have h2 := Tm.ht_kid (t := .form f ts) hk
        omega
      show max 0 (PyData.depthAll (ts.map Tm.d)) + 1 ≤ _
      omega
    | int n => unfold Tm.d; show max 0 (max 0 0) + 1 ≤ _; omega
    | name n => unfold Tm.d; show max 0 (max 0 0) + 1 ≤ _; omega
    | addr n => unfold Tm.d; show max 0 (max 0 0) + 1 ≤ _; omega
    | var n => unfold Tm.d; show max 0 (max 0 0) + 1 ≤ _; omega
theorem Wid.al {b t : Tm} {n : Nat} (h : Wid b n t) (hb : Al lN b) : Al lN t := by
  have wa : SOk "a" := by decide +kernel
  have wb : SOk "b" := by decide +kernel
  have two : ∀ {t : Tm}, Al lN t → Al lN (.map [("a", t), ("b", t)]) := fun ht => .mk (fun e he => by
      rcases List.mem_cons.mp he with rfl | he
      · exact wa
      · rw [List.mem_singleton.mp he]; exact wb) fun k hk => by
      rcases List.mem_cons.mp hk with rfl | hk
      · exact ht
      · rw [List.mem_singleton.mp hk]; exact ht
  induction h with
  | leaf => exact hb
  | two h ih => exact two ih
  | more h ih =>
    exact .mk (fun e he => by rw [List.mem_singleton.mp he]; exact wa) fun k hk => by
      rw [List.mem_singleton.mp hk]; exact two ih
theorem bind1 {K : PySem.W.Frag} {H : Hp} {w : Str} {v : V} {t : Tm} (dv : Dt K H v t.d) : BindE K H [(.inr w, v)] [(w, t)] := (Bnd.cons dv .nil).ind (by simp)
theorem fill1 (w : Str) (t : Tm) : (Tm.var w).fill [(w, t)] = t := bnd_fill (by rw [lookA_cons, if_pos rfl]; rfl)
theorem vLx {K : PySem.W.Frag} {σ : L2.St} {H : Hp} {Q : VK} {i : Nat} {p : Addr} {xs : List V} {j : Int} {v : V} (h : σ[i]? = some (some (.ref p))) (hs : SqL K H p xs) (g : atI xs j = some v) (q : Q v H) : tOp (rIxL K) (tVar i) (tC (.int j)) σ H Q := ⟨_, h, p, xs, j, v, rfl, rfl, hs, g, q⟩
theorem vDisp1 {K : PySem.W.Frag} {σ : L2.St} {H : Hp} {Q : VK} {i j : Nat} {p : Addr} {xs : List V} {n : Int} {w : Str} {v : V} (hp : σ[i]? = some (some (.ref p))) (hs : SqL K H p xs) (g : atI xs n = some (.str w)) (hv : σ[j]? = some (some v))
    (q : ∀ (D : Addr) (H' : Hp), H D = none → Same H H' → H' D = some (.dK [(.inr w, v)]) → Q (.ref D) H') : tDisp [(tOp (rIxL K) (tVar i) (tC (.int n)), tVar j)] σ H Q := fun D hD =>
  ⟨_, hp, p, xs, n, _, rfl, rfl, Same.seq (same_new hD) hs, g, _, hv, upd_same, [(.inr w, v)], rfl, (by show 1 ≤ 15; decide), q D _ hD (Same.upd (same_new hD) hD) upd_same⟩
theorem chain_fill (U : Tab) (w : Str) : ∀ (n : Nat) (t : Tm), (chainT w n t).fill U = chainT w n (t.fill U)
  | 0, _ => rfl
  | n + 1, t => by rw [chain_succ, fill_map, List.map_singleton, chain_fill U w n t]; rfl
theorem chain_size (w : Str) : ∀ (n : Nat) (t : Tm), (chainT w n t).size = n + t.size
  | 0, t => (Nat.zero_add _).symm
  | n + 1, t => by rw [chain_succ, size_map]; simp only [List.map_cons, List.map_nil, List.sum_cons, List.sum_nil]; rw [chain_size w n t]; omega
theorem chain_ht (w : Str) : ∀ (n : Nat) (t : Tm), (chainT w n t).ht = n + t.ht
  | 0, t => (Nat.zero_add _).symm
  | n + 1, t => by
    rw [chain_succ, Tm.ht_eq]
    show 1 + max (chainT w n t).ht 0 = _
    rw [chain_ht w n t]; omega
def spWide (K : PySem.W.Frag) : Sp := fun vs H Q _ => ∃ (l c : Addr) (w : Str), vs = [.ref l, .str w] ∧ Pool H l c ∧ ∀ (H' : Hp) (v : V) (t : Tm) (n : Nat), Ext l c H H' → Dt K H' v t.d → Wid (.var w) n t → n ≤ 11 → Q v H'
def spBelow (K : PySem.W.Frag) : Sp := fun vs H Q _ => ∃ (x : V) (t : Tm) (m : Nat) (w : Str), vs = [x, .int (m : Nat), .str w] ∧ Dt K H x (chainT w m t).d ∧ m ≤ 1000 ∧ ∀ (H' : Hp) (v : V), Same H H' → Dt K H' v t.d → Q v H'
def spTall (K : PySem.W.Frag) : Sp := fun vs H Q _ => ∃ (l c pw : Addr) (ws : List Str), vs = [.ref l, .ref pw] ∧ Pool H l c ∧ Wl H l pw ws ∧ ws.length = 5 ∧ ∀ H' : Hp, Q (.bl true) H'
section
variable {P : Program} {w : World} {K : PySem.W.Frag} {mg : Str → Option Value} {base : Heap} {aF CL CP : Addr}
abbrev s_law_wide : Stmt := topS 31
theorem sc_law_wide : FnScope ["pool", "word", "made", "k"] ["pool", "word"] (defScope s_law_wide) := ⟨rfl, rfl, rfl, by decide +kernel, rfl, by decide +kernel, by decide +kernel⟩
-- slots: 0:pool 1:word 2:made 3:k
abbrev s_law_below : Stmt := topS 33
theorem sc_law_below : FnScope ["term", "many", "word", "k"] ["term", "many", "word"] (defScope s_law_below) := ⟨rfl, rfl, rfl, by decide +kernel, rfl, by decide +kernel, by decide +kernel⟩
-- slots: 0:term 1:many 2:word 3:k
abbrev s_law_tall : Stmt := topS 34
theorem sc_law_tall : FnScope ["pool", "words", "low", "inner", "term", "many", "chain", "actual"] ["pool", "words"] (defScope s_law_tall) := ⟨rfl, rfl, rfl, by decide +kernel, rfl, by decide +kernel, by decide +kernel⟩
-- slots: 0:pool 1:words 2:low 3:inner 4:term 5:many 6:chain 7:actual
theorem ok_wide {f : Addr} {fd : FuncData} (F : Fun K "_law_wide" "_law_wide" s_law_wide f fd) (T : TxtL K mg CL CP) (C_law_take : C8.Cal P w K mg base 2 "_law_take" (spTake 2) []) : FnOk P w K mg base CX0 3 f fd ["pool", "word"] (spWide K) := by
  refine F.ok sc_law_wide (fun vs H Q E h => ?_) (fun cdv A outer s H vs Q E hr h => ?_)
  · obtain ⟨_, _, _, rfl, _⟩ := h
    rfl
  obtain ⟨l, c, wd, rfl, P0, q⟩ := h
  refine ⟨_, (pss_cons (ps_set (i := 2) sc_law_wide.nd rfl (Or.inl rfl) (pe_tup (pa_cons pe_str (pa_cons (pv 1) pa_nil))))
    (pss_cons (ps_for PassesOwn.never rfl (pi_range1 (by rfl) T.z_range (pa_cons (pe_op op_add pe_int (C8.pe_c C_law_take hr (by decide) rfl (pa_cons (pv 0) (pa_cons pe_int pa_nil)))) pa_nil)) (pg_name (i := 3) sc_law_wide.nd rfl (Or.inl rfl)) (pss_cons (ps_set (i := 2) sc_law_wide.nd rfl (Or.inl rfl) (pe_tup (pa_cons pe_str (pa_cons (pe_tup (pa_cons (pe_tup (pa_cons pe_str (pa_cons (pv 2) pa_nil))) (pa_cons (pe_tup (pa_cons pe_str (pa_cons (pv 2) pa_nil))) pa_nil))) pa_nil))))
    (pss_one (ps_if (pt_cmpR op_eq (C8.pe_c C_law_take hr (by decide) rfl (pa_cons (pv 0) (pa_cons pe_int pa_nil))) pe_int (nomark _)) (pss_one (ps_set (i := 2) sc_law_wide.nd rfl (Or.inl rfl) (pe_tup (pa_cons pe_str (pa_cons (pe_tup (pa_cons (pe_tup (pa_cons pe_str (pa_cons (pv 2) pa_nil))) pa_nil)) pa_nil))))) pss_nil))))
    (pss_one (ps_ret (pv 2))))), ?_⟩
  refine ⟨_, rfl, small (by show 2 ≤ _; decide), fun p1 hp1 => ?_⟩
  have x1 := (Ext.refl P0).new (o := .tup [.str "meta", .str wd]) P0 hp1
  refine vTake rfl x1.pool (by decide) (by decide) fun d H2 d0 d1 x2 => ?_
  refine ⟨_, _, rfl, rfl, 1 + d, rfl, by omega, by omega, for_range (lo := 0) (n := (1 + d).toNat) (fun i σ H' => ∃ (v : V) (o : Option V) (t : Tm), σ = [some (.ref l), some (.str wd), some v, o] ∧ Ext l c H H' ∧ Dt K H' v t.d ∧ Wid (.var wd) i t) ?_ ?_ ?_⟩
  · refine ⟨_, none, .var wd, rfl, x1.trans x2, ?_, .leaf⟩
    have d1 : Dt K (upd H p1 (.tup [.str "meta", .str wd])) (.ref p1) (Tm.var wd).d := by
      unfold Tm.d
      exact Dt.mk2 hp1 (.str _) (.str _)
    exact d1.ext1 x2 x1.pool
  · rintro i σ H3 hi ⟨v, o, t, rfl, x3, dv, wv⟩
    refine ⟨_, rfl, small (by show 2 ≤ _; decide), fun pa hpa => ⟨_, rfl, small (by show 2 ≤ _; decide), fun pb hpb => ⟨small (by show 2 ≤ _; decide), fun pc hpc => ⟨small (by show 2 ≤ _; decide), fun pd hpd => ?_⟩⟩⟩⟩
    have y1 := (Ext.refl x3.pool).new (o := .tup [.str "a", v]) x3.pool hpa
    have y2 := y1.new (o := .tup [.str "b", v]) x3.pool hpb
    have y3 := y2.new (o := .tup [.ref pa, .ref pb]) x3.pool hpc
    have y4 := y3.new (o := .tup [.str "map", .ref pc]) x3.pool hpd
    have ea : Dt K (upd H3 pa (.tup [.str "a", v])) (.ref pa) (Tm.ent ("a", t)) := Dt.mk2 hpa (.str "a") dv
    have eb : Dt K (upd (upd H3 pa (.tup [.str "a", v])) pb (.tup [.str "b", v])) (.ref pb) (Tm.ent ("b", t)) := Dt.mk2 hpb (.str "b") (dv.new hpa)
    have ec := Dt.mk2 hpc (ea.new hpb) eb
    have ed : Dt K _ (.ref pd) (Tm.map [("a", t), ("b", t)]).d := dmap (Dt.mk2 hpd (.str "map") ec)
    refine vTake rfl y4.pool (by decide) (by decide) fun e H5 e0 e1 x5 => ⟨rfl, _, rfl, ite2 (fun _ => ?_) (fun _ => ⟨_, _, _, rfl, x3.trans (y4.trans x5), ed.ext1 x5 y4.pool, .two wv⟩)⟩
    have ed5 := ed.ext1 x5 y4.pool
    refine ⟨_, rfl, small (by show 2 ≤ _; decide), fun pe hpe => ⟨small (by show 1 ≤ _; decide), fun pf hpf => ⟨small (by show 2 ≤ _; decide), fun pg hpg => ⟨_, _, _, rfl, ?_, ?_, .more wv⟩⟩⟩⟩
    · exact x3.trans ((((y4.trans x5).new x3.pool hpe).new x3.pool hpf).new x3.pool hpg)
    · have e1 : Dt K _ (.ref pe) (Tm.ent ("a", .map [("a", t), ("b", t)])) := Dt.mk2 hpe (.str "a") ed5
      exact dmap (Dt.mk2 hpg (.str "map") (Dt.mk1 hpf e1))
  · rintro σ H3 ⟨v, o, t, rfl, x3, dv, wv⟩
    exact ⟨_, rfl, q H3 v t _ x3 dv wv (by omega)⟩
theorem ok_below {f : Addr} {fd : FuncData} (F : Fun K "_law_below" "_law_below" s_law_below f fd) (T : TxtL K mg CL CP) : FnOk P w K mg base CX0 1 f fd ["term", "many", "word"] (spBelow K) := by
  refine F.ok sc_law_below (fun vs H Q E h => ?_) (fun cdv A outer s H vs Q E hr h => ?_)
  · obtain ⟨_, _, _, _, rfl, _⟩ := h
    rfl
  obtain ⟨x, t, m, wd, rfl, hx, hm, q⟩ := h
  refine ⟨_, (pss_cons (ps_for PassesOwn.never rfl (pi_range1 (by rfl) T.z_range (pa_cons (pv 1) pa_nil)) (pg_name (i := 3) sc_law_below.nd rfl (Or.inl rfl)) (pss_cons (ps_if (PW.pt (pw_or (pt_not (pt_val (pe_callB call_isi (by rfl) T.z_isinstance (by decide +kernel) (pa_cons (pv 0) (pa_cons (pe_bltn (v := .ty "tuple") (by rfl) T.z_tuple (by decide +kernel) rfl) pa_nil))))) (pw_or (pt_cmpR op_ne (pe_callB call_len_seq (by rfl) T.z_len (by decide +kernel) (pa_cons (pv 0) pa_nil)) pe_int (nomark _)) (pw_or1 (pt_cmpR op_ne (pe_ix ix_tup (pv 0) pe_int (fun _ _ => rfl)) pe_str (nomark _)))))) (pss_one (ps_ret pe_non)) pss_nil)
    (pss_cons (ps_if (PW.pt (pw_or (pt_not (pt_val (pe_callB call_isi (by rfl) T.z_isinstance (by decide +kernel) (pa_cons (pe_ix ix_tup (pv 0) pe_int (fun _ _ => rfl)) (pa_cons (pe_bltn (v := .ty "tuple") (by rfl) T.z_tuple (by decide +kernel) rfl) pa_nil))))) (pw_or (pt_cmpR op_ne (pe_callB call_len_seq (by rfl) T.z_len (by decide +kernel) (pa_cons (pe_ix ix_tup (pv 0) pe_int (fun _ _ => rfl)) pa_nil)) pe_int (nomark _)) (pw_or1 (pt_cmpR op_ne (pe_ix ix_tup (pe_ix ix_tup (pe_ix ix_tup (pv 0) pe_int (fun _ _ => rfl)) pe_int (fun _ _ => rfl)) pe_int (fun _ _ => rfl)) (pv 2) (nomark _)))))) (pss_one (ps_ret pe_non)) pss_nil)
    (pss_one (ps_set (i := 0) sc_law_below.nd rfl (Or.inl rfl) (pe_ix ix_tup (pe_ix ix_tup (pe_ix ix_tup (pv 0) pe_int (fun _ _ => rfl)) pe_int (fun _ _ => rfl)) pe_int (fun _ _ => rfl)))))))
    (pss_one (ps_ret (pv 0)))), ?_⟩
  refine ⟨_, rfl, m, rfl, by omega, by omega, for_range (lo := 0) (n := ((m : Nat) : Int).toNat) (fun i σ H' => ∃ (v : V) (o : Option V), σ = [some v, some (.int (m : Nat)), some (.str wd), o] ∧ Same H H' ∧ Dt K H' v (chainT wd (m - i) t).d) ⟨x, none, rfl, Same.refl H, hx⟩ ?_ ?_⟩
  · rintro i σ H' hi ⟨v, o, rfl, s1, dv⟩
    have hi : i < m := by omega
    obtain ⟨k, ek⟩ : ∃ k, m - i = k + 1 := ⟨m - i - 1, by omega⟩
    rw [ek, chain_succ] at dv
    have ek2 : m - (i + 1) = k := by omega
    rw [ek2]
    unfold Tm.d at dv
    rw [Tm.es_map, List.map_singleton] at dv
    obtain ⟨a, y, z, rfl, hs, k1, k2⟩ := Dt.t2 dv
    obtain rfl := k1.s
    obtain ⟨b, u, rfl, hb, k3⟩ := Dt.t1 k2
    obtain ⟨e, y4, z4, rfl, he, k4, k5⟩ := Dt.t2 k3
    obtain rfl := k4.s
    refine vIsi rfl (ty_tup hs) (b := true) (by decide +kernel) ⟨_, rfl, iteF ?_⟩
    refine ⟨_, rfl, a, _, rfl, .inr hs, rfl, _, rfl, neF rfl ?_⟩
    refine vTx rfl hs (atI_nat (j := 0) rfl) ⟨rfl, _, rfl, nF rfl ?_⟩
    refine vTx rfl hs (atI_nat (j := 1) rfl) ⟨.ref b, .ty "tuple", _, _, true, rfl, .ty "tuple", ty_tup hb, kit_ty (by decide +kernel), ?_⟩
    refine ⟨_, rfl, iteF (vTx rfl hs (atI_nat (j := 1) rfl) ⟨b, _, rfl, .inr hb, rfl, _, rfl, neF rfl ?_⟩)⟩
    refine vTx rfl hs (atI_nat (j := 1) rfl) ⟨b, _, _, _, rfl, rfl, hb, atI_nat (j := 0) rfl, e, _, _, _, rfl, rfl, he, atI_nat (j := 0) rfl, _, rfl, rfl, _, rfl, nF rfl ?_⟩
    refine vTx rfl hs (atI_nat (j := 1) rfl) ⟨b, _, _, _, rfl, rfl, hb, atI_nat (j := 0) rfl, e, _, _, _, rfl, rfl, he, atI_nat (j := 1) rfl, ?_⟩
    exact ⟨_, _, rfl, s1, k5⟩
  · rintro σ H' ⟨v, o, rfl, s1, dv⟩
    rw [show m - ((m : Nat) : Int).toNat = 0 by omega] at dv
    exact ⟨_, rfl, q H' v s1 dv⟩
theorem ok_tall {f : Addr} {fd : FuncData} (F : Fun K "_law_tall" "_law_tall" s_law_tall f fd) (T : TxtL K mg CL CP) (C_law_take : C8.Cal P w K mg base 2 "_law_take" (spTake 2) []) (C_law_chain : C8.Cal P w K mg base 1 "_law_chain" (spCh K) []) (C_law_below : C8.Cal P w K mg base 1 "_law_below" (spBelow K) []) (C_law_plain : C8.Cal P w K mg base 5 "_law_plain" (spPlain K) []) : FnOk P w K mg base CX0 6 f fd ["pool", "words"] (spTall K) := by
  refine F.ok sc_law_tall (fun vs H Q E h => ?_) (fun cdv A outer s H vs Q E hr h => ?_)
  · obtain ⟨_, _, _, _, rfl, _⟩ := h
    rfl
  obtain ⟨l, c, pw, ws, rfl, P0, W, l5, q⟩ := h
  refine ⟨_, (pss_cons (ps_set (i := 2) sc_law_tall.nd rfl (Or.inl rfl) (pe_op op_add pe_int (C8.pe_c C_law_take hr (by decide) rfl (pa_cons (pv 0) (pa_cons pe_int pa_nil)))))
    (pss_cons (ps_set (i := 3) sc_law_tall.nd rfl (Or.inl rfl) (pe_tup (pa_cons pe_str (pa_cons (pe_tup (pa_cons pe_str (pa_cons (pe_ix ix_list (pv 1) pe_int (fun _ _ => rfl)) pa_nil))) (pa_cons (pe_tup (pa_cons pe_str (pa_cons pe_int pa_nil))) pa_nil)))))
    (pss_cons (ps_set (i := 4) sc_law_tall.nd rfl (Or.inl rfl) (C8.pe_c C_law_chain hr (by decide) rfl (pa_cons (pv 3) (pa_cons (pv 2) (pa_cons (pe_ix ix_list (pv 1) pe_int (fun _ _ => rfl)) pa_nil)))))
    (pss_cons (ps_set (i := 5) sc_law_tall.nd rfl (Or.inl rfl) (pe_op op_add (pe_op op_sub (pe_op op_sub pe_int (pv 2)) pe_int) (C8.pe_c C_law_take hr (by decide) rfl (pa_cons (pv 0) (pa_cons pe_int pa_nil)))))
    (pss_cons (ps_set (i := 6) sc_law_tall.nd rfl (Or.inl rfl) (C8.pe_c C_law_chain hr (by decide) rfl (pa_cons (pe_tup (pa_cons pe_str (pa_cons pe_int pa_nil))) (pa_cons (pv 5) (pa_cons (pe_ix ix_list (pv 1) pe_int (fun _ _ => rfl)) pa_nil)))))
    (pss_cons (ps_set (i := 7) sc_law_tall.nd rfl (Or.inl rfl) (C8.pe_c C_law_plain hr (by decide) rfl (pa_cons (pv 4) (pa_cons (pe_disp (pps_cons (pe_ix ix_list (pv 1) pe_int (fun _ _ => rfl)) (pv 6) pps_nil) (by rfl) (by rfl) (fun z => by cases z) (by decide)) pa_nil))))
    (pss_cons (ps_if (pt_cmpR op_gt (pe_op op_add (pe_op op_add (pv 2) pe_int) (pv 5)) pe_int (nomark _)) (pss_one (ps_ret (pe_cmpR op_isN (pv 7) pe_non (nomark _)))) pss_nil)
    (pss_cons (ps_set (i := 3) sc_law_tall.nd rfl (Or.inl rfl) (C8.pe_c C_law_below hr (by decide) rfl (pa_cons (pv 7) (pa_cons (pv 2) (pa_cons (pe_ix ix_list (pv 1) pe_int (fun _ _ => rfl)) pa_nil)))))
    (pss_cons (ps_if (PW.pt (pw_or (pt_not (pt_val (pe_callB call_isi (by rfl) T.z_isinstance (by decide +kernel) (pa_cons (pv 3) (pa_cons (pe_bltn (v := .ty "tuple") (by rfl) T.z_tuple (by decide +kernel) rfl) pa_nil))))) (pw_or (pt_cmpR op_ne (pe_callB call_len_seq (by rfl) T.z_len (by decide +kernel) (pa_cons (pv 3) pa_nil)) pe_int (nomark _)) (pw_or (pt_cmpR op_ne (pe_ix ix_tup (pv 3) pe_int (fun _ _ => rfl)) pe_str (nomark _)) (pw_or1 (pt_cmpR (PKE.op_neN (n := 190) (eqU hr)) (pe_ix ix_tup (pv 3) pe_int (fun _ _ => rfl)) (pe_tup (pa_cons pe_str (pa_cons pe_int pa_nil))) (nomark _))))))) (pss_one (ps_ret pe_bl)) pss_nil)
    (pss_one (ps_ret (pe_cmpR (PKE.op_eqN (n := 190) (eqU hr)) (C8.pe_c C_law_below hr (by decide) rfl (pa_cons (pe_ix ix_tup (pv 3) pe_int (fun _ _ => rfl)) (pa_cons (pv 5) (pa_cons (pe_ix ix_list (pv 1) pe_int (fun _ _ => rfl)) pa_nil)))) (pe_tup (pa_cons pe_str (pa_cons pe_int pa_nil))) (nomark _))))))))))))), ?_⟩
  obtain ⟨w0, w1, w2, w3, w4, rfl⟩ : ∃ a b c d e, ws = [a, b, c, d, e] := match ws, l5 with | [a, b, c, d, e], _ => ⟨a, b, c, d, e, rfl⟩
  refine vTake rfl P0 (by decide) (by decide) fun d0 H1 d00 d01 x1 => ?_
  have W1 := W.ext x1
  refine ⟨_, _, rfl, rfl, ?_⟩
  refine vLx rfl (SqL.of W1.at_) (atI_nat (j := 0) rfl) ?_
  refine ⟨small (by show 2 ≤ _; decide), fun p1 hp1 => ⟨small (by show 2 ≤ _; decide), fun p2 hp2 => ⟨small (by show 3 ≤ _; decide), fun p3 hp3 => ?_⟩⟩⟩
  have y1 := x1.new (o := .tup [.str "meta", .str w0]) P0 hp1
  have y2 := y1.new (o := .tup [.str "int", .int 1]) P0 hp2
  have y3 := y2.new (o := .tup [.str "plus", .ref p1, .ref p2]) P0 hp3
  have k1 : Dt K (upd H1 p1 (.tup [.str "meta", .str w0])) (.ref p1) (Tm.var w0).d := by unfold Tm.d; exact Dt.mk2 hp1 (.str _) (.str _)
  have k2 : Dt K (upd (upd H1 p1 (.tup [.str "meta", .str w0])) p2 (.tup [.str "int", .int 1])) (.ref p2) (Tm.int 1).d := by unfold Tm.d; exact Dt.mk2 hp2 (.str _) (.int _)
  have k3 : Dt K (upd (upd (upd H1 p1 (.tup [.str "meta", .str w0])) p2 (.tup [.str "int", .int 1])) p3 (.tup [.str "plus", .ref p1, .ref p2])) (.ref p3) (Tm.form .plus [.var w0, .int 1]).d := by
    unfold Tm.d
    rw [Tm.ds_map]
    exact Dt.mk3 hp3 (.str _) (k1.new hp2) k2
  have W3 := W1.ext ((Ext.refl x1.pool).new (o := .tup [.str "meta", .str w0]) x1.pool hp1 |>.new (o := .tup [.str "int", .int 1]) x1.pool hp2 |>.new (o := .tup [.str "plus", .ref p1, .ref p2]) x1.pool hp3)
  generalize upd (upd (upd H1 p1 (.tup [.str "meta", .str w0])) p2 (.tup [.str "int", .int 1])) p3 (.tup [.str "plus", .ref p1, .ref p2]) = H3 at y3 k3 W3 ⊢
  obtain ⟨n0, en0⟩ : ∃ n : Nat, 1 + d0 = n := ⟨(1 + d0).toNat, by omega⟩
  refine ⟨_, rfl, _, rfl, vLx rfl (SqL.of W3.at_) (atI_nat (j := 1) rfl) ?_⟩
  refine ⟨.ref p3, _, n0, w1, (by show [V.ref p3, V.int (1 + d0), V.str w1] = [V.ref p3, V.int (n0 : Nat), V.str w1]; rw [en0]), k3, by omega, fun H4 tv s4 k4 => ?_⟩
  have y4 : Ext l c H H4 := y3.trans (Same.ext s4 y3.pool)
  refine ⟨_, rfl, _, _, rfl, rfl, _, _, rfl, rfl, ?_⟩
  refine vTake rfl y4.pool (by decide) (by decide) fun d1 H5 d10 d11 x5 => ⟨_, _, rfl, rfl, ?_⟩
  obtain ⟨n1, en1⟩ : ∃ n : Nat, (199 : Int) - (1 + d0) - 3 + d1 = n := ⟨((199 : Int) - (1 + d0) - 3 + d1).toNat, by omega⟩
  have W5 := (W.ext y4).ext x5
  refine ⟨small (by show 2 ≤ _; decide), fun p6 hp6 => ?_⟩
  have x6 := x5.new (o := .tup [.str "int", .int 7]) y4.pool hp6
  have k6 : Dt K (upd H5 p6 (.tup [.str "int", .int 7])) (.ref p6) (Tm.int 7).d := by unfold Tm.d; exact Dt.mk2 hp6 (.str _) (.int _)
  have W6 := (W.ext y4).ext x6
  refine ⟨_, rfl, vLx rfl (SqL.of W6.at_) (atI_nat (j := 2) rfl) ?_⟩
  refine ⟨.ref p6, _, n1, w2, (by show [V.ref p6, V.int (199 - (1 + d0) - 3 + d1), V.str w2] = [V.ref p6, V.int (n1 : Nat), V.str w2]; rw [en1]), k6, by omega, fun H7 cv s7 k7 => ?_⟩
  have x7 := x6.trans (Same.ext s7 x6.pool)
  have k47 := k4.ext1 x7 y4.pool
  have W7 := (W.ext y4).ext x7
  refine ⟨_, rfl, vDisp1 rfl (SqL.of W7.at_) (atI_nat (j := 0) rfl) rfl fun D H8 hD s8 hD8 => ?_⟩
  have ef : (chainT w1 n0 (.form .plus [.var w0, .int 1])).fill [(w0, chainT w2 n1 (.int 7))] = chainT w1 n0 (.form .plus [chainT w2 n1 (.int 7), .int 1]) := by
    rw [chain_fill, fill_form, List.map_cons, List.map_cons, List.map_nil, fill1, fill_int]
  have es : (chainT w1 n0 (.form .plus [chainT w2 n1 (.int 7), .int 1])).size = n0 + n1 + 3 := by
    rw [chain_size, Tm.size_eq]
    show n0 + (1 + ((chainT w2 n1 (.int 7)).size + ((Tm.int 1).size + 0))) = _
    rw [chain_size, Tm.size_eq (.int 7), Tm.size_eq (.int 1)]
    show n0 + (1 + (n1 + (1 + 0) + (1 + 0 + 0))) = _
    omega
  have eh : (chainT w1 n0 (.form .plus [chainT w2 n1 (.int 7), .int 1])).ht = n0 + n1 + 2 := by
    rw [chain_ht, Tm.ht_eq]
    show n0 + (1 + max (chainT w2 n1 (.int 7)).ht (max (Tm.int 1).ht 0)) = _
    rw [chain_ht, Tm.ht_eq (.int 7), Tm.ht_eq (.int 1)]
    show n0 + (1 + max (n1 + (1 + 0)) (max (1 + 0) 0)) = _
    omega
  have et : (chainT w1 n0 (.form .plus [.var w0, .int 1])).size ≤ 1000 := by
    rw [chain_size, Tm.size_eq]
    show n0 + (1 + ((Tm.var w0).size + ((Tm.int 1).size + 0))) ≤ _
    rw [Tm.size_eq (.var w0), Tm.size_eq (.int 1)]
    show n0 + (1 + (1 + 0 + (1 + 0 + 0))) ≤ _
    omega
  have W8 := W7.ext (Same.ext s8 x7.pool)
  refine ⟨tv, D, [(.inr w0, cv)], _, [(w0, chainT w2 n1 (.int 7))], rfl, k47.same s8, hD8, bind1 (k7.same s8), by rw [ef, es]; omega, by omega, fun H9 v s9 h1 h2 dv => ?_, fun H9 s9 hh => ?_⟩
  · rw [ef] at h1 h2 dv
    rw [eh] at h2
    have W9 := W8.ext (Same.ext s9 (Same.ext s8 x7.pool).pool)
    have low : (200 : Int) < 1 + d0 + 1 + (199 - (1 + d0) - 3 + d1) → False := fun z => by omega
    refine ⟨_, rfl, _, _, rfl, rfl, _, rfl, _, _, rfl, rfl, _, _, rfl, rfl, _, rfl, ite2 (fun z => (low (of_decide_eq_true z)).elim) (fun _ => ?_)⟩
    refine ⟨_, rfl, _, rfl, vLx rfl (SqL.of W9.at_) (atI_nat (j := 1) rfl) ?_⟩
    refine ⟨v, .form .plus [chainT w2 n1 (.int 7), .int 1], n0, w1, (by show [v, V.int (1 + d0), V.str w1] = [v, V.int (n0 : Nat), V.str w1]; rw [en0]), dv, by omega, fun H10 iv s10 di => ?_⟩
    have s510 := s8.trans (s9.trans s10)
    have W10 := W9.ext (Same.ext s10 (Same.ext s9 (Same.ext s8 x7.pool).pool).pool)
    unfold Tm.d at di
    rw [Tm.ds_map] at di
    obtain ⟨a, u1, u2, u3, rfl, hs, j1, j2, j3⟩ := Dt.t3 di
    obtain rfl := j1.s
    refine vIsi rfl (ty_tup hs) (b := true) (by decide +kernel) ⟨_, rfl, iteF ?_⟩
    refine ⟨_, rfl, a, _, rfl, .inr hs, rfl, _, rfl, neF rfl ?_⟩
    refine vTx rfl hs (atI_nat (j := 0) rfl) ⟨rfl, _, rfl, nF rfl ?_⟩
    have two : ∀ n : Int, ((Tm.int n).d.canLay0 = true ∧ (Tm.int n).d.depth ≤ 190) ∧ PyData.eqv (Tm.int n).d (Tm.int n).d = true := fun n => by
      have h1 : (Tm.int n).d.canLay0 = true := lay_tm (.mk trivial fun k hk => nomatch hk)
      exact ⟨⟨h1, by unfold Tm.d; show max 0 (max 0 0) + 1 ≤ 190; decide⟩, SeqAt.eqv_refl _ h1⟩
    refine vTx rfl hs (atI_nat (j := 2) rfl) ⟨small (by show 2 ≤ _; decide), fun pp hpp => ?_⟩
    have dpp : Dt K (upd H10 pp (.tup [.str "int", .int 1])) (.ref pp) (Tm.int 1).d := by unfold Tm.d; exact Dt.mk2 hpp (.str _) (.int _)
    refine ⟨(Tm.int 1).d, (Tm.int 1).d, Dt.dp _ _ (j3.same (same_new hpp)), Dt.dp _ _ dpp, (two 1).1.1, (two 1).1.1, .inl (two 1).1.2, _, rfl, ?_⟩
    rw [(two 1).2]
    refine iteF ?_
    have W11 := W10.ext (Same.ext (same_new (o := .tup [.str "int", .int 1]) hpp) (Same.ext s10 (Same.ext s9 (Same.ext s8 x7.pool).pool).pool).pool)
    refine vTx rfl (Same.seqT (same_new hpp) hs) (atI_nat (j := 1) rfl) ⟨_, rfl, vLx rfl (SqL.of W11.at_) (atI_nat (j := 2) rfl) ?_⟩
    refine ⟨u2, .int 7, n1, w2, (by show [u2, V.int (199 - (1 + d0) - 3 + d1), V.str w2] = [u2, V.int (n1 : Nat), V.str w2]; rw [en1]), j2.same (same_new hpp), by omega, fun H12 v12 s12 d12 => ⟨small (by show 2 ≤ _; decide), fun pq hpq => ?_⟩⟩
    have dpq : Dt K (upd H12 pq (.tup [.str "int", .int 7])) (.ref pq) (Tm.int 7).d := by unfold Tm.d; exact Dt.mk2 hpq (.str _) (.int _)
    refine ⟨(Tm.int 7).d, (Tm.int 7).d, Dt.dp _ _ (d12.same (same_new hpq)), Dt.dp _ _ dpq, (two 7).1.1, (two 7).1.1, .inl (two 7).1.2, ?_⟩
    rw [(two 7).2]
    exact q _
  · rw [ef, es, eh] at hh
    have low : ¬ (200 : Int) < 1 + d0 + 1 + (199 - (1 + d0) - 3 + d1) → False := fun z => by omega
    refine ⟨_, rfl, _, _, rfl, rfl, _, rfl, _, _, rfl, rfl, _, _, rfl, rfl, _, rfl, ite2 (fun z => ?_) (fun z => (low fun y => z (decide_eq_true y)).elim)⟩
    refine ⟨_, rfl, rfl, ?_⟩
    rw [decide_eq_true rfl]
    exact q _
end
end PK
namespace PK
open PySem L2
/-! the term at the edge -/
theorem Wl.same {H H' : Hp} {l p : Addr} {ws : List Str} (N : Wl H l p ws) (s : Same H H') : Wl H' l p ws := ⟨s _ _ N.at_, N.ne, N.le, N.wd⟩
theorem log_small {i : Nat} : i < 93 → ((0 : Int) + (i : Int)).natAbs.log2 < 1920 := by revert i; decide +kernel
def eN (n : Nat) : Str := ("e" : Str) ++ (toString ((0 : Int) + (n : Int)) : Str)
theorem eN_sok : ∀ n, n < 93 → SOk (eN n) ∧ (eN n).length ≤ 3 := by decide +kernel
def smallT : Tm := .node "c" [.int 1, .addr 2]
def innT (b : Tm) (ys : List Str) : Tm := .map ((ys.take 14).map fun r => (r, b))
def edgT (b : Tm) (ys : List Str) (mo : Nat) : Tm := .map (ys.map (fun r => (r, innT b ys)) ++ List.replicate mo (("f" : Str), Tm.int 0))
theorem sum_same {α : Type} (f : α → Nat) (n : Nat) : ∀ l : List α, (∀ x ∈ l, f x = n) → (l.map f).sum = l.length * n
  | [], _ => by simp
  | a :: l, h => by
    rw [List.map_cons, List.sum_cons, h a List.mem_cons_self, sum_same f n l fun x hx => h x (List.mem_cons_of_mem _ hx), List.length_cons, Nat.succ_mul]
    omega
theorem inn_size {b : Tm} {ys : List Str} (h : ys.length = 93) : (innT b ys).size = 1 + 14 * b.size := by
  unfold innT
  rw [size_map, sum_same (fun e : Str × Tm => e.2.size) b.size _ fun x hx => by obtain ⟨r, _, rfl⟩ := List.mem_map.mp hx; rfl]
  rw [List.length_map, List.length_take, h]; rfl
theorem edg_size {b : Tm} {ys : List Str} {mo : Nat} (h : ys.length = 93) : (edgT b ys mo).size = 1 + (93 * (1 + 14 * b.size) + mo) := by
  unfold edgT
  have e1 : (Tm.int 0).size = 1 := by rw [Tm.size_eq]; rfl
  rw [size_map, List.map_append, List.sum_append, sum_same (fun e : Str × Tm => e.2.size) (1 + 14 * b.size) (ys.map _) fun x hx => by obtain ⟨r, _, rfl⟩ := List.mem_map.mp hx; exact inn_size h]
  rw [sum_same (fun e : Str × Tm => e.2.size) 1 (List.replicate mo _) fun x hx => by rw [List.eq_of_mem_replicate hx]; exact e1]
  rw [List.length_replicate, List.length_map, h]
  omega
theorem inn_fill {b : Tm} {ys : List Str} {U : Tab} : (innT b ys).fill U = innT (b.fill U) ys := by
  unfold innT
  rw [fill_map, List.map_map]; rfl
theorem edg_fill {b : Tm} {ys : List Str} {mo : Nat} {U : Tab} : (edgT b ys mo).fill U = edgT (b.fill U) ys mo := by
  unfold edgT
  rw [fill_map, List.map_append, List.map_map, List.map_replicate]
  dsimp only
  rw [fill_int]
  congr 2
  refine List.map_congr_left fun r _ => ?_
  show (r, (innT b ys).fill U) = _
  rw [inn_fill]
theorem edg_ht {b : Tm} {ys : List Str} {mo : Nat} (hb : b.ht ≤ 2) : (edgT b ys mo).ht ≤ 4 := ht_map (n := 3) fun e he => by
  rcases List.mem_append.mp he with h | h
  · obtain ⟨r, _, rfl⟩ := List.mem_map.mp h
    exact ht_map (n := 2) fun e he => by
      obtain ⟨r, _, rfl⟩ := List.mem_map.mp he
      exact hb
  · rw [List.eq_of_mem_replicate h, Tm.ht_eq]
    show 1 + 0 ≤ 3
    omega
theorem edg_al {b : Tm} {ys : List Str} {mo : Nat} (hb : Al lN b) (hy : ∀ z ∈ ys, SOk z) : Al lN (edgT b ys mo) := by
  refine .mk (fun e he => ?_) fun k hk => ?_
  · rcases List.mem_append.mp he with h | h
    · obtain ⟨r, hr, rfl⟩ := List.mem_map.mp h
      exact hy r hr
    · rw [List.eq_of_mem_replicate h]
      exact (by decide +kernel : SOk "f")
  · obtain ⟨e, he, rfl⟩ := List.mem_map.mp hk
    rcases List.mem_append.mp he with h | h
    · obtain ⟨r, hr, rfl⟩ := List.mem_map.mp h
      refine .mk (fun e he => ?_) fun k hk => ?_
      · obtain ⟨r, hr, rfl⟩ := List.mem_map.mp he
        exact hy r (List.mem_of_mem_take hr)
      · obtain ⟨e, he, rfl⟩ := List.mem_map.mp hk
        obtain ⟨r, hr, rfl⟩ := List.mem_map.mp he
        exact hb
    · rw [List.eq_of_mem_replicate h]
      exact .mk trivial fun k hk => nomatch hk
theorem small_facts : smallT.size = 3 ∧ smallT.ht ≤ 2 ∧ Al lN smallT := by
  have e1 : ∀ n, (Tm.int n).size = 1 := fun n => by rw [Tm.size_eq]; rfl
  have e2 : ∀ n, (Tm.addr n).size = 1 := fun n => by rw [Tm.size_eq]; rfl
  refine ⟨?_, ?_, ?_⟩
  · rw [smallT, Tm.size_eq]
    show 1 + ((Tm.int 1).size + ((Tm.addr 2).size + 0)) = 3
    rw [e1, e2]
  · refine Tm.ht_le (n := 1) fun k hk => ?_
    rcases List.mem_cons.mp hk with rfl | hk
    · rw [Tm.ht_eq]; exact Nat.le_refl 1
    · rw [List.mem_singleton.mp hk, Tm.ht_eq]; exact Nat.le_refl 1
  · refine .mk (show SOk "c" by decide +kernel) fun k hk => ?_
    rcases List.mem_cons.mp hk with rfl | hk
    · exact .mk trivial fun k hk => nomatch hk
    · rw [List.mem_singleton.mp hk]; exact .mk trivial fun k hk => nomatch hk
theorem dt_rep {K : PySem.W.Frag} {H : Hp} {v : V} {d : PyData} (h : Dt K H v d) : ∀ n, DtAll K H (List.replicate n v) (List.replicate n d)
  | 0 => .nil
  | n + 1 => .cons h (dt_rep h n)
theorem rep_flat {α : Type} (v : α) : ∀ n : Nat, (List.replicate n [v]).flatten = List.replicate n v
  | 0 => rfl
  | n + 1 => by rw [List.replicate_succ, List.flatten_cons, rep_flat v n]; rfl
theorem small_new {K : PySem.W.Frag} {H : Hp} {a b c d : Addr} (h1 : H a = none) (h2 : (upd H a (.tup [.str "int", .int 1])) b = none) (h3 : (upd (upd H a (.tup [.str "int", .int 1])) b (.tup [.str "addr", .int 2])) c = none)
    (h4 : (upd (upd (upd H a (.tup [.str "int", .int 1])) b (.tup [.str "addr", .int 2])) c (.tup [.ref a, .ref b])) d = none) :
    Same H (upd (upd (upd (upd H a (.tup [.str "int", .int 1])) b (.tup [.str "addr", .int 2])) c (.tup [.ref a, .ref b])) d (.tup [.str "node", .str "c", .ref c])) ∧ Dt K (upd (upd (upd (upd H a (.tup [.str "int", .int 1])) b (.tup [.str "addr", .int 2])) c (.tup [.ref a, .ref b])) d (.tup [.str "node", .str "c", .ref c])) (.ref d) smallT.d := by
  refine ⟨(((same_new h1).trans (same_new h2)).trans (same_new h3)).trans (same_new h4), ?_⟩
  have ka : Dt K (upd H a (.tup [.str "int", .int 1])) (.ref a) (Tm.int 1).d := by unfold Tm.d; exact Dt.mk2 h1 (.str _) (.int _)
  have kb : Dt K (upd (upd H a (.tup [.str "int", .int 1])) b (.tup [.str "addr", .int 2])) (.ref b) (Tm.addr 2).d := by unfold Tm.d; exact Dt.mk2 h2 (.str _) (.int _)
  have kc := Dt.mk2 h3 (ka.new h2) kb
  unfold smallT Tm.d
  rw [Tm.ds_map]
  exact Dt.mk3 h4 (.str _) (.str _) kc
def spEdge (K : PySem.W.Frag) : Sp := fun vs H Q _ => ∃ (l pw : Addr) (ws : List Str) (mo : Nat), vs = [.int (mo : Nat), .ref pw] ∧ mo ≤ 1 ∧ Wl H l pw ws ∧ ws.length = 5 ∧ ∀ H' : Hp, Q (.bl true) H'
section
variable {P : Program} {w : World} {K : PySem.W.Frag} {mg : Str → Option Value} {base : Heap} {aF CL CP : Addr}
abbrev s_law_edge : Stmt := topS 32
theorem sc_law_edge : FnScope ["more", "words", "rows", "inner", "entries", "small", "term", "due", "many", "k", "row"] ["more", "words"] (defScope s_law_edge) := ⟨rfl, rfl, rfl, by decide +kernel, rfl, by decide +kernel, by decide +kernel⟩
-- slots: 0:more 1:words(cell) 2:rows 3:inner(cell) 4:entries 5:small 6:term 7:due 8:many 9:k(comp) 10:row(comp)
theorem ok_edge {f : Addr} {fd : FuncData} (F : Fun K "_law_edge" "_law_edge" s_law_edge f fd) (T : TxtL K mg CL CP) (C_law_fill : C8.Cal P w K mg base 60 "_law_fill" (spFl K 60) []) (C_law_count : C8.Cal P w K mg base 100 "_law_count" (spCt K 100) []) (C_law_limited : C8.Cal P w K mg base 5 "_law_limited" (spLim K) []) (C_law_plain : C8.Cal P w K mg base 5 "_law_plain" (spPlain K) []) : FnOk P w K mg base CX0 101 f fd ["more", "words"] (spEdge K) := by
  refine F.ok sc_law_edge (fun vs H Q E h => ?_) (fun cdv A outer s H vs Q E hr h => ?_)
  · obtain ⟨_, _, _, _, rfl, _⟩ := h
    rfl
  obtain ⟨l, pw, ws, mo, rfl, hmo, W, l5, q⟩ := h
  refine ⟨_, (pss_cons (ps_set (i := 2) sc_law_edge.nd rfl (Or.inl rfl) (pe_callB PKS.cr_sortedSA (by rfl) T.z_sorted (by decide +kernel) (pa_cons (pe_lc (own := [("k", 9)]) (g := (gName 9)) (tt := tYes) (by rfl) sc_law_edge.nd (pi_range1 (by rfl) T.z_range (pa_cons pe_int pa_nil)) (blkOk_by (N := ["more", "words", "rows", "inner", "entries", "small", "term", "due", "many", "k", "row"]) (sc := defScope s_law_edge) (by decide +kernel)) (fun _ _ _ _ _ => (pg_name (i := 9) sc_law_edge.nd rfl (Or.inl rfl))) (fun _ _ _ _ _ => pts_nil) (fun _ _ _ _ _ => (pe_op op_add_str pe_str (pe_callTy call_str_int (by rfl) T.z_str (by decide +kernel) (pa_cons (pv 9) pa_nil))))) pa_nil)))
    (pss_cons (ps_set (i := 3) sc_law_edge.nd rfl (Or.inr rfl) (pe_tup (pa_cons pe_str (pa_cons (pe_callTy call_tuple_of (by rfl) T.z_tuple (by decide +kernel) (pa_cons (pe_lc (own := [("row", 10)]) (g := (gName 10)) (tt := tYes) (by rfl) sc_law_edge.nd (pi_list (pe_slice sl_list (pv 2) po_none (po_some pe_int))) (blkOk_by (N := ["more", "words", "rows", "inner", "entries", "small", "term", "due", "many", "k", "row"]) (sc := defScope s_law_edge) (by decide +kernel)) (fun _ _ _ _ _ => (pg_name (i := 10) sc_law_edge.nd rfl (Or.inl rfl))) (fun _ _ _ _ _ => pts_nil) (fun _ _ _ _ _ => (pe_tup (pa_cons (pv 10) (pa_cons (pe_tup (pa_cons pe_str (pa_cons (pe_ix (r := rIxL K) ix_list (pv 1) pe_int (fun _ _ => rfl)) pa_nil))) pa_nil))))) pa_nil)) pa_nil))))
    (pss_cons (ps_set (i := 4) sc_law_edge.nd rfl (Or.inl rfl) (pe_op op_cat (pe_lc (own := [("row", 10)]) (g := (gName 10)) (tt := tYes) (by rfl) sc_law_edge.nd (pi_list (pv 2)) (blkOk_by (N := ["more", "words", "rows", "inner", "entries", "small", "term", "due", "many", "k", "row"]) (sc := defScope s_law_edge) (by decide +kernel)) (fun _ _ _ _ _ => (pg_name (i := 10) sc_law_edge.nd rfl (Or.inl rfl))) (fun _ _ _ _ _ => pts_nil) (fun _ _ _ _ _ => (pe_tup (pa_cons (pv 10) (pa_cons (pv 3) pa_nil))))) (pe_op op_rep (pe_lst (pa_cons (pe_tup (pa_cons pe_str (pa_cons (pe_tup (pa_cons pe_str (pa_cons pe_int pa_nil))) pa_nil))) pa_nil)) (pv 0))))
    (pss_cons (ps_set (i := 5) sc_law_edge.nd rfl (Or.inl rfl) (pe_tup (pa_cons pe_str (pa_cons pe_str (pa_cons (pe_tup (pa_cons (pe_tup (pa_cons pe_str (pa_cons pe_int pa_nil))) (pa_cons (pe_tup (pa_cons pe_str (pa_cons pe_int pa_nil))) pa_nil))) pa_nil)))))
    (pss_cons (ps_set (i := 6) sc_law_edge.nd rfl (Or.inl rfl) (pe_tup (pa_cons pe_str (pa_cons (pe_callTy call_tuple_of (by rfl) T.z_tuple (by decide +kernel) (pa_cons (pv 4) pa_nil)) pa_nil))))
    (pss_cons (ps_set (i := 7) sc_law_edge.nd rfl (Or.inl rfl) (C8.pe_c C_law_fill hr (by decide) rfl (pa_cons (pv 6) (pa_cons (pe_disp (pps_cons (pe_ix ix_list (pv 1) pe_int (fun _ _ => rfl)) (pv 5) pps_nil) (by rfl) (by rfl) (fun z => by cases z) (by decide)) pa_nil))))
    (pss_cons (ps_set (i := 8) sc_law_edge.nd rfl (Or.inl rfl) (C8.pe_c C_law_count hr (by decide) rfl (pa_cons (pv 7) pa_nil)))
    (pss_cons (ps_if (PW.pt (pw_or (pt_cmpR op_ne (pv 8) (pe_op op_add pe_int (pv 0)) (nomark _)) (pw_or1 (pt_cmpR (PKE.op_neN (n := 190) (eqU hr)) (C8.pe_c C_law_limited hr (by decide) rfl (pa_cons (pv 6) (pa_cons (pe_disp (pps_cons (pe_ix ix_list (pv 1) pe_int (fun _ _ => rfl)) (pv 5) pps_nil) (by rfl) (by rfl) (fun z => by cases z) (by decide)) (pa_cons (pv 8) pa_nil)))) (pv 7) (nomark _))))) (pss_one (ps_ret pe_bl)) pss_nil)
    (pss_one (ps_ret (pe_cmpR (PKE.op_eqN (n := 190) (eqU hr)) (C8.pe_c C_law_plain hr (by decide) rfl (pa_cons (pv 6) (pa_cons (pe_disp (pps_cons (pe_ix ix_list (pv 1) pe_int (fun _ _ => rfl)) (pv 5) pps_nil) (by rfl) (by rfl) (fun z => by cases z) (by decide)) pa_nil))) (pe_ix ix_tup (pe_tup (pa_cons (pv 7) (pa_cons pe_non pa_nil))) (pv 0) (fun _ _ => rfl)) (nomark _)))))))))))), ?_⟩
  obtain ⟨w0, w1, w2, w3, w4, rfl⟩ : ∃ a b c d e, ws = [a, b, c, d, e] := match ws, l5 with | [a, b, c, d, e], _ => ⟨a, b, c, d, e, rfl⟩
  have wa : SOk "e" := by decide +kernel
  refine ⟨93, rfl, by decide, by decide, fun D1 hD1 => lcS (K := K) (walk_range (lo := 0) (n := (93 : Int).toNat)) hD1 (by decide) (fun ds => ∃ ss : List Str, ds = ss.map PyData.str ∧ ∀ z ∈ ss, SOk z) ⟨[], rfl, fun _ h => absurd h List.not_mem_nil⟩ (fun _ _ => trivial) ?_ ?_⟩
  · rintro i x H7 H7 ds R' hi s7 ⟨rfl, rfl⟩ ⟨ss, rfl, hss⟩ len r
    obtain ⟨e1, e2⟩ := eN_sok i (by have : i < 93 := hi; omega)
    have lb : ("e" : Str).length + (toString ((0 : Int) + (i : Int)) : Str).length ≤ sizeLine := by
      have : (eN i).length = ("e" : Str).length + (toString ((0 : Int) + (i : Int)) : Str).length := Str.length_append ..
      exact small (by omega)
    refine ⟨rfl, _, rfl, _, rfl, log_small (by have : i < 93 := hi; omega), _, _, rfl, rfl, lb, ?_⟩
    refine r (.str (eN i)) _ _ (Same.refl _) (.str _) ⟨ss ++ [eN i], by rw [List.map_append]; rfl, fun z hz => ?_⟩
    rcases List.mem_append.mp hz with h | h
    · exact hss z h
    · rw [List.mem_singleton.mp h]; exact e1
  rintro H1 vs1 ds1 s1 hv1 da1 len1 ⟨ss, rfl, hss⟩
  obtain rfl : vs1 = ss.map V.str := da1.strsE
  rw [List.length_map] at len1
  have len1 : ss.length = 93 := len1
  refine ⟨D1, ss, rfl, SqL.of hv1, small (by omega), fun ys p2 per _ hp2 => ?_⟩
  have s2 := s1.trans (same_new (o := .lst (ys.map V.str)) hp2)
  have hys : ∀ z ∈ ys, SOk z := fun z hz => hss z (per.mem_iff.mp hz)
  have ly : ys.length = 93 := by rw [per.length_eq]; exact len1
  have hp2' : (upd H1 p2 (.lst (ys.map V.str))) p2 = some (.lst (ys.map V.str)) := upd_same
  generalize upd H1 p2 (.lst (ys.map V.str)) = H2 at s2 hp2' ⊢
  clear hv1 da1 len1 hss per s1 hp2 hD1
  have W2 := W.same s2
  refine ⟨_, rfl, _, rfl, p2, _, rfl, SqL.of hp2', fun p3 hp3 => ?_⟩
  have c14 : cutV (ys.map V.str) none (some 14) = (ys.take 14).map V.str := by
    rw [List.map_take]
    exact cut_take (ys.map V.str) 14 (by rw [List.length_map]; omega)
  rw [c14]
  have s3 : Same H2 (upd H2 p3 (.lst ((ys.take 14).map V.str))) := same_new hp3
  have l14 : (ys.take 14).length = 14 := by rw [List.length_take]; omega
  refine ⟨p3, rfl, ⟨_, SqL.of upd_same⟩, fun D4 hD4 => lcS (K := K) (walk_list (xs := (ys.take 14).map V.str)) hD4 (by rw [List.length_map]; omega) (fun ds => ds = ((ys.take 14).take ds.length).map fun r => Tm.ent (r, .var w0)) rfl (fun H' s => Same.seq s (SqL.of upd_same)) ?_ ?_⟩
  · rintro i x H7 H7 ds R' hi s7 ⟨rfl, gx⟩ jd len r
    rw [List.getElem?_map] at gx
    cases e0 : (ys.take 14)[i]? with
    | none => rw [e0] at gx; cases gx
    | some z =>
    rw [e0] at gx
    cases gx
    have W7 := (W2.same s3).same s7
    refine ⟨rfl, _, rfl, vLx rfl (SqL.of W7.at_) (atI_nat (j := 0) rfl) ⟨small (by show 2 ≤ _; decide), fun p8 hp8 => ⟨small (by show 2 ≤ _; decide), fun p9 hp9 => ?_⟩⟩⟩
    have k8 : Dt K (upd H7 p8 (.tup [.str "meta", .str w0])) (.ref p8) (Tm.var w0).d := by unfold Tm.d; exact Dt.mk2 hp8 (.str _) (.str _)
    have k9 : Dt K (upd (upd H7 p8 (.tup [.str "meta", .str w0])) p9 (.tup [.str z, .ref p8])) (.ref p9) (Tm.ent (z, .var w0)) := Dt.mk2 hp9 (.str z) k8
    refine r _ _ _ ((same_new hp8).trans (same_new hp9)) k9 ?_
    rw [List.length_append, len, show i + [Tm.ent (z, .var w0)].length = i + 1 from rfl, List.take_add_one, e0, List.map_append]
    rw [len] at jd
    rw [← jd]; rfl
  rintro H5 vs5 ds5 s5 hv5 da5 len5 jd
  rw [len5, List.length_map, List.take_length] at jd
  subst jd
  refine ⟨D4, _, rfl, .inl ⟨SqL.of hv5, fun p6 hp6 => ⟨small (by show 2 ≤ _; decide), fun p7 hp7 => ?_⟩⟩⟩
  have k7 : Dt K (upd (upd H5 p6 (.tup vs5)) p7 (.tup [.str "map", .ref p6])) (.ref p7) (innT (.var w0) ys).d := by
    refine dmap (Dt.mk2 hp7 (.str "map") (.tup (SqT.of upd_same) ?_))
    rw [List.map_map]
    exact da5.same (same_new hp6)
  have s7 : Same H2 (upd (upd H5 p6 (.tup vs5)) p7 (.tup [.str "map", .ref p6])) := ((s3.trans s5).trans (same_new hp6)).trans (same_new hp7)
  generalize upd (upd H5 p6 (.tup vs5)) p7 (.tup [.str "map", .ref p6]) = H7 at k7 s7 ⊢
  clear da5 hv5 s5 hD4 len5 hp6 hp7 s3 hp3 c14
  have hr7 := s7 _ _ hp2'
  refine ⟨_, rfl, p2, rfl, ⟨_, SqL.of hr7⟩, fun D8 hD8 => lcS (K := K) (walk_list (xs := ys.map V.str)) hD8 (by rw [List.length_map]; omega) (fun ds => ds = (ys.take ds.length).map fun r => Tm.ent (r, innT (.var w0) ys)) rfl (fun H' s => Same.seq s (SqL.of hr7)) ?_ ?_⟩
  · rintro i x H9 H9 ds R' hi s9 ⟨rfl, gx⟩ jd len r
    rw [List.getElem?_map] at gx
    cases e0 : ys[i]? with
    | none => rw [e0] at gx; cases gx
    | some z =>
    rw [e0] at gx
    cases gx
    refine ⟨rfl, _, rfl, _, rfl, small (by show 2 ≤ _; decide), fun p9 hp9 => ?_⟩
    have k9 : Dt K (upd H9 p9 (.tup [.str z, .ref p7])) (.ref p9) (Tm.ent (z, innT (.var w0) ys)) := Dt.mk2 hp9 (.str z) (k7.same s9)
    refine r _ _ _ (same_new hp9) k9 ?_
    rw [List.length_append, len, show i + [Tm.ent (z, innT (.var w0) ys)].length = i + 1 from rfl, List.take_add_one, e0, List.map_append]
    rw [len] at jd
    rw [← jd]; rfl
  rintro H9 vs9 ds9 s9 hv9 da9 len9 jd
  rw [len9, List.length_map, List.take_length] at jd
  subst jd
  have lv9 : vs9.length = 93 := by rw [da9.lenD, len9, List.length_map]; exact ly
  refine ⟨small (by show 2 ≤ _; decide), fun pa hpa => ⟨small (by show 2 ≤ _; decide), fun pb hpb => ⟨small (by show 1 ≤ _; decide), fun pc hpc => ?_⟩⟩⟩
  have ka : Dt K (upd H9 pa (.tup [.str "int", .int 0])) (.ref pa) (Tm.int 0).d := by unfold Tm.d; exact Dt.mk2 hpa (.str _) (.int _)
  have kb : Dt K (upd (upd H9 pa (.tup [.str "int", .int 0])) pb (.tup [.str "f", .ref pa])) (.ref pb) (Tm.ent ("f", .int 0)) := Dt.mk2 hpb (.str _) ka
  have sc : Same H9 (upd (upd (upd H9 pa (.tup [.str "int", .int 0])) pb (.tup [.str "f", .ref pa])) pc (.lst [.ref pb])) := ((same_new hpa).trans (same_new hpb)).trans (same_new hpc)
  have kc := kb.same (same_new (o := .lst [.ref pb]) hpc)
  have hc : (upd (upd (upd H9 pa (.tup [.str "int", .int 0])) pb (.tup [.str "f", .ref pa])) pc (.lst [.ref pb])) pc = some (.lst [.ref pb]) := upd_same
  generalize upd (upd (upd H9 pa (.tup [.str "int", .int 0])) pb (.tup [.str "f", .ref pa])) pc (.lst [.ref pb]) = Hc at sc kc hc ⊢
  refine ⟨_, rfl, pc, ((mo : Nat) : Int), [.ref pb], rfl, rfl, hc, by omega, by omega, small (by show 1 * ((mo : Nat) : Int).toNat ≤ _; omega), fun pd hpd => ?_⟩
  rw [show ((mo : Nat) : Int).toNat = mo by omega, rep_flat]
  have sd : Same H9 (upd Hc pd (.lst (List.replicate mo (.ref pb)))) := sc.trans (same_new hpd)
  refine ⟨D8, pd, vs9, List.replicate mo (.ref pb), rfl, rfl, sd _ _ hv9, upd_same, small (by rw [List.length_replicate]; omega), fun pe hpe => ?_⟩
  have se := sd.trans (same_new (o := .lst (vs9 ++ List.replicate mo (.ref pb))) hpe)
  have kd : DtAll K (upd (upd Hc pd (.lst (List.replicate mo (.ref pb)))) pe (.lst (vs9 ++ List.replicate mo (.ref pb)))) (vs9 ++ List.replicate mo (.ref pb)) ((ys.map (fun r => ((r, innT (.var w0) ys) : Str × Tm)) ++ List.replicate mo (("f" : Str), Tm.int 0)).map Tm.ent) := by
    rw [List.map_append, List.map_replicate, List.map_map]
    exact (da9.same se).append (dt_rep ((kc.same (same_new hpd)).same (same_new hpe)) mo)
  have he : (upd (upd Hc pd (.lst (List.replicate mo (.ref pb)))) pe (.lst (vs9 ++ List.replicate mo (.ref pb)))) pe = some (.lst (vs9 ++ List.replicate mo (.ref pb))) := upd_same
  have sf := (s7.trans s9).trans se
  generalize upd (upd Hc pd (.lst (List.replicate mo (.ref pb)))) pe (.lst (vs9 ++ List.replicate mo (.ref pb))) = He at se kd he sf ⊢
  clear sc kc hc sd da9 hv9 s9 hD8 hpe hpd hpc ka kb
  refine ⟨small (by show 2 ≤ _; decide), fun pf hpf => ⟨small (by show 2 ≤ _; decide), fun pg hpg => ⟨small (by show 2 ≤ _; decide), fun ph hph => ⟨small (by show 3 ≤ _; decide), fun pi hpi => ?_⟩⟩⟩⟩
  obtain ⟨sg, ks⟩ := small_new (K := K) hpf hpg hph hpi
  generalize upd (upd (upd (upd He pf (.tup [.str "int", .int 1])) pg (.tup [.str "addr", .int 2])) ph (.tup [.ref pf, .ref pg])) pi (.tup [.str "node", .str "c", .ref ph]) = Hg at sg ks ⊢
  refine ⟨_, rfl, pe, _, rfl, .inl ⟨SqL.of (sg _ _ he), fun pj hpj => ⟨small (by show 2 ≤ _; decide), fun pk hpk => ?_⟩⟩⟩
  have sk : Same Hg (upd (upd Hg pj (.tup (vs9 ++ List.replicate mo (.ref pb)))) pk (.tup [.str "map", .ref pj])) := (same_new hpj).trans (same_new hpk)
  have kt : Dt K (upd (upd Hg pj (.tup (vs9 ++ List.replicate mo (.ref pb)))) pk (.tup [.str "map", .ref pj])) (.ref pk) (edgT (.var w0) ys mo).d :=
    dmap (Dt.mk2 hpk (.str "map") (.tup (SqT.of upd_same) ((kd.same sg).same (same_new hpj))))
  have ks2 := ks.same sk
  have W3 := W2.same ((sf.trans sg).trans sk)
  generalize upd (upd Hg pj (.tup (vs9 ++ List.replicate mo (.ref pb)))) pk (.tup [.str "map", .ref pj]) = Hk at kt ks2 W3 ⊢
  clear kd he sf sk ks sg se hpf hpg hph hpi hpj hpk
  obtain ⟨z1, z2, z3⟩ := small_facts
  have ef : (edgT (.var w0) ys mo).fill [(w0, smallT)] = edgT smallT ys mo := by rw [edg_fill, fill1]
  have v1 : (Tm.var w0).size = 1 := by rw [Tm.size_eq]; rfl
  have v2 : (Tm.var w0).ht ≤ 2 := by rw [Tm.ht_eq]; show 1 + 0 ≤ 2; omega
  have zt : (edgT (.var w0) ys mo).size ≤ 2000 := by rw [edg_size ly, v1]; omega
  have zs : (edgT smallT ys mo).size = 4000 + mo := by rw [edg_size ly, z1]; omega
  have zh := edg_ht (ys := ys) (mo := mo) v2
  have zg := edg_ht (ys := ys) (mo := mo) z2
  have la := lay_tm (edg_al (mo := mo) z3 hys)
  have dp : (edgT smallT ys mo).d.depth ≤ 190 := by have := tm_depthF (t := edgT smallT ys mo); omega
  refine ⟨_, rfl, vDisp1 rfl (SqL.of W3.at_) (atI_nat (j := 0) rfl) rfl fun D H1 hD s1 hD1 => ?_⟩
  refine ⟨.ref pk, D, _, edgT (.var w0) ys mo, [(w0, smallT)], rfl, kt.same s1, hD1, bind1 (ks2.same s1), by omega, by omega, fun H3 dv s3 kdv => ?_⟩
  rw [ef] at kdv
  refine ⟨_, rfl, dv, edgT smallT ys mo, rfl, kdv, by omega, by omega, fun H4 s4 => ?_⟩
  have W4 := W3.same ((s1.trans s3).trans s4)
  refine ⟨_, rfl, _, rfl, _, _, rfl, rfl, rfl, _, rfl, neF (by show V.int ((edgT smallT ys mo).size : Nat) = V.int (4000 + (mo : Nat)); rw [zs]; exact congrArg V.int (by omega)) ?_⟩
  refine ⟨_, rfl, vDisp1 rfl (SqL.of W4.at_) (atI_nat (j := 0) rfl) rfl fun D5 H5 hD5 s5 hD5' => ?_⟩
  have s15 := ((s1.trans s3).trans s4).trans s5
  have W5 := W3.same s15
  refine ⟨_, rfl, .ref pk, D5, _, edgT (.var w0) ys mo, [(w0, smallT)], (edgT smallT ys mo).size, rfl, kt.same s15, hD5', bind1 (ks2.same s15), by rw [ef]; omega, by omega, by omega, fun H6 v6 s6 h1 h2 dv6 => ?_, fun H6 s6 hh => ?_⟩
  · rw [ef] at dv6
    have s16 := s15.trans s6
    have sd6 : Same H3 H6 := (s4.trans s5).trans s6
    refine ⟨_, rfl, (edgT smallT ys mo).d, (edgT smallT ys mo).d, Dt.dp _ _ dv6, Dt.dp _ _ (kdv.same sd6), la, la, .inl dp, _, rfl, ?_⟩
    rw [SeqAt.eqv_refl _ la]
    refine iteF ?_
    have W6 := W3.same s16
    refine ⟨_, rfl, vDisp1 rfl (SqL.of W6.at_) (atI_nat (j := 0) rfl) rfl fun D7 H7 hD7 s7 hD7' => ?_⟩
    have s17 := s16.trans s7
    refine ⟨.ref pk, D7, _, edgT (.var w0) ys mo, [(w0, smallT)], rfl, kt.same s17, hD7', bind1 (ks2.same s17), by rw [ef]; omega, by omega, fun H8 v8 s8 h1 h2 dv8 => ?_, fun H8 s8 hh => ?_⟩
    · rw [ef] at h1 dv8
      obtain rfl : mo = 0 := by omega
      refine ⟨_, rfl, small (by show 2 ≤ _; decide), fun pz hpz => ⟨_, rfl, pz, _, _, _, rfl, rfl, SqT.of upd_same, atI_nat (j := 0) rfl, ?_⟩⟩
      refine ⟨(edgT smallT ys 0).d, (edgT smallT ys 0).d, Dt.dp _ _ (dv8.same (same_new hpz)), Dt.dp _ _ (kdv.same (((sd6.trans s7).trans s8).trans (same_new hpz))), la, la, .inl dp, ?_⟩
      rw [SeqAt.eqv_refl _ la]
      exact q _
    · rw [ef] at hh
      obtain rfl : mo = 1 := by omega
      refine ⟨_, rfl, small (by show 2 ≤ _; decide), fun pz hpz => ⟨_, rfl, pz, _, _, _, rfl, rfl, SqT.of upd_same, atI_nat (j := 1) rfl, ?_⟩⟩
      exact ⟨.none, .none, .non, .non, rfl, rfl, .inl (Nat.zero_le _), q _⟩
  · rw [ef] at hh
    omega
end
end PK
namespace PK
open PySem L2
/-! what repr shows of terms -/
def rN (t : Tm) : Prop := match t with
  | .node c _ => WOk c
  | .map es => ∀ e ∈ es, WOk e.1
  | .name s => WOk s
  | .var s => WOk s
  | .int n => n.natAbs < 10000000000000000
  | .addr n => n.natAbs < 10000000000000000
  | .form _ _ => True
theorem TOk.rn {sig : List (Str × Nat)} {ms : List Str} {t : Tm} (h : TOk sig ms t) : Al rN t := Al.imp (fun t h => by
  cases t with
  | node c ts => exact h.1
  | map es => exact h.2
  | form f ts => exact h.elim
  | var s => exact h.2
  | _ => exact h) h
def kN (t : Tm) : Prop := t.kids.length ≤ 8
theorem TOk.kn {sig : List (Str × Nat)} {ms : List Str} {t : Tm} (h : TOk sig ms t) : Al kN t := Al.imp (fun t h => by
  cases t with
  | node c ts => exact h.2.2
  | map es => show (es.map Prod.snd).length ≤ 8; rw [List.length_map]; exact h.1
  | form f ts => exact h.elim
  | _ => exact Nat.zero_le _) h
theorem words_wok : ∀ x ∈ (["int", "name", "addr", "meta", "node", "map", "get", "set", "plus", "minus"] : List Str), WOk x := by decide +kernel
theorem tm_all {p : PyData → Prop} (hs : ∀ x, WOk x → p (.str x)) (hi : ∀ n : Int, n.natAbs < 10000000000000000 → p (.int n)) (ht : ∀ ds : List PyData, (∀ d ∈ ds, p d) → p (.tuple ds)) {t : Tm} (h : Al rN t) : p t.d := by
  induction t using Tm.ind with
  | h t ih =>
    have hl := h.at_
    have w := fun x hx => hs x (words_wok x hx)
    have two : ∀ {a b : PyData}, p a → p b → p (.tuple [a, b]) := fun ha hb => ht _ fun d hd => by
      rcases List.mem_cons.mp hd with rfl | hd
      · exact ha
      · rw [List.mem_singleton.mp hd]; exact hb
    cases t with
    | node c ts =>
      unfold Tm.d
      rw [Tm.ds_map]
      refine ht _ fun d hd => ?_
      rcases List.mem_cons.mp hd with rfl | hd
      · exact w "node" (by decide)
      rcases List.mem_cons.mp hd with rfl | hd
      · exact hs c hl
      rw [List.mem_singleton.mp hd]
      refine ht _ fun d hd => ?_
      obtain ⟨k, hk, rfl⟩ := List.mem_map.mp hd
      exact ih k hk (h.kid hk)
    | map es =>
      unfold Tm.d
      rw [Tm.es_map]
      refine two (w _ (by decide)) (ht _ fun d hd => ?_)
      obtain ⟨e, he, rfl⟩ := List.mem_map.mp hd
      have hk : e.2 ∈ (Tm.map es).kids := List.mem_map.mpr ⟨e, he, rfl⟩
      exact two (hs _ (hl e he)) (ih e.2 hk (h.kid hk))
    | form f ts =>
      unfold Tm.d
      rw [Tm.ds_map]
      refine ht _ fun d hd => ?_
      rcases List.mem_cons.mp hd with rfl | hd
      · exact w _ (by cases f <;> decide)
      obtain ⟨k, hk, rfl⟩ := List.mem_map.mp hd
      exact ih k hk (h.kid hk)
    | int n => unfold Tm.d; exact two (w _ (by decide)) (hi n hl)
    | name n => unfold Tm.d; exact two (w _ (by decide)) (hs n hl)
    | addr n => unfold Tm.d; exact two (w _ (by decide)) (hi n hl)
    | var n => unfold Tm.d; exact two (w _ (by decide)) (hs n hl)
/-- what repr wants of data -/
structure Rep (d : PyData) : Prop where
  tup : PKP.tupD d = true
  show_ : d.showable = true
  short : d.leavesShort 17 = true
theorem rep_str {x : Str} (h : WOk x) : Rep (.str x) := ⟨by unfold PKP.tupD; rfl, by unfold PyData.showable; rfl, by
  have h1 : x.cps.all (· < 0x110000) = true := h.1
  unfold PyData.leavesShort
  rw [List.all_eq_true]
  intro c hc
  have := Array.all_eq_true_iff_forall_mem.mp h1 c (Array.mem_toList_iff.mp hc)
  have h2 : c < 0x110000 := by simpa using this
  exact decide_eq_true (Nat.lt_trans h2 (by decide))⟩
theorem rep_int {n : Int} (h : n.natAbs < 10000000000000000) : Rep (.int n) := ⟨by unfold PKP.tupD; rfl, by
  unfold PyData.showable
  exact decide_eq_true (Nat.lt_of_lt_of_le (PySem.Flt.log2_lt_of (k := 64) (by decide) (Nat.lt_of_lt_of_le h (by decide))) (by decide)), by
  unfold PyData.leavesShort
  refine decide_eq_true ?_
  have e := PySem.int_text_length_le10 (a := n) (k := 16) (by decide) (Nat.lt_of_lt_of_le h (by decide))
  show (Str.ofString (toString n)).length ≤ 17
  rw [PySem.ofString_length]; exact e⟩
theorem rep_tup : ∀ {ds : List PyData}, (∀ d ∈ ds, Rep d) → Rep (.tuple ds) := fun {ds} h => by
  have key : PKP.tupD.tupAll ds = true ∧ PyData.showableAll ds = true ∧ PyData.leavesShortAll 17 ds = true := by
    induction ds with
    | nil => exact ⟨by unfold PKP.tupD.tupAll; rfl, by unfold PyData.showableAll; rfl, by unfold PyData.leavesShortAll; rfl⟩
    | cons d r ih =>
      obtain ⟨i1, i2, i3⟩ := ih fun x hx => h x (List.mem_cons_of_mem _ hx)
      have hd := h d List.mem_cons_self
      refine ⟨?_, ?_, ?_⟩
      · unfold PKP.tupD.tupAll; rw [hd.tup, i1]; rfl
      · unfold PyData.showableAll; rw [hd.show_, i2]; rfl
      · unfold PyData.leavesShortAll; rw [hd.short, i3]; rfl
  exact ⟨by unfold PKP.tupD; exact key.1, by unfold PyData.showable; exact key.2.1, by unfold PyData.leavesShort; exact key.2.2⟩
theorem tm_rep {t : Tm} (h : Al rN t) : Rep t.d := tm_all (fun _ h => rep_str h) (fun _ h => rep_int h) (fun _ h => rep_tup h) h
theorem bulk_all : ∀ ds : List PyData, PyData.bulkAll ds = (ds.map fun d => d.bulk + 1).sum
  | [] => by unfold PyData.bulkAll; rfl
  | d :: r => by unfold PyData.bulkAll; rw [bulk_all r, List.map_cons, List.sum_cons]
theorem bulk_tup (ds : List PyData) : (PyData.tuple ds).bulk = (ds.map fun d => d.bulk + 1).sum := by rw [← bulk_all]; unfold PyData.bulk; rfl
theorem bulk_str (x : Str) : (PyData.str x).bulk = x.length := by unfold PyData.bulk; rfl
theorem bulk_int (n : Int) : (PyData.int n).bulk = 0 := by unfold PyData.bulk; rfl
theorem sum_le2 {α : Type} (f g : α → Nat) (m : Nat) : ∀ l : List α, (∀ x ∈ l, f x + m ≤ g x) → (l.map f).sum + l.length * m ≤ (l.map g).sum
  | [], _ => by simp
  | a :: l, h => by
    have h1 := h a List.mem_cons_self
    have h2 := sum_le2 f g m l fun x hx => h x (List.mem_cons_of_mem _ hx)
    rw [List.map_cons, List.map_cons, List.sum_cons, List.sum_cons, List.length_cons, Nat.succ_mul]
    omega
theorem sum_mul (f : Tm → Nat) (m : Nat) : ∀ l : List Tm, (l.map fun x => m * f x).sum = m * (l.map f).sum
  | [] => by simp
  | a :: l => by rw [List.map_cons, List.map_cons, List.sum_cons, List.sum_cons, sum_mul f m l, Nat.mul_add]
theorem tm_bulk {t : Tm} (h : Al rN t) : t.d.bulk + 19 ≤ 40 * t.size := by
  have wl : ∀ x ∈ (["int", "name", "addr", "meta", "node", "map", "get", "set", "plus", "minus"] : List Str), x.length ≤ 5 := by decide +kernel
  induction t using Tm.ind with
  | h t ih =>
    have hl := h.at_
    have hsz := Tm.size_eq t
    have two : ∀ {a b : PyData}, (PyData.tuple [a, b]).bulk = a.bulk + 1 + (b.bulk + 1) := fun {a b} => by rw [bulk_tup]; simp only [List.map_cons, List.map_nil, List.sum_cons, List.sum_nil]; omega
    have ks : ∀ ts : List Tm, (∀ k ∈ ts, k ∈ t.kids) → ((ts.map Tm.d).map fun d => d.bulk + 1).sum ≤ 40 * (ts.map Tm.size).sum := fun ts hk => by
      rw [List.map_map, ← sum_mul]
      have := sum_le2 ((fun d : PyData => d.bulk + 1) ∘ Tm.d) (fun x => 40 * x.size) 0 ts fun x hx => by
        have := ih x (hk x hx) (h.kid (hk x hx))
        show x.d.bulk + 1 + 0 ≤ _
        omega
      omega
    cases t with
    | node c ts =>
      have hl : WOk c := hl
      have := ks ts fun k hk => hk
      have e : (Tm.node c ts).size = 1 + (ts.map Tm.size).sum := hsz
      unfold Tm.d
      rw [Tm.ds_map, bulk_tup]
      simp only [List.map_cons, List.map_nil, List.sum_cons, List.sum_nil]
      rw [bulk_str, bulk_str, bulk_tup]
      have w := wl "node" (by decide)
      have := hl.2
      omega
    | map es =>
      have hl : ∀ e ∈ es, WOk e.1 := hl
      unfold Tm.d
      rw [Tm.es_map, two, bulk_str, bulk_tup, size_map]
      have w := wl "map" (by decide)
      have := sum_le2 ((fun d : PyData => d.bulk + 1) ∘ Tm.ent) (fun e => 40 * e.2.size) 0 es fun e he => by
        have hk : e.2 ∈ (Tm.map es).kids := List.mem_map.mpr ⟨e, he, rfl⟩
        have h1 := ih e.2 hk (h.kid hk)
        have h2 := (hl e he).2
        show (Tm.ent e).bulk + 1 + 0 ≤ _
        unfold Tm.ent
        rw [two, bulk_str]
        omega
      rw [List.map_map]
      have e2 : (es.map fun e => 40 * e.2.size).sum = 40 * (es.map fun e => e.2.size).sum := by
        have := sum_mul Tm.size 40 (es.map Prod.snd)
        rw [List.map_map, List.map_map] at this
        exact this
      omega
    | form f ts =>
      have := ks ts fun k hk => hk
      have e : (Tm.form f ts).size = 1 + (ts.map Tm.size).sum := hsz
      unfold Tm.d
      rw [Tm.ds_map, bulk_tup, List.map_cons, List.sum_cons, bulk_str]
      have w := wl f.s (by cases f <;> decide)
      omega
    | int n =>
      unfold Tm.d; rw [two, bulk_str, bulk_int]
      have w := wl "int" (by decide)
      have := (Tm.int n).size_pos
      omega
    | name n =>
      have hl : WOk n := hl
      unfold Tm.d; rw [two, bulk_str, bulk_str]
      have w := wl "name" (by decide)
      have := hl.2
      have := (Tm.name n).size_pos
      omega
    | addr n =>
      unfold Tm.d; rw [two, bulk_str, bulk_int]
      have w := wl "addr" (by decide)
      have := (Tm.addr n).size_pos
      omega
    | var n =>
      have hl : WOk n := hl
      unfold Tm.d; rw [two, bulk_str, bulk_str]
      have w := wl "meta" (by decide)
      have := hl.2
      have := (Tm.var n).size_pos
      omega
end PK
namespace PK
open PySem L2
/-! drawn terms and a drawn dict of terms -/
theorem rpU {k : Nat} {A : Around} (hr : Room k A) : A.units + (190 + 1) < cLine := by have := hr.un; omega
structure Gn (t : Tm) (h s : Nat) : Prop where
  rn : Al rN t
  kn : Al kN t
  ht : t.ht ≤ h
  size : t.size ≤ s
def Gu (U : Tab) : Prop := ∀ s u, lookA U s = some u → Gn u 12 12
theorem of_bnd {U : Tab} {t : Tm} (h : bnd U t = true) : ∃ s u, t = .var s ∧ lookA U s = some u ∧ t.fill U = u := by
  cases t with
  | var s =>
    have h : (lookA U s).isSome = true := h
    cases e : lookA U s with
    | none => rw [e] at h; cases h
    | some u => exact ⟨s, u, rfl, e, bnd_fill e⟩
  | _ => cases h
theorem fill_kids {U : Tab} {t : Tm} (h : bnd U t = false) : (t.fill U).kids = t.kids.map (Tm.fill U) := by
  rw [fill_with h]; exact Tm.kids_with (by rw [List.length_map])
theorem fill_kn {U : Tab} {t : Tm} (h : Al kN t) (hu : Gu U) : Al kN (t.fill U) := by
  induction t using Tm.ind with
  | h t ih =>
    cases hb : bnd U t with
    | true =>
      obtain ⟨s, u, rfl, e, ef⟩ := of_bnd hb
      rw [ef]; exact (hu s u e).kn
    | false =>
      have ek := fill_kids hb
      refine .mk (show (t.fill U).kids.length ≤ 8 by rw [ek, List.length_map]; exact h.at_) fun k hk => ?_
      rw [ek] at hk
      obtain ⟨z, hz, rfl⟩ := List.mem_map.mp hk
      exact ih z hz (h.kid hz)
theorem fill_ht {U : Tab} {t : Tm} (hu : Gu U) : (t.fill U).ht ≤ t.ht + 12 := by
  induction t using Tm.ind with
  | h t ih =>
    cases hb : bnd U t with
    | true =>
      obtain ⟨s, u, rfl, e, ef⟩ := of_bnd hb
      rw [ef]; have := (hu s u e).ht; omega
    | false =>
      have hp := t.ht_pos
      have := Tm.ht_le (t := t.fill U) (n := t.ht - 1 + 12) fun k hk => by
        rw [fill_kids hb] at hk
        obtain ⟨z, hz, rfl⟩ := List.mem_map.mp hk
        have h1 := ih z hz
        have h2 := Tm.ht_kid hz
        omega
      omega
theorem fill_size {U : Tab} {t : Tm} (hu : Gu U) : (t.fill U).size ≤ 12 * t.size := by
  induction t using Tm.ind with
  | h t ih =>
    cases hb : bnd U t with
    | true =>
      obtain ⟨s, u, rfl, e, ef⟩ := of_bnd hb
      rw [ef]; have := (hu s u e).size; have := (Tm.var s).size_pos; omega
    | false =>
      rw [Tm.size_eq (t.fill U), fill_kids hb, List.map_map, Tm.size_eq t]
      have h1 := sum_le2 (Tm.size ∘ Tm.fill U) (fun x => 12 * x.size) 0 t.kids fun x hx => by
        have := ih x hx
        show (x.fill U).size + 0 ≤ _
        omega
      have h2 := sum_mul Tm.size 12 t.kids
      omega
theorem slim_kn {t : Tm} (h : Al kN t) : slim t.d = true := by
  induction t using Tm.ind with
  | h t ih =>
    have hl := h.at_
    cases t with
    | node c ts =>
      have hl : ts.length ≤ 8 := hl
      unfold Tm.d
      rw [Tm.ds_map]
      refine slim_tup (by show 3 ≤ 1000; decide) fun d hd => ?_
      rcases List.mem_cons.mp hd with rfl | hd
      · exact slim_str _
      rcases List.mem_cons.mp hd with rfl | hd
      · exact slim_str _
      rw [List.mem_singleton.mp hd]
      refine slim_tup (by rw [List.length_map]; omega) fun d hd => ?_
      obtain ⟨k, hk, rfl⟩ := List.mem_map.mp hd
      exact ih k hk (h.kid hk)
    | map es =>
      unfold Tm.d
      rw [Tm.es_map]
      have lk : es.length ≤ 8 := by have hl : (es.map Prod.snd).length ≤ 8 := hl; rw [List.length_map] at hl; exact hl
      refine slim_two (slim_str _) (slim_tup (by rw [List.length_map]; omega) fun d hd => ?_)
      obtain ⟨e, he, rfl⟩ := List.mem_map.mp hd
      have hk : e.2 ∈ (Tm.map es).kids := List.mem_map.mpr ⟨e, he, rfl⟩
      exact slim_two (slim_str _) (ih e.2 hk (h.kid hk))
    | form f ts =>
      have hl : ts.length ≤ 8 := hl
      unfold Tm.d
      rw [Tm.ds_map]
      refine slim_tup (by rw [List.length_cons, List.length_map]; omega) fun d hd => ?_
      rcases List.mem_cons.mp hd with rfl | hd
      · exact slim_str _
      obtain ⟨k, hk, rfl⟩ := List.mem_map.mp hd
      exact ih k hk (h.kid hk)
    | int n => unfold Tm.d; exact slim_two (slim_str _) (slim_int _)
    | name n => unfold Tm.d; exact slim_two (slim_str _) (slim_str _)
    | addr n => unfold Tm.d; exact slim_two (slim_str _) (slim_int _)
    | var n => unfold Tm.d; exact slim_two (slim_str _) (slim_str _)
theorem ht_size (t : Tm) : t.ht ≤ t.size := by
  induction t using Tm.ind with
  | h t ih =>
    have hp := t.size_pos
    have := Tm.ht_le (t := t) (n := t.size - 1) fun k hk => by
      have h1 := ih k hk
      have h2 := sum_le (f := Tm.size) hk
      rw [Tm.size_eq t]; omega
    omega
theorem Dt.updK {K : PySem.W.Frag} {H : Hp} {D : Addr} {kvs : List (Key × V)} {o : HO} {x : V} {d : PyData} (h : Dt K H x d) (hD : H D = some (.dK kvs)) : Dt K (upd H D o) x d := Dt.mono (fun a xs z => by
  rcases z with (z | ⟨u, z⟩) | z
  · exact .inl (.inl (by rw [upd_ne (fun e => by rw [e, hD] at z; cases z)]; exact z))
  · exact .inl (.inr ⟨u, by rw [upd_ne (fun e => by rw [e, hD] at z; cases z)]; exact z⟩)
  · exact .inr z) _ _ h
/-- a dict's rows in order, each a word and a small term -/
def Og (ord : Tab) : Prop := ∀ e ∈ ord, WOk e.1 ∧ Gn e.2 12 12
theorem Bnd.mapE {K : PySem.W.Frag} {H : Hp} {w : Str} {v : V} {t : Tm} (dv : Dt K H v t.d) : ∀ {kvs : List (Key × V)} {ord : Tab}, Bnd K H kvs ord → Bnd K H (kvs.map fun kv => if kv.1 = Sum.inr w then (kv.1, v) else kv) (ord.map fun e => if e.1 = w then (e.1, t) else e)
  | _, _, .nil => .nil
  | _, _, .cons (s := s) d r => by
    rw [List.map_cons, List.map_cons]
    by_cases e : s = w
    · subst e
      rw [if_pos rfl, if_pos rfl]
      exact .cons dv (Bnd.mapE dv r)
    · rw [if_neg (show ¬ (Sum.inr s : Key) = Sum.inr w from fun z => e (Sum.inr.inj z)), if_neg (show ¬ s = w from e)]
      exact .cons d (Bnd.mapE dv r)
theorem Bnd.putE {K : PySem.W.Frag} {H : Hp} {kvs : List (Key × V)} {ord : Tab} (b : Bnd K H kvs ord) {w : Str} {v : V} {t : Tm} (dv : Dt K H v t.d) (hw : WOk w) (ht : Gn t 12 12) (og : Og ord) :
    ∃ ord', Bnd K H (putK kvs (.inr w) v) ord' ∧ Og ord' := by
  unfold putK
  split
  · refine ⟨_, Bnd.mapE dv b, fun e he => ?_⟩
    obtain ⟨z, hz, rfl⟩ := List.mem_map.mp he
    by_cases e : z.1 = w
    · rw [if_pos e]; exact ⟨(og z hz).1, ht⟩
    · rw [if_neg e]; exact og z hz
  · refine ⟨_, Bnd.snoc dv b, fun e he => ?_⟩
    rcases List.mem_append.mp he with h | h
    · exact og e h
    · rw [List.mem_singleton.mp h]; exact ⟨hw, ht⟩
def rowD (e : Str × Tm) : PyData × PyData := (.str e.1, e.2.d)
theorem Bnd.dkv {K : PySem.W.Frag} {H : Hp} : ∀ {kvs : List (Key × V)} {ord : Tab}, Bnd K H kvs ord → Og ord → PKP.DKv K H kvs (ord.map rowD)
  | _, _, .nil, _ => .nil
  | _, _, .cons (s := s) d r, og => PKP.DKv.cons (k := .inr s) (Dt.dp _ _ d) (tm_rep (og _ List.mem_cons_self).2.rn).tup (Bnd.dkv r fun e he => og e (List.mem_cons_of_mem _ he))
theorem Og.kv : ∀ {ord : Tab}, Og ord → PyData.showableKv (ord.map rowD) = true ∧ PyData.leavesShortKv 17 (ord.map rowD) = true ∧ PyData.bulkKv (ord.map rowD) ≤ ord.length * 500 ∧ PyData.depthKv (ord.map rowD) ≤ 36
  | [], _ => ⟨by unfold PyData.showableKv; rfl, by unfold PyData.leavesShortKv; rfl, by unfold PyData.bulkKv; exact Nat.zero_le _, by unfold PyData.depthKv; exact Nat.zero_le _⟩
  | (s, t) :: r, og => by
    obtain ⟨h1, h2, h3, h4⟩ := Og.kv (ord := r) fun e he => og e (List.mem_cons_of_mem _ he)
    obtain ⟨hs, ht⟩ := og (s, t) List.mem_cons_self
    have hs : WOk s := hs
    have ht : Gn t 12 12 := ht
    have rs := rep_str hs
    have rt := tm_rep ht.rn
    have bt := tm_bulk ht.rn
    have dt := tm_depthF (t := t)
    have := ht.size
    have := ht.ht
    have hs2 := hs.2
    rw [List.map_cons]
    refine ⟨?_, ?_, ?_, ?_⟩
    · show PyData.showableKv ((.str s, t.d) :: r.map rowD) = true
      unfold PyData.showableKv
      rw [rs.show_, rt.show_, h1]; rfl
    · show PyData.leavesShortKv 17 ((.str s, t.d) :: r.map rowD) = true
      unfold PyData.leavesShortKv
      rw [rs.short, rt.short, h2]; rfl
    · show PyData.bulkKv ((.str s, t.d) :: r.map rowD) ≤ _
      unfold PyData.bulkKv
      rw [bulk_str, List.length_cons, Nat.succ_mul]
      omega
    · show max (max 0 t.d.depth) (PyData.depthKv (r.map rowD)) ≤ 36
      omega
theorem pair_rep {t : Tm} {ord : Tab} (ht : Gn t 53 63) (og : Og ord) (hl : ord.length ≤ 1000) :
    (PyData.tuple [t.d, .dict (ord.map rowD)]).showable = true ∧ (PyData.tuple [t.d, .dict (ord.map rowD)]).depth ≤ 190 ∧ (PyData.tuple [t.d, .dict (ord.map rowD)]).shown.length ≤ sizeLine := by
  obtain ⟨h1, h2, h3, h4⟩ := og.kv
  have rt := tm_rep ht.rn
  have bt := tm_bulk ht.rn
  have dt := tm_depthF (t := t)
  have := ht.size
  have := ht.ht
  refine ⟨?_, ?_, ?_⟩
  · unfold PyData.showable PyData.showableAll PyData.showableAll PyData.showableAll
    rw [rt.show_]
    unfold PyData.showable
    rw [h1]; rfl
  · show max t.d.depth (max (PyData.depthKv (ord.map rowD) + 1) 0) + 1 ≤ 190
    omega
  · have hb : (PyData.tuple [t.d, .dict (ord.map rowD)]).bulk = t.d.bulk + 1 + (PyData.bulkKv (ord.map rowD) + 1) := by
      rw [bulk_tup]
      simp only [List.map_cons, List.map_nil, List.sum_cons, List.sum_nil]
      have : (PyData.dict (ord.map rowD)).bulk = PyData.bulkKv (ord.map rowD) := by unfold PyData.bulk; rfl
      omega
    have hs : (PyData.tuple [t.d, .dict (ord.map rowD)]).leavesShort 17 = true := by
      unfold PyData.leavesShort PyData.leavesShortAll PyData.leavesShortAll PyData.leavesShortAll
      rw [rt.short]
      unfold PyData.leavesShort
      rw [h2]; rfl
    have := PyData.shown_le_bulk 17 (by decide) _ hs
    rw [hb] at this
    refine small ?_
    omega
theorem Gu.put {U : Tab} (h : Gu U) {w : Str} {t : Tm} (ht : Gn t 12 12) : Gu (U ++ [(w, t)]) := fun s u e => by
  rw [lookA_snoc] at e
  split at e
  · cases e; exact ht
  · exact h s u e
end PK
namespace PK
open PySem L2
/-! the law -/
def spLaw (K : PySem.W.Frag) : Sp := fun vs H Q _ => ∃ (a : Addr) (ns : List Int), vs = [.ref a] ∧ SqL K H a (ns.map V.int) ∧ ns.length ≤ 63 ∧ ∀ H', Q (.bl true) H'
abbrev stV (a l : Addr) (sh : Int) (R W : Addr) (k : Option V) (tv : V) (D : Option V) : L2.St := [some (.ref a), some (.ref l), some (.int sh), some (.ref R), k, some (.ref W), none, none, none, some tv, D, none, none]
section
variable {P : Program} {w : World} {K : PySem.W.Frag} {mg : Str → Option Value} {base : Heap} {aF CL CP : Addr}
abbrev s_law : Stmt := topS 35
theorem sc_law : FnScope ["script", "pool", "shift", "signature", "k", "words", "wide", "small", "due", "term", "bindings", "kept", "many"] ["script"] (defScope s_law) := ⟨rfl, rfl, rfl, by decide +kernel, rfl, by decide +kernel, by decide +kernel⟩
-- slots: 0:script 1:pool(cell) 2:shift(cell) 3:signature 4:k 5:words 6:wide 7:small 8:due 9:term 10:bindings 11:kept 12:many
theorem ok_law {f : Addr} {fd : FuncData} (F : Fun K "law" "law" s_law f fd) (T : TxtL K mg CL CP) (z_repr : mg "repr" = none) (C_law_pool : C8.Cal P w K mg base 1 "_law_pool" (spPool K) []) (C_law_take : C8.Cal P w K mg base 2 "_law_take" (spTake 2) []) (C_law_word : C8.Cal P w K mg base 3 "_law_word" spLWord [])
    (C_law_signature : C8.Cal P w K mg base 4 "_law_signature" spSig []) (C_law_term : C8.Cal P w K mg base 6 "_law_term" (spTerm K) []) (C_law_tall : C8.Cal P w K mg base 6 "_law_tall" (spTall K) []) (C_law_edge : C8.Cal P w K mg base 101 "_law_edge" (spEdge K) []) (C_law_wide : C8.Cal P w K mg base 3 "_law_wide" (spWide K) [])
    (C_law_fill : C8.Cal P w K mg base 60 "_law_fill" (spFl K 60) []) (C_law_count : C8.Cal P w K mg base 100 "_law_count" (spCt K 100) []) (C_law_limited : C8.Cal P w K mg base 5 "_law_limited" (spLim K) []) (C_law_plain : C8.Cal P w K mg base 5 "_law_plain" (spPlain K) [])
    (C_law_same : C8.Cal P w K mg base 200 "_law_same" (spSame K 199) []) (C_fill : PKW.CalF P w K mg base 4 "fill" (spFill K CL) 2 ["most"] [.int 4000]) : FnG.FnG P w K mg base CX0 201 f fd ["script"] (spLaw K) := by
  refine FnG.of_body F sc_law (fun vs H Q E h => ?_) (fun cdv A gd outer s H vs Q E hr h => ?_)
  · obtain ⟨a, ns, rfl, _⟩ := h
    rfl
  obtain ⟨a, ns, rfl, ha, hn, q⟩ := h
  refine ⟨_, (pss_cons (ps_set (i := 1) sc_law.nd rfl (Or.inr rfl) (C8.pe_c C_law_pool hr (by decide) rfl (pa_cons (pv 0) pa_nil)))
    (pss_cons (ps_set (i := 2) sc_law.nd rfl (Or.inr rfl) (C8.pe_c C_law_take hr (by decide) rfl (pa_cons (pv 1) (pa_cons pe_int pa_nil))))
    (pss_cons (ps_set (i := 3) sc_law.nd rfl (Or.inl rfl) (C8.pe_c C_law_signature hr (by decide) rfl (pa_cons (pv 1) (pa_cons (pv 2) pa_nil))))
    (pss_cons (ps_setLc (i := 5) (own := [("k", 4)]) (g := (gName 4)) (tt := tYes) (by rfl) sc_law.nd rfl rfl (sw_true rfl rfl rfl (by decide +kernel)) (pi_range1 (by rfl) T.z_range (pa_cons pe_int pa_nil)) (blkOk_by (N := ["script", "pool", "shift", "signature", "k", "words", "wide", "small", "due", "term", "bindings", "kept", "many"]) (sc := defScope s_law) (by decide +kernel)) (fun _ _ _ _ _ => (pg_name (i := 4) sc_law.nd rfl (Or.inl rfl))) (fun _ _ _ _ _ => pts_nil) (fun _ _ _ _ _ => (C8.pe_c C_law_word hr (by decide) rfl (pa_cons (pv 1) (pa_cons (pe_op op_add pe_int (pv 4)) (pa_cons (pv 2) pa_nil))))))
    (pss_cons (ps_if (pt_cmpR op_eq (C8.pe_c C_law_take hr (by decide) rfl (pa_cons (pv 1) (pa_cons pe_int pa_nil))) pe_int (nomark _)) (pss_one (ps_ret (C8.pe_c C_law_tall hr (by decide) rfl (pa_cons (pv 1) (pa_cons (pv 5) pa_nil))))) pss_nil)
    (pss_cons (ps_if (pt_cmpR op_eq (C8.pe_c C_law_take hr (by decide) rfl (pa_cons (pv 1) (pa_cons pe_int pa_nil))) pe_int (nomark _)) (pss_one (ps_ret (C8.pe_c C_law_edge hr (by decide) rfl (pa_cons (C8.pe_c C_law_take hr (by decide) rfl (pa_cons (pv 1) (pa_cons pe_int pa_nil))) (pa_cons (pv 5) pa_nil))))) pss_nil)
    (pss_cons (ps_if (pt_cmpR op_eq (C8.pe_c C_law_take hr (by decide) rfl (pa_cons (pv 1) (pa_cons pe_int pa_nil))) pe_int (nomark _)) (pss_cons (ps_set (i := 6) sc_law.nd rfl (Or.inl rfl) (C8.pe_c C_law_wide hr (by decide) rfl (pa_cons (pv 1) (pa_cons (pe_ix ix_list (pv 5) pe_int (fun _ _ => rfl)) pa_nil))))
    (pss_cons (ps_set (i := 7) sc_law.nd rfl (Or.inl rfl) (pe_tup (pa_cons pe_str (pa_cons pe_str (pa_cons (pe_tup (pa_cons (pe_tup (pa_cons pe_str (pa_cons pe_int pa_nil))) (pa_cons (pe_tup (pa_cons pe_str (pa_cons pe_int pa_nil))) pa_nil))) pa_nil)))))
    (pss_cons (ps_set (i := 8) sc_law.nd rfl (Or.inl rfl) (C8.pe_c C_law_fill hr (by decide) rfl (pa_cons (pv 6) (pa_cons (pe_disp (pps_cons (pe_ix ix_list (pv 5) pe_int (fun _ _ => rfl)) (pv 7) pps_nil) (by rfl) (by rfl) (fun z => by cases z) (by decide)) pa_nil))))
    (pss_cons (ps_if (pt_cmpR op_gt (C8.pe_c C_law_count hr (by decide) rfl (pa_cons (pv 8) pa_nil)) pe_int (nomark _)) (pss_one (ps_set (i := 8) sc_law.nd rfl (Or.inl rfl) pe_non)) pss_nil)
    (pss_one (ps_ret (pe_cmpR (PKE.op_eqN (n := 190) (eqU hr)) (C8.pe_c C_law_plain hr (by decide) rfl (pa_cons (pv 6) (pa_cons (pe_disp (pps_cons (pe_ix ix_list (pv 5) pe_int (fun _ _ => rfl)) (pv 7) pps_nil) (by rfl) (by rfl) (fun z => by cases z) (by decide)) pa_nil))) (pv 8) (nomark _)))))))) pss_nil)
    (pss_cons (ps_set (i := 9) sc_law.nd rfl (Or.inl rfl) (C8.pe_c C_law_term hr (by decide) rfl (pa_cons (pv 1) (pa_cons (pv 3) (pa_cons (pv 5) (pa_cons (pe_slice sl_list (pv 5) po_none (po_some pe_int)) (pa_cons pe_int pa_nil)))))))
    (C8.pss_cut (ps_if (pt_cmpR op_eq (C8.pe_c C_law_take hr (by decide) rfl (pa_cons (pv 1) (pa_cons pe_int pa_nil))) pe_int (nomark _)) (pss_one (ps_set (i := 9) sc_law.nd rfl (Or.inl rfl) (pe_tup (pa_cons pe_str (pa_cons (pe_tup (pa_cons pe_str (pa_cons (pe_ix ix_list (pv 5) pe_int (fun _ _ => rfl)) pa_nil))) (pa_cons (pe_tup (pa_cons pe_str (pa_cons (pe_ix ix_list (pv 5) pe_int (fun _ _ => rfl)) pa_nil))) (pa_cons (pv 9) pa_nil))))))) pss_nil)
    (pss_cons (ps_set (i := 10) sc_law.nd rfl (Or.inl rfl) pe_dnewK)
    (pss_cons (ps_for (passes_of rfl) rfl (pi_range1 (by rfl) T.z_range (pa_cons (C8.pe_c C_law_take hr (by decide) rfl (pa_cons (pv 1) (pa_cons pe_int pa_nil))) pa_nil)) (pg_name (i := 4) sc_law.nd rfl (Or.inl rfl)) (pss_one (ps_dput (hu_of hr) (pv 10) (pe_ix ix_list (pv 5) (C8.pe_c C_law_take hr (by decide) rfl (pa_cons (pv 1) (pa_cons pe_int pa_nil))) (fun _ _ => rfl)) (C8.pe_c C_law_term hr (by decide) rfl (pa_cons (pv 1) (pa_cons (pv 3) (pa_cons (pv 5) (pa_cons (pe_slice sl_list (pv 5) po_none (po_some pe_int)) (pa_cons pe_int pa_nil)))))) rfl)))
    (pss_cons (ps_set (i := 11) sc_law.nd rfl (Or.inl rfl) (pe_callB (id := "repr") (r := PKP.rReprD K 190) (PKP.call_reprTD (n := 190) gd (rpU hr)) (by rfl) z_repr (by decide +kernel) (pa_cons (pe_tup (pa_cons (pv 9) (pa_cons (pv 10) pa_nil))) pa_nil)))
    (pss_cons (ps_set (i := 8) sc_law.nd rfl (Or.inl rfl) (C8.pe_c C_law_fill hr (by decide) rfl (pa_cons (pv 9) (pa_cons (pv 10) pa_nil))))
    (pss_cons (ps_set (i := 12) sc_law.nd rfl (Or.inl rfl) (C8.pe_c C_law_count hr (by decide) rfl (pa_cons (pv 8) pa_nil)))
    (pss_cons (ps_if (PW.pt (pw_or (pt_not (pt_val (C8.pe_c C_law_same hr (by decide) rfl (pa_cons (C8.pe_c C_law_limited hr (by decide) rfl (pa_cons (pv 9) (pa_cons (pe_callTy call_dictD (by rfl) T.z_dict (by decide +kernel) (pa_cons (pv 10) pa_nil)) (pa_cons (pv 12) pa_nil)))) (pa_cons (pv 8) pa_nil))))) (pw_or1 (pt_cmpR op_notBl (C8.pe_c C_law_limited hr (by decide) rfl (pa_cons (pv 9) (pa_cons (pv 10) (pa_cons (pe_op op_sub (pv 12) pe_int) pa_nil)))) pe_bl (nomark _))))) (pss_one (ps_ret pe_bl)) pss_nil)
    (pss_cons (ps_if (PW.pt (pw_and (pt_cmpR op_le (pv 12) pe_int (nomark _)) (pw_and1 (pt_not (pt_val (C8.pe_c C_law_same hr (by decide) rfl (pa_cons (PKW.pe_cfS C_fill takes0 hr (by decide) rfl (pa_cons (pv 9) (pa_cons (pv 10) pa_nil))) (pa_cons (pv 8) pa_nil)))))))) (pss_one (ps_ret pe_bl)) pss_nil)
    (pss_one (ps_ret (pe_cmpR op_eq (pe_callB (id := "repr") (r := PKP.rReprD K 190) (PKP.call_reprTD (n := 190) gd (rpU hr)) (by rfl) z_repr (by decide +kernel) (pa_cons (pe_tup (pa_cons (pv 9) (pa_cons (pv 10) pa_nil))) pa_nil)) (pv 11) (nomark _)))))))))))))))))))), ?_⟩
  refine ⟨_, rfl, a, ns, rfl, ha, hn, fun H0 l c s0 hl0 P0 => ?_⟩
  refine vTake rfl P0 (by decide) (by decide) fun sh H1 sh0 sh1 x1 => ?_
  refine ⟨_, rfl, _, rfl, l, c, sh, rfl, x1.pool, fun H2 R sig x2 hR1 hR2 sok => ?_⟩
  have nR : R ≠ l := (x1.pool.ne hR1).1
  have P2 := x2.pool
  refine ⟨5, rfl, by decide, by decide, fun D3 hD3 => lcX (K := K) (walk_range (lo := 0) (n := (5 : Int).toNat)) P2 hD3 (by decide) (fun ds => ∃ ss : List Str, ds = ss.map PyData.str ∧ ∀ z ∈ ss, Wd z) ⟨[], rfl, fun _ h => absurd h List.not_mem_nil⟩ (fun _ _ => trivial) ?_ ?_⟩
  · rintro i x H7 H7 ds R' hi x7 ⟨rfl, rfl⟩ ⟨ss, rfl, hss⟩ len r
    refine ⟨rfl, _, rfl, _, rfl, _, _, rfl, rfl, _, rfl, l, c, _, sh, rfl, x7.pool, fun H8 y x8 wy ty ny => ?_⟩
    refine r (.str y) _ _ x8 (.str y) ⟨ss ++ [y], by rw [List.map_append]; rfl, fun z hz => ?_⟩
    rcases List.mem_append.mp hz with h | h
    · exact hss z h
    · rw [List.mem_singleton.mp h]; exact wy
  rintro H3 vs3 ds3 x3 hv3 da3 len3 ⟨ws, rfl, hws⟩
  obtain rfl : vs3 = ws.map V.str := da3.strsE
  rw [List.length_map] at len3
  have len3 : ws.length = 5 := len3
  have W3 : Wl H3 l D3 ws := ⟨hv3, (P2.ne hD3).1, by omega, hws⟩
  have nw : ws ≠ [] := fun e => by rw [e] at len3; cases len3
  have hs3 := x3.keep _ _ nR hR2
  have P3 := x3.pool
  clear hv3 da3 hD3 x1 x2 x3 P2 hR1 hR2 P0 hl0 s0 ha
  have ew : ∃ w0 w1 w2 w3 w4, ws = [w0, w1, w2, w3, w4] := match ws, len3 with | [a, b, c, d, e], _ => ⟨a, b, c, d, e, rfl⟩
  obtain ⟨w0, w1, w2, w3, w4, rfl⟩ := ew
  refine vTake rfl P3 (by decide) (by decide) fun d1 H4 d10 d11 x4 => ⟨rfl, _, rfl, ite2 (fun _ => ?_) (fun _ => ?_)⟩
  · exact ⟨_, rfl, _, rfl, l, c, D3, _, rfl, x4.pool, W3.ext x4, rfl, fun H' => q H'⟩
  refine vTake rfl x4.pool (by decide) (by decide) fun d2 H5 d20 d21 x5 => ⟨rfl, _, rfl, ite2 (fun _ => ?_) (fun _ => ?_)⟩
  · refine vTake rfl x5.pool (by decide) (by decide) fun m H6 m0 m1 x6 => ?_
    obtain ⟨mo, rfl⟩ : ∃ n : Nat, m = n := ⟨m.toNat, by omega⟩
    exact ⟨_, rfl, l, D3, _, mo, rfl, by omega, (W3.ext x4).ext (x5.trans x6), rfl, fun H' => q H'⟩
  refine vTake rfl x5.pool (by decide) (by decide) fun d3 H6 d30 d31 x6 => ⟨rfl, _, rfl, ite2 (fun _ => ?_) (fun _ => ?_)⟩
  · have y6 := (x4.trans x5).trans x6
    have W6 := W3.ext y6
    refine ⟨_, rfl, vLx rfl (SqL.of W6.at_) (atI_nat (j := 0) rfl) ?_⟩
    refine ⟨l, c, w0, rfl, x6.pool, fun H7 v t n x7 dv wd hn => ?_⟩
    refine ⟨small (by show 2 ≤ _; decide), fun pf hpf => ⟨small (by show 2 ≤ _; decide), fun pg hpg => ⟨small (by show 2 ≤ _; decide), fun ph hph => ⟨small (by show 3 ≤ _; decide), fun pi hpi => ?_⟩⟩⟩⟩
    obtain ⟨s8, ks⟩ := small_new (K := K) hpf hpg hph hpi
    generalize upd (upd (upd (upd H7 pf (.tup [.str "int", .int 1])) pg (.tup [.str "addr", .int 2])) ph (.tup [.ref pf, .ref pg])) pi (.tup [.str "node", .str "c", .ref ph]) = H8 at s8 ks ⊢
    have W8 := (W6.ext x7).same s8
    have dv8 := dv.same s8
    obtain ⟨z1, z2, z3⟩ := small_facts
    have wf : Wid smallT n (t.fill [(w0, smallT)]) := by have := wd.fill (U := [(w0, smallT)]); rw [fill1] at this; exact this
    have pn : (2 : Nat) ^ n ≤ 2048 := Nat.pow_le_pow_right (n := 2) (by decide) hn
    have a1 := wd.size
    have a2 := wf.size
    have v1 : (Tm.var w0).size = 1 := by rw [Tm.size_eq]; rfl
    have v2 : (Tm.var w0).ht ≤ 2 := by rw [Tm.ht_eq]; show 1 + 0 ≤ 2; omega
    rw [v1] at a1
    rw [z1] at a2
    have b1 := wd.ht
    have b2 := wf.ht
    have la := lay_tm (wf.al z3)
    have dp : (t.fill [(w0, smallT)]).d.depth ≤ 190 := by have := tm_depthF (t := t.fill [(w0, smallT)]); omega
    refine ⟨_, rfl, vDisp1 rfl (SqL.of W8.at_) (atI_nat (j := 0) rfl) rfl fun D H9 hD s9 hD9 => ?_⟩
    refine ⟨v, D, _, t, [(w0, smallT)], rfl, dv8.same s9, hD9, bind1 (ks.same s9), by omega, by omega, fun H10 du s10 kdu => ?_⟩
    refine ⟨_, rfl, du, t.fill [(w0, smallT)], rfl, kdu, by omega, by omega, fun H11 s11 => ?_⟩
    have s12 := (s9.trans s10).trans s11
    have W11 := W8.same s12
    have fin : ∀ (H12 : Hp) (v8 : V) (d : PyData), Same H11 H12 → Dt K H12 v8 d → True := fun _ _ _ _ _ => trivial
    refine ⟨_, _, rfl, rfl, _, rfl, ite2 (fun z => ?_) (fun z => ?_)⟩
    · have hz : (4000 : Int) < ((t.fill [(w0, smallT)]).size : Nat) := of_decide_eq_true z
      refine ⟨_, rfl, vDisp1 rfl (SqL.of W11.at_) (atI_nat (j := 0) rfl) rfl fun D2 H12 hD2 s13 hD12 => ?_⟩
      have s14 := s12.trans s13
      refine ⟨v, D2, _, t, [(w0, smallT)], rfl, dv8.same s14, hD12, bind1 (ks.same s14), by omega, by omega, fun H13 v13 s15 h1 h2 dv13 => absurd h1 (by omega), fun H13 s15 hh => ?_⟩
      exact ⟨_, rfl, .none, .none, .non, .non, rfl, rfl, .inl (Nat.zero_le _), q _⟩
    · have hz : ¬ (4000 : Int) < ((t.fill [(w0, smallT)]).size : Nat) := fun y => z (decide_eq_true y)
      refine ⟨_, rfl, vDisp1 rfl (SqL.of W11.at_) (atI_nat (j := 0) rfl) rfl fun D2 H12 hD2 s13 hD12 => ?_⟩
      have s14 := s12.trans s13
      refine ⟨v, D2, _, t, [(w0, smallT)], rfl, dv8.same s14, hD12, bind1 (ks.same s14), by omega, by omega, fun H13 v13 s15 h1 h2 dv13 => ?_, fun H13 s15 hh => by omega⟩
      refine ⟨_, rfl, _, _, Dt.dp _ _ dv13, Dt.dp _ _ (kdu.same ((s11.trans s13).trans s15)), la, la, .inl dp, ?_⟩
      rw [SeqAt.eqv_refl _ la]
      exact q _
  have x46 := (x4.trans x5).trans x6
  have W6 := W3.ext x46
  have hs6 := x46.keep _ _ nR hs3
  have P6 := x6.pool
  clear x4 x5 x6 x46 W3 hs3 P3
  -- the term
  refine ⟨_, rfl, _, rfl, _, rfl, _, rfl, _, rfl, D3, _, rfl, SqL.of W6.at_, fun pm hpm => ?_⟩
  have c3 : cutV ([w0, w1, w2, w3, w4].map V.str) none (some 3) = [w0, w1, w2].map V.str := cut_take ([w0, w1, w2, w3, w4].map V.str) 3 (by show 3 ≤ 5; decide)
  rw [c3]
  have x7 := (Ext.refl P6).new (o := .lst ([w0, w1, w2].map V.str)) P6 hpm
  have M7 : Wl (upd H6 pm (.lst ([w0, w1, w2].map V.str))) l pm [w0, w1, w2] := ⟨upd_same, (P6.ne hpm).1, (by show 3 ≤ 100; decide), fun z hz => W6.wd z (List.mem_of_mem_take (i := 3) (show z ∈ List.take 3 [w0, w1, w2, w3, w4] from hz))⟩
  refine ⟨l, c, R, D3, pm, sig, _, [w0, w1, w2], sh, 60, rfl, x7.pool, nR, x7.keep _ _ nR hs6, sok, W6.ext x7, nw, M7, by decide, by decide, fun tv t H8 x8 dt tok tht tsz => ?_⟩
  have x68 := x7.trans x8
  refine ⟨fun σ' H' => ∃ (tv : V) (t : Tm), σ' = stV a l sh R D3 none tv none ∧ Ext l c H6 H' ∧ Dt K H' tv t.d ∧ Gn t 53 63, ?_, ?_⟩
  · refine vTake rfl x8.pool (by decide) (by decide) fun d4 H9 d40 d41 x9 => ⟨rfl, _, rfl, ite2 (fun _ => ?_) (fun _ => ⟨tv, t, rfl, x68.trans x9, dt.ext1 x9 x8.pool, ⟨tok.rn, tok.kn, by omega, by omega⟩⟩)⟩
    have y9 := x68.trans x9
    have W9 := W6.ext y9
    have dt9 := dt.ext1 x9 x8.pool
    have P9 := x9.pool
    refine vLx rfl (SqL.of W9.at_) (atI_nat (j := 0) rfl) ⟨small (by show 2 ≤ _; decide), fun p1 hp1 => ?_⟩
    have y10 := (Ext.refl P9).new (o := .tup [.str "meta", .str w0]) P9 hp1
    refine vLx rfl (SqL.of (W9.ext y10).at_) (atI_nat (j := 1) rfl) ⟨small (by show 2 ≤ _; decide), fun p2 hp2 => ⟨_, rfl, small (by show 4 ≤ _; decide), fun p3 hp3 => ?_⟩⟩
    have k1 : Dt K (upd H9 p1 (.tup [.str "meta", .str w0])) (.ref p1) (Tm.var w0).d := by unfold Tm.d; exact Dt.mk2 hp1 (.str _) (.str _)
    have k2 : Dt K (upd (upd H9 p1 (.tup [.str "meta", .str w0])) p2 (.tup [.str "meta", .str w1])) (.ref p2) (Tm.var w1).d := by unfold Tm.d; exact Dt.mk2 hp2 (.str _) (.str _)
    refine ⟨_, .form .set [.var w0, .var w1, t], rfl, y9.trans ((y10.new P9 hp2).new P9 hp3), ?_, ?_⟩
    · unfold Tm.d
      rw [Tm.ds_map]
      exact .tup (SqT.of upd_same) (.cons (.str _) (.cons ((k1.new hp2).new hp3) (.cons (k2.new hp3) (.cons (((dt9.new hp1).new hp2).new hp3) .nil))))
    · have m0 := (W6.wd w0 (by simp)).wok
      have m1 := (W6.wd w1 (by simp)).wok
      have al : ∀ {p : Tm → Prop}, p (.form .set [.var w0, .var w1, t]) → p (.var w0) → p (.var w1) → Al p t → Al p (.form .set [.var w0, .var w1, t]) := fun h1 h2 h3 h4 => .mk h1 fun k hk => by
        rcases List.mem_cons.mp hk with rfl | hk
        · exact .mk h2 fun k hk => nomatch hk
        rcases List.mem_cons.mp hk with rfl | hk
        · exact .mk h3 fun k hk => nomatch hk
        · rw [List.mem_singleton.mp hk]; exact h4
      have v1 : ∀ s, (Tm.var s).size = 1 := fun s => by rw [Tm.size_eq]; rfl
      have v2 : ∀ s, (Tm.var s).ht ≤ 52 := fun s => by rw [Tm.ht_eq]; show 1 + 0 ≤ 52; omega
      refine ⟨al trivial m0 m1 tok.rn, al (show 3 ≤ 8 by decide) (Nat.zero_le _) (Nat.zero_le _) tok.kn, Tm.ht_le (n := 52) fun k hk => ?_, ?_⟩
      · rcases List.mem_cons.mp hk with rfl | hk
        · exact v2 _
        rcases List.mem_cons.mp hk with rfl | hk
        · exact v2 _
        · rw [List.mem_singleton.mp hk]; exact tht
      · rw [Tm.size_eq]
        show 1 + ((Tm.var w0).size + ((Tm.var w1).size + (t.size + 0))) ≤ 63
        rw [v1, v1]; omega
  clear x8 x68 dt tok tht tsz M7 x7 hpm
  rintro σ' H9 ⟨tv, t, rfl, x9, dt, gt⟩
  have W9 := W6.ext x9
  have hs9 := x9.keep _ _ nR hs6
  have P9 := x9.pool
  clear hs6 W6 P6 x9
  refine fun D hD => ?_
  have nD := P9.ne hD
  have x0 := (Ext.refl P9).new (o := .dK []) P9 hD
  have gu0 : Gu [] := fun s u e => by cases e
  refine vTake rfl x0.pool (by decide) (by decide) fun d5 H10 d50 d51 x10 => ⟨d5, rfl, by omega, by omega, for_range (lo := 0) (n := d5.toNat) (fun i σ H' => ∃ (kvs : List (Key × V)) (U ord : Tab) (o : Option V), σ = stV a l sh R D3 o tv (some (.ref D)) ∧ Ext l c H9 H' ∧ H' D = some (.dK kvs) ∧ BindE K H' kvs U ∧ Gu U ∧ Bnd K H' kvs ord ∧ Og ord ∧ kvs.length ≤ i) ?_ ?_ ?_⟩
  · exact ⟨[], [], [], none, rfl, x0.trans x10, x10.keep _ _ nD.1 upd_same, .nil, gu0, .nil, fun e he => absurd he List.not_mem_nil, Nat.le_refl _⟩
  · rintro i σ H11 hi ⟨kvs, U, ord, o, rfl, x11, hD11, be, gu, bn, og, ln⟩
    have W11 := W9.ext x11
    refine ⟨_, rfl, _, rfl, _, rfl, _, rfl, _, rfl, D3, _, rfl, SqL.of W11.at_, fun pm hpm => ?_⟩
    rw [c3]
    have x12 := (Ext.refl x11.pool).new (o := .lst ([w0, w1, w2].map V.str)) x11.pool hpm
    have M12 : Wl (upd H11 pm (.lst ([w0, w1, w2].map V.str))) l pm [w0, w1, w2] := ⟨upd_same, (x11.pool.ne hpm).1, (by show 3 ≤ 100; decide), fun z hz => W9.wd z (List.mem_of_mem_take (i := 3) (show z ∈ List.take 3 [w0, w1, w2, w3, w4] from hz))⟩
    refine ⟨l, c, R, D3, pm, sig, _, [w0, w1, w2], sh, 12, rfl, x12.pool, nR, (x11.trans x12).keep _ _ nR hs9, sok, W11.ext x12, nw, M12, by decide, by decide, fun uv u H13 x13 du uok uht usz => ?_⟩
    have x23 := x12.trans x13
    have gu2 : Gn u 12 12 := ⟨uok.rn, uok.kn, by have := ht_size u; omega, usz⟩
    refine ⟨_, rfl, _, rfl, vTake rfl x23.pool (by decide) (by decide) fun j H14 j0 j1 x14 => ?_⟩
    have x24 := x23.trans x14
    refine ((W11.ext x24)).ix j0 (by have : (([w0, w1, w2, w3, w4].length : Nat) : Int) = 5 := rfl; omega) fun x hx => ?_
    have hD14 := x24.keep _ _ nD.1 hD11
    have du14 := du.ext1 x14 x23.pool
    refine ⟨D, _, rfl, DPut.k (k := .inr x) hD14 (smallL (by omega)), ?_⟩
    have hx2 := (W9.wd x hx).wok
    have be14 : BindE K H14 kvs U := be.mono fun _ _ z => z.ext1 x24 x11.pool
    have bn14 : Bnd K H14 kvs ord := Bnd.mono (fun _ _ z => z.ext1 x24 x11.pool) bn
    obtain ⟨ord', b1, b2⟩ := Bnd.putE bn14 du14 hx2 gu2 og
    have b3 := be14.put (w := x) du14
    have xu : Ext l c H9 (upd H14 D (.dK (putK kvs (.inr x) uv))) := (x11.trans x24).upd P9 hD
    have kd : ∀ v d, Dt K H14 v d → Dt K (upd H14 D (.dK (putK kvs (.inr x) uv))) v d := fun v d h => Dt.updK h hD14
    exact ⟨_, _, ord', _, rfl, xu, upd_same, b3.mono kd, gu.put gu2, Bnd.mono kd b1, b2, by have := length_putK kvs (.inr x) uv; omega⟩
  rintro σ H11 ⟨kvs, U, ord, o, rfl, x11, hD11, be, gu, bn, og, ln⟩
  have dt11 := dt.ext1 x11 P9
  clear x11 dt hs9 W9 P9 x0 hD nD gu0 c3
  have lo : ord.length ≤ 1000 := by rw [← bn.len]; omega
  obtain ⟨r1, r2, r3⟩ := pair_rep gt og lo
  have rtup := (tm_rep gt.rn).tup
  have fk := fill_kn gt.kn gu
  have fh := fill_ht (t := t) gu
  have fs := fill_size (t := t) gu
  have gh := gt.ht
  have gs := gt.size
  have fd := tm_depthF (t := t.fill U)
  have fl := slim_kn fk
  have fp := (t.fill U).size_pos
  refine ⟨_, rfl, _, rfl, small (by show 2 ≤ _; decide), fun p1 hp1 => ?_⟩
  have s1 : Same H11 (upd H11 p1 (.tup [tv, .ref D])) := same_new hp1
  refine ⟨p1, D, tv, t.d, kvs, ord.map rowD, rfl, SqT.of upd_same, Dt.dp _ _ (dt11.same s1), rtup, s1 _ _ hD11, Bnd.dkv (Bnd.mono (fun _ _ z => z.same s1) bn) og, r1, r2, r3, ?_⟩
  refine ⟨_, rfl, _, rfl, tv, D, kvs, t, U, rfl, dt11.same s1, s1 _ _ hD11, be.mono fun _ _ z => z.same s1, by omega, by omega, fun H12 du s12 kdu => ?_⟩
  have s2 := s1.trans s12
  refine ⟨_, rfl, du, t.fill U, rfl, kdu, by omega, by omega, fun H13 s13 => ?_⟩
  have s3 := s2.trans s13
  have kd3 := kdu.same s13
  refine ⟨_, rfl, _, rfl, D, kvs, rfl, .inl (s3 _ _ hD11), fun p4 hp4 => ?_⟩
  have s4 := s3.trans (same_new (o := .dK kvs) hp4)
  refine ⟨_, rfl, tv, p4, kvs, t, U, (t.fill U).size, rfl, dt11.same s4, upd_same, be.mono fun _ _ z => z.same s4, by omega, by omega, by omega, fun H14 v14 s14 _ _ k14 => ?_, fun H14 s14 hh => by omega⟩
  have s5 := s4.trans s14
  have kd5 := (kd3.same (same_new (o := .dK kvs) hp4)).same s14
  refine ⟨_, rfl, v14, du, (t.fill U).d, rfl, Dt.dp _ _ k14, Dt.dp _ _ kd5, by omega, fl, fun H15 s15 => ⟨_, rfl, iteF ?_⟩⟩
  have s6 := s5.trans s15
  have kd6 := kd5.same s15
  refine ⟨_, rfl, _, rfl, _, rfl, _, _, rfl, rfl, ?_⟩
  refine ⟨tv, D, kvs, t, U, (t.fill U).size - 1, (by show [tv, V.ref D, V.int (((t.fill U).size : Nat) - 1)] = [tv, V.ref D, V.int (((t.fill U).size - 1 : Nat) : Int)]; rw [show ((((t.fill U).size - 1 : Nat) : Nat) : Int) = ((t.fill U).size : Nat) - 1 by omega]), dt11.same s6, s6 _ _ hD11, be.mono fun _ _ z => z.same s6, by omega, by omega, by omega, fun H16 v16 s16 h1 => absurd h1 (by omega), fun H16 s16 hh => ?_⟩
  have s7 := s6.trans s16
  have kd7 := kd6.same s16
  refine ⟨true, true, rfl, rfl, _, rfl, iteF ?_⟩
  have fin : ∀ H17 : Hp, Same H11 H17 → tRet (tOp rEq (tCB (PKP.rReprD K 190) (tCons (tTup (tCons (tVar 9) (tCons (tVar 10) tNil))) tNil)) (tVar 11)) { nx := fun _ H' => Q V.non H', rt := Q }
      [some (.ref a), some (.ref l), some (.int sh), some (.ref R), o, some (.ref D3), none, none, some du, some tv, some (.ref D), some (V.str (PyData.tuple [t.d, PyData.dict (List.map rowD ord)]).shown), some (V.int ((t.fill U).size : Nat))] H17 := fun H17 s17 => by
    refine ⟨_, rfl, _, rfl, small (by show 2 ≤ _; decide), fun p8 hp8 => ?_⟩
    have s18 := s17.trans (same_new (o := .tup [tv, .ref D]) hp8)
    refine ⟨p8, D, tv, t.d, kvs, ord.map rowD, rfl, SqT.of upd_same, Dt.dp _ _ (dt11.same s18), rtup, s18 _ _ hD11, Bnd.dkv (Bnd.mono (fun _ _ z => z.same s18) bn) og, r1, r2, r3, ?_⟩
    refine ⟨_, rfl, rfl, ?_⟩
    rw [decide_eq_true rfl]
    exact q _
  refine ⟨_, rfl, _, _, rfl, rfl, _, rfl, ite2 (fun z => ?_) (fun _ => iteF ?_)⟩
  · have hz : ((t.fill U).size : Nat) ≤ (4000 : Int) := of_decide_eq_true z
    refine ⟨_, rfl, _, rfl, tv, D, kvs, t, U, 4000, rfl, dt11.same s7, s7 _ _ hD11, be.mono fun _ _ z => z.same s7, by omega, by decide, by omega, fun H17 v17 s17 _ _ k17 => ?_, fun H17 s17 hh => by omega⟩
    refine ⟨_, rfl, v17, du, (t.fill U).d, rfl, Dt.dp _ _ k17, Dt.dp _ _ (kd7.same s17), by omega, fl, fun H18 s18 => ⟨_, rfl, iteF ?_⟩⟩
    exact fin _ ((s7.trans s17).trans s18)
  · exact fin _ s7
end
end PK
namespace PK
open PySem L2
section
variable {P : Program} {w : World} {K : PySem.W.Frag} {mg : Str → Option Value} {base : Heap}
theorem none_okX {f : Addr} {fd : FuncData} {ps : List Str} {sp : Sp} {k : Nat} (no : ∀ vs H Q E, ¬ sp vs H Q E) : FnOk P w K mg base (L2.CX P w) k f fd ps sp :=
  ⟨fun vs H Q E h => absurd h (no vs H Q E), fun A outer s H args us vs Q E _ _ _ _ h => absurd h (no vs H Q E)⟩
theorem none_ok {f : Addr} {fd : FuncData} {ps : List Str} {sp : Sp} {k : Nat} (no : ∀ vs H Q E, ¬ sp vs H Q E) : FnOk P w K mg base CX0 k f fd ps sp :=
  ⟨fun vs H Q E h => absurd h (no vs H Q E), fun A outer s H args us vs Q E _ _ _ _ h => absurd h (no vs H Q E)⟩
theorem cal_mk {x : Str} {f : Addr} {fd : FuncData} {ps : List Str} {sp : Sp} {k : Nat} (G : FnOk P w K mg base CX0 k f fd ps sp) (m : mg x = some (.ref f)) (kp : PySem.W.keepIn K (.ref f) = true) (b : Binds K fd ps []) : C8.Cal P w K mg base k x sp [] :=
  ⟨f, fd, ps, [], G, m, kp, b, .nil⟩
end
theorem exm_self {K : PySem.W.Frag} {S : Addr} (h1 : PySem.W.subIn K (.ref S) (.type "BaseException") = some true) (h2 : PySem.W.isClsIn K S = true) (h3 : PySem.W.typeIn K (.ref S) = some (.type "type")) (h4 : PySem.W.subIn K (.ref S) (.ref S) = some true) :
    PySem.W.exmOne K (.ref S) (.ref S) = some true := by
  have e1 : (PySem.W.subIn K (.ref S) (.type "BaseException") == some true) = true := by rw [h1] <;> rfl
  have e2 : ((PySem.W.clsIn K S).isSome && PySem.W.typeIn K (.ref S) == some (.type "type")) = true := by
    have h2' : (PySem.W.clsIn K S).isSome = true := h2
    rw [h2', h3] <;> rfl
  show (if (PySem.W.subIn K (.ref S) (.type "BaseException") == some true) = true then (if ((PySem.W.clsIn K S).isSome && PySem.W.typeIn K (.ref S) == some (.type "type")) = true then PySem.W.subIn K (.ref S) (.ref S) else none) else none) = some true
  rw [if_pos e1, if_pos e2]
  exact h4
theorem kit_t {K : PySem.W.Frag} {D C : Addr} (h1 : PySem.W.isClsIn K C = true) (h2 : PySem.W.typeIn K (.ref C) = some (.type "type")) (h3 : PySem.W.subIn K (.ref D) (.ref C) = some true) : PySem.W.kitOne K (.ref D) (.ref C) = some true := by
  have h1' : (PySem.W.clsIn K C).isSome = true := h1
  unfold PySem.W.kitOne
  split
  · rfl
  · show (if ((PySem.W.clsIn K C).isSome && PySem.W.typeIn K (.ref C) == some (.type "type")) = true then PySem.W.subIn K (.ref D) (.ref C) else none) = some true
    rw [if_pos (by rw [h1', h2] <;> rfl)]
    exact h3
set_option maxHeartbeats 0 in
theorem all_mk {l : PySem.W.OpenLaw} {w : World} {K : PySem.W.Frag} {h : Heap} {mg : Str → Option Value} {fa f1 f2 f3 f4 f5 f6 f7 f8 f9 f10 f11 f12 f13 f14 f15 f16 f17 f18 f19 f20 f21 f22 f23 f24 f25 f26 f27 f28 : Addr} (X : K.In h) (G : h.Ns mainGlobals mg) (hfa : mg "law" = some (.ref fa))
    {od1 an1 od2 an2 od3 an3 od4 an4 od5 an5 od6 an6 od7 an7 od8 an8 od9 an9 od10 an10 od11 an11 od12 an12 od13 an13 od14 an14 od15 an15 od16 an16 od17 an17 od18 an18 od19 an19 od20 an20 od21 an21 od22 an22 od23 an23 od24 an24 od25 an25 od26 an26 od27 an27 od28 an28 : Option Addr} {sl1 sl2 sl3 sl4 sl5 sl6 sl7 sl8 sl9 sl10 sl11 sl12 sl13 sl14 sl15 sl16 sl17 sl18 sl19 sl20 sl21 sl22 sl23 sl24 sl25 sl26 sl27 sl28 : Array (Option Value)} {oc1 kV1 dc1 pm1 cd1 ct1 oc2 kV2 dc2 pm2 cd2 ct2 oc3 kV3 dc3 pm3 cd3 ct3 oc4 kV4 dc4 pm4 cd4 ct4 oc5 kV5 dc5 pm5 cd5 ct5 oc6 kV6 dc6 pm6 cd6 ct6 oc7 kV7 dc7 pm7 cd7 ct7 oc8 kV8 dc8 pm8 cd8 ct8 oc9 kV9 dc9 pm9 cd9 ct9 oc10 kV10 dc10 pm10 cd10 ct10 oc11 kV11 dc11 pm11 cd11 ct11 oc12 kV12 dc12 pm12 cd12 ct12 oc13 kV13 dc13 pm13 cd13 ct13 oc14 kV14 dc14 pm14 cd14 ct14 oc15 kV15 dc15 pm15 cd15 ct15 oc16 kV16 dc16 pm16 cd16 ct16 oc17 kV17 dc17 pm17 cd17 ct17 oc18 kV18 dc18 pm18 cd18 ct18 oc19 kV19 dc19 pm19 cd19 ct19 oc20 kV20 dc20 pm20 cd20 ct20 oc21 kV21 dc21 pm21 cd21 ct21 oc22 kV22 dc22 pm22 cd22 ct22 oc23 kV23 dc23 pm23 cd23 ct23 oc24 kV24 dc24 pm24 cd24 ct24 oc25 kV25 dc25 pm25 cd25 ct25 oc26 kV26 dc26 pm26 cd26 ct26 oc27 kV27 dc27 pm27 cd27 ct27 oc28 kV28 dc28 pm28 cd28 ct28 : Value}
    (a1 : PySem.W.nsIn K mainGlobals "children" = some (some (.ref f1))) (l1 : K.lookup f1 = some ⟨oc1, od1, .func (PySem.W.fnOf "children" "children" (defArgs s_children) (defBody s_children) (defScope s_children) .none kV1 dc1 pm1 an1 cd1 ct1), sl1⟩) (c1 : PySem.W.codeIn K cd1 "children" = true) (k1 : PySem.W.keepIn K (.ref f1) = true)
    (a2 : PySem.W.nsIn K mainGlobals "rebuild" = some (some (.ref f2))) (l2 : K.lookup f2 = some ⟨oc2, od2, .func (PySem.W.fnOf "rebuild" "rebuild" (defArgs s_rebuild) (defBody s_rebuild) (defScope s_rebuild) .none kV2 dc2 pm2 an2 cd2 ct2), sl2⟩) (c2 : PySem.W.codeIn K cd2 "rebuild" = true) (k2 : PySem.W.keepIn K (.ref f2) = true)
    (a3 : PySem.W.nsIn K mainGlobals "assembled" = some (some (.ref f3))) (l3 : K.lookup f3 = some ⟨oc3, od3, .func (PySem.W.fnOf "assembled" "assembled" (defArgs s_assembled) (defBody s_assembled) (defScope s_assembled) .none kV3 dc3 pm3 an3 cd3 ct3), sl3⟩) (c3 : PySem.W.codeIn K cd3 "assembled" = true) (k3 : PySem.W.keepIn K (.ref f3) = true)
    (a4 : PySem.W.nsIn K mainGlobals "parts_of" = some (some (.ref f4))) (l4 : K.lookup f4 = some ⟨oc4, od4, .func (PySem.W.fnOf "parts_of" "parts_of" (defArgs s_parts_of) (defBody s_parts_of) (defScope s_parts_of) .none kV4 dc4 pm4 an4 cd4 ct4), sl4⟩) (c4 : PySem.W.codeIn K cd4 "parts_of" = true) (k4 : PySem.W.keepIn K (.ref f4) = true)
    (a5 : PySem.W.nsIn K mainGlobals "fill" = some (some (.ref f5))) (l5 : K.lookup f5 = some ⟨oc5, od5, .func (PySem.W.fnOf "fill" "fill" (defArgs s_fill) (defBody s_fill) (defScope s_fill) .none kV5 dc5 pm5 an5 cd5 ct5), sl5⟩) (c5 : PySem.W.codeIn K cd5 "fill" = true) (k5 : PySem.W.keepIn K (.ref f5) = true)
    (a6 : PySem.W.nsIn K mainGlobals "_is_bound" = some (some (.ref f6))) (l6 : K.lookup f6 = some ⟨oc6, od6, .func (PySem.W.fnOf "_is_bound" "_is_bound" (defArgs s_is_bound) (defBody s_is_bound) (defScope s_is_bound) .none kV6 dc6 pm6 an6 cd6 ct6), sl6⟩) (c6 : PySem.W.codeIn K cd6 "_is_bound" = true) (k6 : PySem.W.keepIn K (.ref f6) = true)
    (a7 : PySem.W.nsIn K mainGlobals "_check_room" = some (some (.ref f7))) (l7 : K.lookup f7 = some ⟨oc7, od7, .func (PySem.W.fnOf "_check_room" "_check_room" (defArgs s_check_room) (defBody s_check_room) (defScope s_check_room) .none kV7 dc7 pm7 an7 cd7 ct7), sl7⟩) (c7 : PySem.W.codeIn K cd7 "_check_room" = true) (k7 : PySem.W.keepIn K (.ref f7) = true)
    (a8 : PySem.W.nsIn K mainGlobals "_law_pool" = some (some (.ref f8))) (l8 : K.lookup f8 = some ⟨oc8, od8, .func (PySem.W.fnOf "_law_pool" "_law_pool" (defArgs s_law_pool) (defBody s_law_pool) (defScope s_law_pool) .none kV8 dc8 pm8 an8 cd8 ct8), sl8⟩) (c8 : PySem.W.codeIn K cd8 "_law_pool" = true) (k8 : PySem.W.keepIn K (.ref f8) = true)
    (a9 : PySem.W.nsIn K mainGlobals "_law_take" = some (some (.ref f9))) (l9 : K.lookup f9 = some ⟨oc9, od9, .func (PySem.W.fnOf "_law_take" "_law_take" (defArgs s_law_take) (defBody s_law_take) (defScope s_law_take) .none kV9 dc9 pm9 an9 cd9 ct9), sl9⟩) (c9 : PySem.W.codeIn K cd9 "_law_take" = true) (k9 : PySem.W.keepIn K (.ref f9) = true)
    (a10 : PySem.W.nsIn K mainGlobals "_law_word" = some (some (.ref f10))) (l10 : K.lookup f10 = some ⟨oc10, od10, .func (PySem.W.fnOf "_law_word" "_law_word" (defArgs s_law_word) (defBody s_law_word) (defScope s_law_word) .none kV10 dc10 pm10 an10 cd10 ct10), sl10⟩) (c10 : PySem.W.codeIn K cd10 "_law_word" = true) (k10 : PySem.W.keepIn K (.ref f10) = true)
    (a11 : PySem.W.nsIn K mainGlobals "_law_signature" = some (some (.ref f11))) (l11 : K.lookup f11 = some ⟨oc11, od11, .func (PySem.W.fnOf "_law_signature" "_law_signature" (defArgs s_law_signature) (defBody s_law_signature) (defScope s_law_signature) .none kV11 dc11 pm11 an11 cd11 ct11), sl11⟩) (c11 : PySem.W.codeIn K cd11 "_law_signature" = true) (k11 : PySem.W.keepIn K (.ref f11) = true)
    (a12 : PySem.W.nsIn K mainGlobals "_law_integer" = some (some (.ref f12))) (l12 : K.lookup f12 = some ⟨oc12, od12, .func (PySem.W.fnOf "_law_integer" "_law_integer" (defArgs s_law_integer) (defBody s_law_integer) (defScope s_law_integer) .none kV12 dc12 pm12 an12 cd12 ct12), sl12⟩) (c12 : PySem.W.codeIn K cd12 "_law_integer" = true) (k12 : PySem.W.keepIn K (.ref f12) = true)
    (a13 : PySem.W.nsIn K mainGlobals "_law_leaf" = some (some (.ref f13))) (l13 : K.lookup f13 = some ⟨oc13, od13, .func (PySem.W.fnOf "_law_leaf" "_law_leaf" (defArgs s_law_leaf) (defBody s_law_leaf) (defScope s_law_leaf) .none kV13 dc13 pm13 an13 cd13 ct13), sl13⟩) (c13 : PySem.W.codeIn K cd13 "_law_leaf" = true) (k13 : PySem.W.keepIn K (.ref f13) = true)
    (a14 : PySem.W.nsIn K mainGlobals "_law_high" = some (some (.ref f14))) (l14 : K.lookup f14 = some ⟨oc14, od14, .func (PySem.W.fnOf "_law_high" "_law_high" (defArgs s_law_high) (defBody s_law_high) (defScope s_law_high) .none kV14 dc14 pm14 an14 cd14 ct14), sl14⟩) (c14 : PySem.W.codeIn K cd14 "_law_high" = true) (k14 : PySem.W.keepIn K (.ref f14) = true)
    (a15 : PySem.W.nsIn K mainGlobals "_law_grown" = some (some (.ref f15))) (l15 : K.lookup f15 = some ⟨oc15, od15, .func (PySem.W.fnOf "_law_grown" "_law_grown" (defArgs s_law_grown) (defBody s_law_grown) (defScope s_law_grown) .none kV15 dc15 pm15 an15 cd15 ct15), sl15⟩) (c15 : PySem.W.codeIn K cd15 "_law_grown" = true) (k15 : PySem.W.keepIn K (.ref f15) = true)
    (a16 : PySem.W.nsIn K mainGlobals "_law_term" = some (some (.ref f16))) (l16 : K.lookup f16 = some ⟨oc16, od16, .func (PySem.W.fnOf "_law_term" "_law_term" (defArgs s_law_term) (defBody s_law_term) (defScope s_law_term) .none kV16 dc16 pm16 an16 cd16 ct16), sl16⟩) (c16 : PySem.W.codeIn K cd16 "_law_term" = true) (k16 : PySem.W.keepIn K (.ref f16) = true)
    (a17 : PySem.W.nsIn K mainGlobals "_law_fill" = some (some (.ref f17))) (l17 : K.lookup f17 = some ⟨oc17, od17, .func (PySem.W.fnOf "_law_fill" "_law_fill" (defArgs s_law_fill) (defBody s_law_fill) (defScope s_law_fill) .none kV17 dc17 pm17 an17 cd17 ct17), sl17⟩) (c17 : PySem.W.codeIn K cd17 "_law_fill" = true) (k17 : PySem.W.keepIn K (.ref f17) = true)
    (a18 : PySem.W.nsIn K mainGlobals "_law_is_integer" = some (some (.ref f18))) (l18 : K.lookup f18 = some ⟨oc18, od18, .func (PySem.W.fnOf "_law_is_integer" "_law_is_integer" (defArgs s_law_is_integer) (defBody s_law_is_integer) (defScope s_law_is_integer) .none kV18 dc18 pm18 an18 cd18 ct18), sl18⟩) (c18 : PySem.W.codeIn K cd18 "_law_is_integer" = true) (k18 : PySem.W.keepIn K (.ref f18) = true)
    (a19 : PySem.W.nsIn K mainGlobals "_law_same" = some (some (.ref f19))) (l19 : K.lookup f19 = some ⟨oc19, od19, .func (PySem.W.fnOf "_law_same" "_law_same" (defArgs s_law_same) (defBody s_law_same) (defScope s_law_same) .none kV19 dc19 pm19 an19 cd19 ct19), sl19⟩) (c19 : PySem.W.codeIn K cd19 "_law_same" = true) (k19 : PySem.W.keepIn K (.ref f19) = true)
    (a20 : PySem.W.nsIn K mainGlobals "_law_count" = some (some (.ref f20))) (l20 : K.lookup f20 = some ⟨oc20, od20, .func (PySem.W.fnOf "_law_count" "_law_count" (defArgs s_law_count) (defBody s_law_count) (defScope s_law_count) .none kV20 dc20 pm20 an20 cd20 ct20), sl20⟩) (c20 : PySem.W.codeIn K cd20 "_law_count" = true) (k20 : PySem.W.keepIn K (.ref f20) = true)
    (a21 : PySem.W.nsIn K mainGlobals "_law_chain" = some (some (.ref f21))) (l21 : K.lookup f21 = some ⟨oc21, od21, .func (PySem.W.fnOf "_law_chain" "_law_chain" (defArgs s_law_chain) (defBody s_law_chain) (defScope s_law_chain) .none kV21 dc21 pm21 an21 cd21 ct21), sl21⟩) (c21 : PySem.W.codeIn K cd21 "_law_chain" = true) (k21 : PySem.W.keepIn K (.ref f21) = true)
    (a22 : PySem.W.nsIn K mainGlobals "_law_limited" = some (some (.ref f22))) (l22 : K.lookup f22 = some ⟨oc22, od22, .func (PySem.W.fnOf "_law_limited" "_law_limited" (defArgs s_law_limited) (defBody s_law_limited) (defScope s_law_limited) .none kV22 dc22 pm22 an22 cd22 ct22), sl22⟩) (c22 : PySem.W.codeIn K cd22 "_law_limited" = true) (k22 : PySem.W.keepIn K (.ref f22) = true)
    (a23 : PySem.W.nsIn K mainGlobals "_law_plain" = some (some (.ref f23))) (l23 : K.lookup f23 = some ⟨oc23, od23, .func (PySem.W.fnOf "_law_plain" "_law_plain" (defArgs s_law_plain) (defBody s_law_plain) (defScope s_law_plain) .none kV23 dc23 pm23 an23 cd23 ct23), sl23⟩) (c23 : PySem.W.codeIn K cd23 "_law_plain" = true) (k23 : PySem.W.keepIn K (.ref f23) = true)
    (a24 : PySem.W.nsIn K mainGlobals "_law_wide" = some (some (.ref f24))) (l24 : K.lookup f24 = some ⟨oc24, od24, .func (PySem.W.fnOf "_law_wide" "_law_wide" (defArgs s_law_wide) (defBody s_law_wide) (defScope s_law_wide) .none kV24 dc24 pm24 an24 cd24 ct24), sl24⟩) (c24 : PySem.W.codeIn K cd24 "_law_wide" = true) (k24 : PySem.W.keepIn K (.ref f24) = true)
    (a25 : PySem.W.nsIn K mainGlobals "_law_edge" = some (some (.ref f25))) (l25 : K.lookup f25 = some ⟨oc25, od25, .func (PySem.W.fnOf "_law_edge" "_law_edge" (defArgs s_law_edge) (defBody s_law_edge) (defScope s_law_edge) .none kV25 dc25 pm25 an25 cd25 ct25), sl25⟩) (c25 : PySem.W.codeIn K cd25 "_law_edge" = true) (k25 : PySem.W.keepIn K (.ref f25) = true)
    (a26 : PySem.W.nsIn K mainGlobals "_law_below" = some (some (.ref f26))) (l26 : K.lookup f26 = some ⟨oc26, od26, .func (PySem.W.fnOf "_law_below" "_law_below" (defArgs s_law_below) (defBody s_law_below) (defScope s_law_below) .none kV26 dc26 pm26 an26 cd26 ct26), sl26⟩) (c26 : PySem.W.codeIn K cd26 "_law_below" = true) (k26 : PySem.W.keepIn K (.ref f26) = true)
    (a27 : PySem.W.nsIn K mainGlobals "_law_tall" = some (some (.ref f27))) (l27 : K.lookup f27 = some ⟨oc27, od27, .func (PySem.W.fnOf "_law_tall" "_law_tall" (defArgs s_law_tall) (defBody s_law_tall) (defScope s_law_tall) .none kV27 dc27 pm27 an27 cd27 ct27), sl27⟩) (c27 : PySem.W.codeIn K cd27 "_law_tall" = true) (k27 : PySem.W.keepIn K (.ref f27) = true)
    (a28 : PySem.W.nsIn K mainGlobals "law" = some (some (.ref f28))) (l28 : K.lookup f28 = some ⟨oc28, od28, .func (PySem.W.fnOf "law" "law" (defArgs s_law) (defBody s_law) (defScope s_law) .none kV28 dc28 pm28 an28 cd28 ct28), sl28⟩) (c28 : PySem.W.codeIn K cd28 "law" = true) (k28 : PySem.W.keepIn K (.ref f28) = true)
    (z_len : PySem.W.nsIn K mainGlobals "len" = some none) (z_int : PySem.W.nsIn K mainGlobals "int" = some none) (z_range : PySem.W.nsIn K mainGlobals "range" = some none) (z_min : PySem.W.nsIn K mainGlobals "min" = some none) (z_str : PySem.W.nsIn K mainGlobals "str" = some none) (z_tuple : PySem.W.nsIn K mainGlobals "tuple" = some none) (z_sorted : PySem.W.nsIn K mainGlobals "sorted" = some none) (z_isinstance : PySem.W.nsIn K mainGlobals "isinstance" = some none) (z_any : PySem.W.nsIn K mainGlobals "any" = some none) (z_all : PySem.W.nsIn K mainGlobals "all" = some none) (z_list : PySem.W.nsIn K mainGlobals "list" = some none) (z_bool : PySem.W.nsIn K mainGlobals "bool" = some none) (z_zip : PySem.W.nsIn K mainGlobals "zip" = some none) (z_reversed : PySem.W.nsIn K mainGlobals "reversed" = some none) (z_dict : PySem.W.nsIn K mainGlobals "dict" = some none) (z_sum : PySem.W.nsIn K mainGlobals "sum" = some none) (z_max : PySem.W.nsIn K mainGlobals "max" = some none) (z_set : PySem.W.nsIn K mainGlobals "set" = some none) (z_repr : PySem.W.nsIn K mainGlobals "repr" = some none)
    {ti0 : Tok} (gi0 : PySem.W.nsIn K mainGlobals "MOST_HEIGHT" = some (some (.int 200 ti0)))
    {aF : Addr} {odaF : Option Addr} {naF : Nat} {slaF : Array (Option Value)} {uaF0 uaF1 uaF2 uaF3 : Tok} (gtaF : PySem.W.nsIn K mainGlobals "_FORMS" = some (some (.ref aF))) (ltaF : K.lookup aF = some ⟨.type "tuple", odaF, .seq #[.str "get" uaF0, .str "set" uaF1, .str "plus" uaF2, .str "minus" uaF3] naF, slaF⟩)
    {D5 : Addr} {v5_0 : Tok} (ek5 : kV5 = .ref D5) (nk5_0 : PySem.W.nsIn K D5 "most" = some (some (.int 4000 v5_0)))
    {CL CP : Addr}
    (aCL : PySem.W.nsIn K mainGlobals "TooLarge" = some (some (.ref CL)))
    (aCP : PySem.W.nsIn K mainGlobals "PassError" = some (some (.ref CP)))
    (xL : PySem.W.excIn K CL [.type "ValueError", .type "Exception", .type "BaseException", .type "object"] "ValueError.__new__" = true)
    (kL : PySem.W.keepIn K (.ref CL) = true)
    (bL : PySem.W.subIn K (.ref CL) (.type "BaseException") = some true)
    (tL : PySem.W.typeIn K (.ref CL) = some (.type "type"))
    (iL : PySem.W.isClsIn K CL = true)
    (sL : PySem.W.subIn K (.ref CL) (.ref CL) = some true)
    (iP : PySem.W.isClsIn K CP = true)
    (tP : PySem.W.typeIn K (.ref CP) = some (.type "type"))
    (sLP : PySem.W.subIn K (.ref CL) (.ref CP) = some true)
    (gaL : PySem.W.findIn K (.ref CL) "__getattribute__" = some (some (.builtin "BaseException.__getattribute__")))
    (ggL : PySem.W.findIn K (.ref CL) "__getattr__" = some none)
    (hCL : PySem.W.hasDictIn K CL = true)
    (ccL : PySem.W.findIn K (.ref CL) "__class__" = some (some (.builtin "object.__class__")))
    (sp1 : PySem.W.specialIn K (.builtin "object.__class__") "__get__" = some (some (.builtin "getset_descriptor.__get__")))
    (sp2 : PySem.W.takesIn K (.builtin "object.__class__") = some true)
    (moL : PySem.W.mroIn K CL (.type "object") = some true) :
    ∃ fd : FuncData, (∀ (s : Shared) (v : Value), BindsTo s fd ⟨[v], []⟩ [("script", v)]) ∧ ∀ base : Heap, K.In base → base.Ns mainGlobals mg → FnG.FnG l.prog w K mg base CX0 201 fa fd ["script"] (spLaw K) := by
  have e := hfa.symm.trans (PySem.W.mg_of X G a28)
  cases e
  have F1 := fun_mk (st := s_children) l1 c1 k1
  have b1 := F1.binds (ps := ["term"]) fun _ _ _ _ _ _ us hl => match us, hl with | [_], _ => rfl
  have m1 := PySem.W.mg_of X G a1
  have F2 := fun_mk (st := s_rebuild) l2 c2 k2
  have b2 := F2.binds (ps := ["term", "parts"]) fun _ _ _ _ _ _ us hl => match us, hl with | [_, _], _ => rfl
  have m2 := PySem.W.mg_of X G a2
  have F3 := fun_mk (st := s_assembled) l3 c3 k3
  have b3 := F3.binds (ps := ["heads"]) fun _ _ _ _ _ _ us hl => match us, hl with | [_], _ => rfl
  have m3 := PySem.W.mg_of X G a3
  have F4 := fun_mk (st := s_parts_of) l4 c4 k4
  have b4 := F4.binds (ps := ["term"]) fun _ _ _ _ _ _ us hl => match us, hl with | [_], _ => rfl
  have m4 := PySem.W.mg_of X G a4
  subst ek5
  have F5 : FunD K "fill" "fill" (defArgs s_fill) (defBody s_fill) (defScope s_fill) [] [("most", V.int 4000)] f5 _ := ⟨⟨_, _, _, _, _, _, _, _, _, _, rfl, l5, c5, .inl ⟨rfl, rfl⟩, .inr ⟨D5, rfl, fun q hq => by
    rw [List.mem_singleton.mp hq]
    exact ⟨_, nk5_0, ⟨_, rfl⟩⟩⟩⟩, k5⟩
  have b5 := FunD.binds0 (ps := ["term", "bindings", "most"]) F5 2 (by simp) (by rfl) fun _ _ _ _ _ _ us ks hl hk => match us, hl, ks, hk with | [_, _], _, [_], _ => ⟨_, _, _, _, _, _, rfl, rfl, rfl⟩
  have m5 := PySem.W.mg_of X G a5
  have F6 := fun_mk (st := s_is_bound) l6 c6 k6
  have b6 := F6.binds (ps := ["part", "bindings"]) fun _ _ _ _ _ _ us hl => match us, hl with | [_, _], _ => rfl
  have m6 := PySem.W.mg_of X G a6
  have F7 := fun_mk (st := s_check_room) l7 c7 k7
  have b7 := F7.binds (ps := ["term", "bindings", "most"]) fun _ _ _ _ _ _ us hl => match us, hl with | [_, _, _], _ => rfl
  have m7 := PySem.W.mg_of X G a7
  have F8 := fun_mk (st := s_law_pool) l8 c8 k8
  have b8 := F8.binds (ps := ["script"]) fun _ _ _ _ _ _ us hl => match us, hl with | [_], _ => rfl
  have m8 := PySem.W.mg_of X G a8
  have F9 := fun_mk (st := s_law_take) l9 c9 k9
  have b9 := F9.binds (ps := ["pool", "many"]) fun _ _ _ _ _ _ us hl => match us, hl with | [_, _], _ => rfl
  have m9 := PySem.W.mg_of X G a9
  have F10 := fun_mk (st := s_law_word) l10 c10 k10
  have b10 := F10.binds (ps := ["pool", "k", "shift"]) fun _ _ _ _ _ _ us hl => match us, hl with | [_, _, _], _ => rfl
  have m10 := PySem.W.mg_of X G a10
  have F11 := fun_mk (st := s_law_signature) l11 c11 k11
  have b11 := F11.binds (ps := ["pool", "shift"]) fun _ _ _ _ _ _ us hl => match us, hl with | [_, _], _ => rfl
  have m11 := PySem.W.mg_of X G a11
  have F12 := fun_mk (st := s_law_integer) l12 c12 k12
  have b12 := F12.binds (ps := ["pool"]) fun _ _ _ _ _ _ us hl => match us, hl with | [_], _ => rfl
  have m12 := PySem.W.mg_of X G a12
  have F13 := fun_mk (st := s_law_leaf) l13 c13 k13
  have b13 := F13.binds (ps := ["pool", "words", "metas"]) fun _ _ _ _ _ _ us hl => match us, hl with | [_, _, _], _ => rfl
  have m13 := PySem.W.mg_of X G a13
  have F14 := fun_mk (st := s_law_high) l14 c14 k14
  have b14 := F14.binds (ps := ["parts"]) fun _ _ _ _ _ _ us hl => match us, hl with | [_], _ => rfl
  have m14 := PySem.W.mg_of X G a14
  have F15 := fun_mk (st := s_law_grown) l15 c15 k15
  have b15 := F15.binds (ps := ["pool", "stack", "signature", "words", "metas"]) fun _ _ _ _ _ _ us hl => match us, hl with | [_, _, _, _, _], _ => rfl
  have m15 := PySem.W.mg_of X G a15
  have F16 := fun_mk (st := s_law_term) l16 c16 k16
  have b16 := F16.binds (ps := ["pool", "signature", "words", "metas", "most"]) fun _ _ _ _ _ _ us hl => match us, hl with | [_, _, _, _, _], _ => rfl
  have m16 := PySem.W.mg_of X G a16
  have F17 := fun_mk (st := s_law_fill) l17 c17 k17
  have b17 := F17.binds (ps := ["term", "bindings"]) fun _ _ _ _ _ _ us hl => match us, hl with | [_, _], _ => rfl
  have m17 := PySem.W.mg_of X G a17
  have F18 := fun_mk (st := s_law_is_integer) l18 c18 k18
  have b18 := F18.binds (ps := ["actual"]) fun _ _ _ _ _ _ us hl => match us, hl with | [_], _ => rfl
  have m18 := PySem.W.mg_of X G a18
  have F19 := fun_mk (st := s_law_same) l19 c19 k19
  have b19 := F19.binds (ps := ["actual", "due"]) fun _ _ _ _ _ _ us hl => match us, hl with | [_, _], _ => rfl
  have m19 := PySem.W.mg_of X G a19
  have F20 := fun_mk (st := s_law_count) l20 c20 k20
  have b20 := F20.binds (ps := ["term"]) fun _ _ _ _ _ _ us hl => match us, hl with | [_], _ => rfl
  have m20 := PySem.W.mg_of X G a20
  have F21 := fun_mk (st := s_law_chain) l21 c21 k21
  have b21 := F21.binds (ps := ["term", "many", "word"]) fun _ _ _ _ _ _ us hl => match us, hl with | [_, _, _], _ => rfl
  have m21 := PySem.W.mg_of X G a21
  have F22 := fun_mk (st := s_law_limited) l22 c22 k22
  have b22 := F22.binds (ps := ["term", "bindings", "most"]) fun _ _ _ _ _ _ us hl => match us, hl with | [_, _, _], _ => rfl
  have m22 := PySem.W.mg_of X G a22
  have F23 := fun_mk (st := s_law_plain) l23 c23 k23
  have b23 := F23.binds (ps := ["term", "bindings"]) fun _ _ _ _ _ _ us hl => match us, hl with | [_, _], _ => rfl
  have m23 := PySem.W.mg_of X G a23
  have F24 := fun_mk (st := s_law_wide) l24 c24 k24
  have b24 := F24.binds (ps := ["pool", "word"]) fun _ _ _ _ _ _ us hl => match us, hl with | [_, _], _ => rfl
  have m24 := PySem.W.mg_of X G a24
  have F25 := fun_mk (st := s_law_edge) l25 c25 k25
  have b25 := F25.binds (ps := ["more", "words"]) fun _ _ _ _ _ _ us hl => match us, hl with | [_, _], _ => rfl
  have m25 := PySem.W.mg_of X G a25
  have F26 := fun_mk (st := s_law_below) l26 c26 k26
  have b26 := F26.binds (ps := ["term", "many", "word"]) fun _ _ _ _ _ _ us hl => match us, hl with | [_, _, _], _ => rfl
  have m26 := PySem.W.mg_of X G a26
  have F27 := fun_mk (st := s_law_tall) l27 c27 k27
  have b27 := F27.binds (ps := ["pool", "words"]) fun _ _ _ _ _ _ us hl => match us, hl with | [_, _], _ => rfl
  have m27 := PySem.W.mg_of X G a27
  have F28 := fun_mk (st := s_law) l28 c28 k28
  have y_len := PySem.W.mg_none_of X G z_len
  have y_int := PySem.W.mg_none_of X G z_int
  have y_range := PySem.W.mg_none_of X G z_range
  have y_min := PySem.W.mg_none_of X G z_min
  have y_str := PySem.W.mg_none_of X G z_str
  have y_tuple := PySem.W.mg_none_of X G z_tuple
  have y_sorted := PySem.W.mg_none_of X G z_sorted
  have y_isinstance := PySem.W.mg_none_of X G z_isinstance
  have y_any := PySem.W.mg_none_of X G z_any
  have y_all := PySem.W.mg_none_of X G z_all
  have y_list := PySem.W.mg_none_of X G z_list
  have y_bool := PySem.W.mg_none_of X G z_bool
  have y_zip := PySem.W.mg_none_of X G z_zip
  have y_reversed := PySem.W.mg_none_of X G z_reversed
  have y_dict := PySem.W.mg_none_of X G z_dict
  have y_sum := PySem.W.mg_none_of X G z_sum
  have y_max := PySem.W.mg_none_of X G z_max
  have y_set := PySem.W.mg_none_of X G z_set
  have y_repr := PySem.W.mg_none_of X G z_repr
  have yi0 : ∃ t, mg _ = some (.int _ t) := ⟨_, PySem.W.mg_of X G gi0⟩
  have ytaF := PySem.W.mg_of X G gtaF
  have yqaF : ∀ H, SqT K H aF [V.str "get", V.str "set", V.str "plus", V.str "minus"] := fun H => .inr ⟨_, _, _, ltaF, rfl, rfl, small (by show 4 ≤ _; decide), .cons ⟨_, rfl⟩ (.cons ⟨_, rfl⟩ (.cons ⟨_, rfl⟩ (.cons ⟨_, rfl⟩ (.nil))))⟩
  refine ⟨PySem.W.fnOf "law" "law" (defArgs s_law) (defBody s_law) (defScope s_law) .none kV28 dc28 pm28 an28 cd28 ct28, fun s v => .of_eq rfl, fun base _ _ => ?_⟩
  have T : Txt K mg := ⟨y_len, y_int, y_range, y_min, y_str, y_tuple, y_sorted, y_isinstance, y_any, y_all, y_list, y_bool⟩
  have TZ : TxtZ K mg aF := ⟨⟨T, ytaF, yqaF⟩, y_zip, y_reversed, y_dict, y_sum⟩
  have TK : TxtK K mg := ⟨T, y_max, y_set⟩
  have TM : TxtM K mg := ⟨TK, y_zip, y_dict, yi0⟩
  have TL : TxtL K mg CL CP := ⟨TM, y_sum, PySem.W.mg_of X G aCL, xL, kL, bL, tL, exm_self bL iL tL sL, PySem.W.mg_of X G aCP, ⟨gaL, ggL, bL, hCL, ccL, sp1, sp2, moL⟩, kit_t iP tP sLP⟩
  have take0 : C8.Cal l.prog w K mg base 0 "_law_take" (spTake 0) [] := cal_mk (none_ok (fun vs H Q E h => by obtain ⟨_, _, _, _, _, _, _, _, h, _⟩ := h; omega)) m9 k9 b9
  have take1 : C8.Cal l.prog w K mg base 1 "_law_take" (spTake 1) [] := cal_mk (ok_take F9 T take0) m9 k9 b9
  have take : C8.Cal l.prog w K mg base 2 "_law_take" (spTake 2) [] := cal_mk (ok_take F9 T take1) m9 k9 b9
  have pool : C8.Cal l.prog w K mg base 1 "_law_pool" (spPool K) [] := cal_mk (ok_pool F8) m8 k8 b8
  have kidsV : C8.Cal l.prog w K mg base 1 "children" (spKidsV K) [] := cal_mk (ok_kidsV F1 TZ.toTxtT) m1 k1 b1
  have reb : C8.Cal l.prog w K mg base 1 "rebuild" (spRebuild K) [] := cal_mk (ok_rebuild F2 TZ) m2 k2 b2
  have asm : C8.Cal l.prog w K mg base 2 "assembled" (spAsm K) [] := cal_mk (ok_asm F3 TZ reb) m3 k3 b3
  have parts : GenF.CalG l.prog w K mg base 3 "parts_of" (spParts K) := ⟨_, _, _, ok_parts F4 kidsV, m4, k4, b4⟩
  have bound : C8.Cal l.prog w K mg base 1 "_is_bound" (spBound K) [] := cal_mk (ok_bound F6 T) m6 k6 b6
  have room : CalR l.prog w K mg base 2 "_check_room" (spRoom K CL) := ⟨_, _, _, ok_room F7 TL kidsV bound, m7, k7, b7⟩
  obtain ⟨mv5, kb5⟩ := FunD.kbinds0 (ps := ["term", "bindings", "most"]) F5 2 ["most"] [] (fun vs _ zs => vs ++ zs) (by simp) (fun q hq => nomatch hq) (fun r1 _ r3 => r1.append r3) (fun _ _ _ _ _ _ us mv ws h1 h2 h3 => match us, h1, mv, h2, ws, h3 with | [_, _], _, [], _, [_], _ => rfl)
  have fil : PKW.CalF l.prog w K mg base 4 "fill" (spFill K CL) 2 ["most"] [.int 4000] := by
    obtain ⟨ds, vd, bd⟩ := b5
    exact ⟨_, _, _, ok_fill F5 TL kidsV bound room parts asm, m5, k5, ⟨ds, vd, bd⟩, ⟨_, kb5⟩⟩
  have word : C8.Cal l.prog w K mg base 3 "_law_word" (spLWord) [] := cal_mk (ok_lword F10 T take) m10 k10 b10
  have sig : C8.Cal l.prog w K mg base 4 "_law_signature" (spSig) [] := cal_mk (ok_sig F11 T take word) m11 k11 b11
  have intg : C8.Cal l.prog w K mg base 3 "_law_integer" (spIntg) [] := cal_mk (ok_intg F12 take) m12 k12 b12
  have leaf : C8.Cal l.prog w K mg base 4 "_law_leaf" (spLeaf K) [] := cal_mk (ok_leaf F13 T take intg) m13 k13 b13
  have high : C8.Cal l.prog w K mg base 1 "_law_high" (spHigh K) [] := cal_mk (ok_high F14 TK) m14 k14 b14
  have grown : C8.Cal l.prog w K mg base 5 "_law_grown" (spGrown K) [] := cal_mk (ok_grown F15 TK take leaf high) m15 k15 b15
  have term : C8.Cal l.prog w K mg base 6 "_law_term" (spTerm K) [] := cal_mk (ok_term F16 TK take grown) m16 k16 b16
  have fls : ∀ n : Nat, C8.Cal l.prog w K mg base (n) "_law_fill" (spFl K n) [] := fun n => by
    induction n with
    | zero => exact cal_mk (none_ok (fun vs H Q E h => by obtain ⟨_, _, _, t, _, _, _, _, _, _, h, _⟩ := h; have := t.ht_pos; omega)) m17 k17 b17
    | succ n ih => exact cal_mk (ok_lfill F17 TL ih) m17 k17 b17
  have isint : C8.Cal l.prog w K mg base 1 "_law_is_integer" (spInt) [] := cal_mk (ok_isint F18 T) m18 k18 b18
  have sames : ∀ n : Nat, C8.Cal l.prog w K mg base (n + 1) "_law_same" (spSame K n) [] := fun n => by
    induction n with
    | zero => exact cal_mk (none_ok (fun vs H Q E h => by obtain ⟨_, _, _, _, _, _, h, _⟩ := h; omega)) m19 k19 b19
    | succ n ih => exact cal_mk (ok_same F19 T isint ih) m19 k19 b19
  have cts : ∀ n : Nat, C8.Cal l.prog w K mg base (n) "_law_count" (spCt K n) [] := fun n => by
    induction n with
    | zero => exact cal_mk (none_ok (fun vs H Q E h => by obtain ⟨_, t, _, _, h, _⟩ := h; have := t.ht_pos; omega)) m20 k20 b20
    | succ n ih => exact cal_mk (ok_count F20 TL ih) m20 k20 b20
  have chain : C8.Cal l.prog w K mg base 1 "_law_chain" (spCh K) [] := cal_mk (ok_chain F21 T) m21 k21 b21
  have lim : C8.Cal l.prog w K mg base 5 "_law_limited" (spLim K) [] := cal_mk (ok_limited F22 TL fil) m22 k22 b22
  have plain : C8.Cal l.prog w K mg base 5 "_law_plain" (spPlain K) [] := cal_mk (ok_plain F23 TL fil) m23 k23 b23
  have wide : C8.Cal l.prog w K mg base 3 "_law_wide" (spWide K) [] := cal_mk (ok_wide F24 TL take) m24 k24 b24
  have edge : C8.Cal l.prog w K mg base 101 "_law_edge" (spEdge K) [] := cal_mk (ok_edge F25 TL (fls 60) (cts 100) lim plain) m25 k25 b25
  have below : C8.Cal l.prog w K mg base 1 "_law_below" (spBelow K) [] := cal_mk (ok_below F26 TL) m26 k26 b26
  have tall : C8.Cal l.prog w K mg base 6 "_law_tall" (spTall K) [] := cal_mk (ok_tall F27 TL take chain below plain) m27 k27 b27
  exact ok_law F28 TL y_repr pool take word sig term tall edge wide (fls 60) (cts 100) lim plain (sames 199) fil
theorem walk {l : PySem.W.OpenLaw} {q : Program} {loose : List Str} {XP : (Str → Option Value) → Heap → Prop} {YP : World → Heap → Prop} {d : DefRec} {K : Params → PySem.W.Frag} (hn : l.most = some 63) (hdf : d.params.defaults = [])
    (hY : ∀ (w : World) (h : Heap), YP w h → (K w.params).In h)
    (F : ∀ (w : World) (mg : Str → Option Value) (fa : Addr) (h : Heap), (K w.params).In h → h.Ns mainGlobals mg → mg d.name = some (.ref fa) →
      ∃ fd : FuncData, (∀ (s : Shared) (u : Value), BindsTo s fd ⟨[u], []⟩ [("script", u)]) ∧ ∀ base : Heap, (K w.params).In base → base.Ns mainGlobals mg → FnG.FnG l.prog w (K w.params) mg base CX0 201 fa fd ["script"] (spLaw (K w.params))) :
    PySem.W.WalkO q loose XP YP l.row.toRowW d [] (fun f vs => PySem.call f vs) :=
  FnG.walk_ofG (n := 63) (k := 201) (x := "script") (CX := fun _ => CX0) (sp := fun w => spLaw (K w.params)) hn (by decide) hdf ⟨rfl, by decide, by decide⟩ hY F (fun _ _ a ns hl hS => ⟨a, ns, rfl, hS, hl, fun _ => rfl⟩) fun _ _ _ _ _ z => z
end PK
open PySem PySem.W PyProof.Rows in
set_option maxRecDepth 100000 in
set_option maxHeartbeats 0 in
theorem PySem.Challenge.cw_passproven_k05_filling_holds : PySem.Challenge.rw_passproven_k05_filling.Holds := by
  w_on; o_law; k_head; (case hw => w_witness2)
  k_fill
  refine PK.walk (l := PySem.Challenge.rw_passproven_k05_filling) rfl rfl (fun w h Y => PySem.W.kIn_of Y) ?F
  case F =>
    intro w mg fa h KX G hmg
    refine' PK.all_mk KX G hmg ?a1 ?l1 ?c1 ?k1 ?a2 ?l2 ?c2 ?k2 ?a3 ?l3 ?c3 ?k3 ?a4 ?l4 ?c4 ?k4 ?a5 ?l5 ?c5 ?k5 ?a6 ?l6 ?c6 ?k6 ?a7 ?l7 ?c7 ?k7 ?a8 ?l8 ?c8 ?k8 ?a9 ?l9 ?c9 ?k9 ?a10 ?l10 ?c10 ?k10 ?a11 ?l11 ?c11 ?k11 ?a12 ?l12 ?c12 ?k12 ?a13 ?l13 ?c13 ?k13 ?a14 ?l14 ?c14 ?k14 ?a15 ?l15 ?c15 ?k15 ?a16 ?l16 ?c16 ?k16 ?a17 ?l17 ?c17 ?k17 ?a18 ?l18 ?c18 ?k18 ?a19 ?l19 ?c19 ?k19 ?a20 ?l20 ?c20 ?k20 ?a21 ?l21 ?c21 ?k21 ?a22 ?l22 ?c22 ?k22 ?a23 ?l23 ?c23 ?k23 ?a24 ?l24 ?c24 ?k24 ?a25 ?l25 ?c25 ?k25 ?a26 ?l26 ?c26 ?k26 ?a27 ?l27 ?c27 ?k27 ?a28 ?l28 ?c28 ?k28 ?z_len ?z_int ?z_range ?z_min ?z_str ?z_tuple ?z_sorted ?z_isinstance ?z_any ?z_all ?z_list ?z_bool ?z_zip ?z_reversed ?z_dict ?z_sum ?z_max ?z_set ?z_repr ?gi0 ?gtaF ?ltaF ?ek5 ?nk5_0 ?aCL ?aCP ?xL ?kL ?bL ?tL ?iL ?sL ?iP ?tP ?sLP ?gaL ?ggL ?hCL ?ccL ?sp1 ?sp2 ?moL
    (case a1 => k_is)
    (case l1 => k_is)
    (case c1 => k_is)
    (case k1 => k_is)
    (case a2 => k_is)
    (case l2 => k_is)
    (case c2 => k_is)
    (case k2 => k_is)
    (case a3 => k_is)
    (case l3 => k_is)
    (case c3 => k_is)
    (case k3 => k_is)
    (case a4 => k_is)
    (case l4 => k_is)
    (case c4 => k_is)
    (case k4 => k_is)
    (case a5 => k_is)
    (case l5 => k_is)
    (case c5 => k_is)
    (case k5 => k_is)
    (case a6 => k_is)
    (case l6 => k_is)
    (case c6 => k_is)
    (case k6 => k_is)
    (case a7 => k_is)
    (case l7 => k_is)
    (case c7 => k_is)
    (case k7 => k_is)
    (case a8 => k_is)
    (case l8 => k_is)
    (case c8 => k_is)
    (case k8 => k_is)
    (case a9 => k_is)
    (case l9 => k_is)
    (case c9 => k_is)
    (case k9 => k_is)
    (case a10 => k_is)
    (case l10 => k_is)
    (case c10 => k_is)
    (case k10 => k_is)
    (case a11 => k_is)
    (case l11 => k_is)
    (case c11 => k_is)
    (case k11 => k_is)
    (case a12 => k_is)
    (case l12 => k_is)
    (case c12 => k_is)
    (case k12 => k_is)
    (case a13 => k_is)
    (case l13 => k_is)
    (case c13 => k_is)
    (case k13 => k_is)
    (case a14 => k_is)
    (case l14 => k_is)
    (case c14 => k_is)
    (case k14 => k_is)
    (case a15 => k_is)
    (case l15 => k_is)
    (case c15 => k_is)
    (case k15 => k_is)
    (case a16 => k_is)
    (case l16 => k_is)
    (case c16 => k_is)
    (case k16 => k_is)
    (case a17 => k_is)
    (case l17 => k_is)
    (case c17 => k_is)
    (case k17 => k_is)
    (case a18 => k_is)
    (case l18 => k_is)
    (case c18 => k_is)
    (case k18 => k_is)
    (case a19 => k_is)
    (case l19 => k_is)
    (case c19 => k_is)
    (case k19 => k_is)
    (case a20 => k_is)
    (case l20 => k_is)
    (case c20 => k_is)
    (case k20 => k_is)
    (case a21 => k_is)
    (case l21 => k_is)
    (case c21 => k_is)
    (case k21 => k_is)
    (case a22 => k_is)
    (case l22 => k_is)
    (case c22 => k_is)
    (case k22 => k_is)
    (case a23 => k_is)
    (case l23 => k_is)
    (case c23 => k_is)
    (case k23 => k_is)
    (case a24 => k_is)
    (case l24 => k_is)
    (case c24 => k_is)
    (case k24 => k_is)
    (case a25 => k_is)
    (case l25 => k_is)
    (case c25 => k_is)
    (case k25 => k_is)
    (case a26 => k_is)
    (case l26 => k_is)
    (case c26 => k_is)
    (case k26 => k_is)
    (case a27 => k_is)
    (case l27 => k_is)
    (case c27 => k_is)
    (case k27 => k_is)
    (case a28 => k_is)
    (case l28 => k_is)
    (case c28 => k_is)
    (case k28 => k_is)
    (case z_len => k_is)
    (case z_int => k_is)
    (case z_range => k_is)
    (case z_min => k_is)
    (case z_str => k_is)
    (case z_tuple => k_is)
    (case z_sorted => k_is)
    (case z_isinstance => k_is)
    (case z_any => k_is)
    (case z_all => k_is)
    (case z_list => k_is)
    (case z_bool => k_is)
    (case z_zip => k_is)
    (case z_reversed => k_is)
    (case z_dict => k_is)
    (case z_sum => k_is)
    (case z_max => k_is)
    (case z_set => k_is)
    (case z_repr => k_is)
    (case gi0 => k_is)
    (case gtaF => k_is)
    (case ltaF => k_is)
    (case ek5 => rfl)
    (case nk5_0 => k_is)
    (case aCL => k_is)
    (case aCP => k_is)
    (case xL => k_exc)
    (case kL => k_is)
    (case bL => k_is)
    (case tL => k_is)
    (case iL => k_is)
    (case sL => k_is)
    (case iP => k_is)
    (case tP => k_is)
    (case sLP => k_is)
    (case gaL => k_is)
    (case ggL => k_is)
    (case hCL => k_is)
    (case ccL => k_is)
    (case sp1 => k_is)
    (case sp2 => k_is)
    (case moL => k_is)
#print axioms PySem.Challenge.cw_passproven_k05_filling_holds
