import PyProof.Rows.All
import Wide.All
import OpenK.AllK
import Wide.FinOn
import HandS.ForMost
import HandS.GenList
import HandS.AnyAll
import HandS.EndTab
import PyProof.GenCompD
import PyProof.TupleOfGen
import HandS.IsInst
import HandS.Zip
import HandS.Flow
import HandS.More
import HandS.Style
import HandS.Lambda
import HandS.TupAny
import HandS.TupMul
import HandS.Conv
import HandS.Deep
import KE.GoesEnum
import HandS.Text
import HandS.FStr
import HandS.JoinGen
import HandS.RaiseMore
import KE.KIntText
import HandS.Star
import HandS.SortInts
import HandS.TryOnly
import HandS.TupSets
import HandS.Small
import HandS.Iter
import KE.KeyNested
import HandS.Dict
import HandS.TupLen
import HandS.Records
import HandS.DictTup
import HandS.DictComp
import KE.DataMinMax
import KE.DataCmp
import HandS.ExcInit
import HandS.ExcOwn
import KE.KExcIs
import HandS.ExcIs
import HandS.ExcField
import KE.KDflt
import HandS.EndOwn
import PySem.Challenge.RW_boxwitness_k01_programs_refused
set_option Elab.async false
set_option linter.all false
set_option maxRecDepth 100000
set_option maxHeartbeats 3000000
namespace Gx
open PySem PySem.Spec PyProof.Rows L2 GxR GenW

/-- the context of a generator expression's own frame -/
abbrev gxC (X : Cx) (A : Around) (s : Shared) (H : Hp) (cenv : Env) (fp : List Addr) (pn : List (Addr × Obj)) : Cx :=
  { X with A := A, s_0 := s, H_0 := H, env := cenv, outer := X.stack, stack := cenv :: X.stack, ex := fp, fn := fun _ => false, calm := true, pn := pn, xe := fun _ _ => False }

section
variable {X : Cx} {σ : L2.St} {H : Hp} {s : Shared} {pins : List (Addr × Obj)}
/-- the cells that a generator expression brings along are cells of the def around it -/
theorem brought {scope : Scope} {own : List (Str × Nat)} (I : Inv X pins σ H s) (bk : BlkOk X.N X.env.scope scope own) {n : Str} {c : Addr}
    (e : (cloFrom X.env.cells scope.names []).lookup n = some c) : X.env.cells.lookup n = some c ∧ c < s.heap.objs.size := by
  have fr : ∀ m, (m, NameKind.free) ∈ scope.names → ∃ d, X.env.cells.lookup m = some d := fun m hm =>
    (bk.free _ hm rfl).elim (fun z => I.ok.has _ (.inl z)) fun z => I.ok.has _ (.inr z)
  rcases cloFrom_mem (PySem.mem_of_lookup e) with z | ⟨z, ec⟩
  · exact absurd z (by simp)
  · obtain ⟨d, hd⟩ := fr n z
    rw [ec, hd]
    exact ⟨rfl, (I.cell n d hd).elim fun _ q => q.lt⟩
theorem carried {scope : Scope} {own : List (Str × Nat)} (I : Inv X pins σ H s) (bk : BlkOk X.N X.env.scope scope own) {n : Str} (e : scope.names.lookup n = some .free) :
    ∃ c, (cloFrom X.env.cells scope.names []).lookup n = some c ∧ X.env.cells.lookup n = some c := by
  obtain ⟨c, hc⟩ := mem_lookup (cloFrom_has (acc := []) (cells := X.env.cells) (PySem.mem_of_lookup e))
  exact ⟨c, hc, (brought I bk hc).1⟩
theorem gx_start {A : Around} {scope : Scope} {own : List (Str × Nat)} {fp : List Addr} {code : Value} {cenv : Env} {pn pins' : List (Addr × Obj)} {s5 : Shared}
    (I : Inv X pins σ H s) (ok : BlkOk X.N X.env.scope scope own) (hN : X.N.Nodup) (hfp : ∀ b ∈ fp, FpOk X pins H b ∧ b < s.heap.objs.size)
    (hcenv : cenv = genEnv scope (cloFrom X.env.cells scope.names []) s.heap.objs.size code builtinsNs X.env) (hcell : ∀ y ∈ scope.names, y.2 ≠ .cell)
    (hA : A.handled = none) (hfr : A.frames = some (cenv :: X.stack)) (hos : s5.os = s.os) (hb : AllBare s5.gens)
    (kp : ∀ b o, s.heap.get? b = some o → s5.heap.get? b = some o) (hn : ∃ m, s5.heap.Ns s.heap.objs.size m)
    (hpn : ∀ p ∈ pn ++ pins', s5.heap.get? p.1 = some p.2 ∧ s.heap.objs.size < p.1 ∧ ∀ v, p.2.data ≠ .cell v) :
    Inv (gxC X A s H cenv fp pn) pins' (wipe σ (own.map (·.2))) H s5 := by
  subst hcenv
  -- a name that is seen in the generator and not its own is one that it brings along
  have seen : ∀ (i : Nat) (n : Str), X.N[i]? = some n → i ∉ own.map (·.2) → Vis scope n → scope.names.lookup n = some .free := fun i n hi ni hv => by
    have mine : ∀ kd : NameKind, scope.names.lookup n = some kd → kd = .local ∨ kd = .cell → False := fun kd hk hor => by
      rcases ok.own _ (PySem.mem_of_lookup hk) hor with z | z
      · obtain ⟨⟨n', j⟩, hm, rfl⟩ := List.mem_map.mp z
        exact ni (List.mem_map.mpr ⟨_, hm, nodup_ix hN (ok.ix _ hm) hi⟩)
      · exact z (List.mem_of_getElem? hi)
    rcases hv with z | z | z
    · exact (mine _ z (.inl rfl)).elim
    · exact (mine _ z (.inr rfl)).elim
    · exact z
  have good : Cx.Ok (gxC X A s H (genEnv scope (cloFrom X.env.cells scope.names []) s.heap.objs.size code builtinsNs X.env) fp pn) := {
    mod := I.ok.mod
    kind := ok.kind
    glob := I.ok.glob
    blt := rfl
    above := Nat.le_refl _
    inj := fun n n' c e e' => I.ok.inj n n' c (brought I ok e).1 (brought I ok e').1
    has := fun n hk => by
      rcases hk with z | z
      · exact (hcell _ (PySem.mem_of_lookup z) rfl).elim
      · exact (carried I ok z).elim fun c q => ⟨c, q.1⟩
    cab := fun n c z _ => Bool.noConfusion z
    hd := fun _ => hA
    frames := hfr
    stk := .inr ⟨rfl, rfl⟩
    exf := fun b m => ⟨Nat.ne_of_lt (hfp b m).2, fun n c e => (hfp b m).1.2.2.2.2.1 n c (brought I ok e).1⟩
    bs := I.bs
    bsz := Nat.le_trans I.ok.bsz I.sz
    noex := fun b o e m => (hfp b m).1.2.2.2.1.elim (I.ok.noex b o e) fun z => Nat.lt_irrefl _ (Nat.lt_of_lt_of_le (Heap.lt_size e) (Nat.le_trans I.ok.bsz z))
    exfs := fun b m z => (List.mem_cons.mp (I.stkSub b z)).elim (hfp b m).1.2.1 (hfp b m).1.2.2.1
    funs := I.stack
    frf := I.stkFree }
  exact {
    ok := good
    os := hos
    bare := hb
    base := Un.kept kp
    loc := by
      obtain ⟨mm, hmm⟩ := hn
      refine ⟨mm, hmm, fun i n v hi hv vis => ?_⟩
      obtain ⟨hv', ni⟩ := wipe_some hv
      have fr := seen i n hi ni vis
      obtain ⟨m0, _, at0⟩ := I.loc
      have both := ok.free _ (PySem.mem_of_lookup fr) rfl
      obtain ⟨u, ru, lk⟩ := at0 i n v hi hv' (.inr both)
      obtain ⟨c, q1, q2⟩ := carried I ok fr
      refine ⟨u, ru, .inr ⟨.inr fr, c, q1, ?_⟩⟩
      rcases lk with ⟨z, _⟩ | ⟨_, d, qd, qc⟩
      · have z : X.env.scope.names.lookup n = some NameKind.local := z
        rcases both with y | y <;> exact absurd (z.symm.trans y) (by decide)
      · obtain rfl : c = d := Option.some.inj (q2.symm.trans qd)
        exact qc.keeps kp
    cell := fun n c e => (I.cell n c (brought I ok e).1).elim fun v q => ⟨v, q.keeps kp⟩
    free := I.hok.fresh (Nat.le_refl _)
    freeC := fun n c e => I.freeC n c (brought I ok e).1
    pin := fun p m => by
      obtain ⟨q1, q2, q3⟩ := hpn p m
      refine ⟨q1, I.hok.fresh (Nat.le_of_lt q2), Nat.ne_of_gt q2, fun z => ?_, q3⟩
      exact (List.mem_cons.mp (I.stkSub p.1 z)).elim (fun y => Nat.lt_irrefl _ (Nat.lt_trans q2 (y ▸ I.lt))) (I.nofs (Nat.le_of_lt q2))
    hok := I.hok.kept kp
    len := (wipe_length _ _).trans I.len }
end

/-- what the consumer holds (Ss: its own objects; Acc: what they bear), what it wants of an item, when it asks on, what it wants of the end -/
structure GP where
  Ss : List Addr
  Acc : List V → Heap → Prop
  stay : ∀ acc h h', Acc acc h → (∀ S ∈ Ss, ∀ o, h.get? S = some o → h'.get? S = some o) → Acc acc h'
  Yq : List V → V → Hp → Prop
  Rq : V → Prop
  En : List V → Hp → Prop
/-- the state when the generator is left for a while, or for ever -/
structure Held (X : Cx) (fp : List Addr) (H4 : Hp) (s4 : Shared) (a : Addr) (g : Nat) (Ss : List Addr) (s₀ : Shared) (H' : Hp) (s : Shared) : Prop where
  os : s.os = s4.os
  bare : AllBare s.gens
  un : Un (frs X.stack) fp H4 H' s4.heap s.heap
  hok : HOk X.prog X.w H' s.heap
  gen : s.heap.IsGen a g
  lim : s.heap.NoLimit
  own : ∀ S ∈ Ss, (∀ o, s₀.heap.get? S = some o → s.heap.get? S = some o) ∧ H' S = none
structure SleptG (Ss : List Addr) (s s' : Shared) : Prop where
  os : s'.os = s.os
  bare : AllBare s'.gens
  keep : ∀ b o, b ∉ Ss → s.heap.get? b = some o → s'.heap.get? b = some o
  own : ∀ S ∈ Ss, ∃ o, s'.heap.get? S = some o ∧ ∀ v, o.data ≠ .cell v
def YG (X : Cx) (fp : List Addr) (H4 : Hp) (s4 : Shared) (a : Addr) (g : Nat) (G : GP) : Protocol := fun n s₀ v s kap =>
  ∃ acc y H', RelV y v ∧ Held X fp H4 s4 a g G.Ss s₀ H' s ∧ G.Acc acc s.heap ∧ G.Yq acc y H' ∧ (G.Rq y → ∀ s', SleptG G.Ss s s' → G.Acc (acc ++ [y]) s'.heap → kap (.send .none) s')
def FG (X : Cx) (fp : List Addr) (H4 : Hp) (s4 : Shared) (a : Addr) (g : Nat) (G : GP) : Nat → Shared → Shared → Prop := fun n s₀ s =>
  ∃ acc H', Held X fp H4 s4 a g G.Ss s₀ H' s ∧ G.Acc acc s.heap ∧ G.En acc H'
abbrev RG (X : Cx) (fp : List Addr) (H4 : Hp) (s4 : Shared) (a : Addr) (g : Nat) (G : GP) : GenEnd := fun n s₀ r s =>
  ((r = .ok (.ret .none) ∨ r = .ok .next) ∧ FG X fp H4 s4 a g G n s₀ s) ∨ ∃ e, r = .error e ∧ (fun (_ : Value) (_ : Shared) => False) e s

/-- the reading: W by the turn, a measure, what was handed out and the heap -/
def GxW (J : It) (g : TG) (tt : TT) (te : TE) (vs : List Nat) (σ : L2.St) (G : GP) (W : Nat → Nat → List V → Hp → Prop) : Prop :=
  ∀ i m acc H, W i m acc H → (J.stop i H ∧ G.En acc H) ∨ (J.go i H ∧ ∃ Nx : List V → Hp → Prop, (∀ acc' H', Nx acc' H' → ∃ m', m' < m ∧ W (i + 1) m' acc' H') ∧
    ∀ x H', J.yld i H x H' → g x (wipe σ vs) H' fun σ2 H2 => wipe σ2 vs = wipe σ vs ∧ tt σ2 H2 fun b H3 => if b = true then te σ2 H3 fun y H4 => G.Yq acc y H4 ∧ (G.Rq y → Nx (acc ++ [y]) H4) else Nx acc H3)

section
variable {X : Cx} {σ : L2.St}
theorem Held.of {A : Around} {s4 : Shared} {H4 H' : Hp} {cenv : Env} {fp : List Addr} {a : Addr} {g : Nat} {go : Obj} {Ss : List Addr} {s₀ s : Shared} {σ' : L2.St} {more : List (Addr × Obj)}
    (hgo : ∀ h : Heap, h.get? a = some go → h.IsGen a g) (I : Inv (gxC X A s4 H4 cenv fp [(a, go)]) (pinsAt Ss s₀.heap ++ more) σ' H' s) (hS : ∀ S ∈ Ss, ∃ o, s₀.heap.get? S = some o) : Held X fp H4 s4 a g Ss s₀ H' s where
  os := I.os
  bare := I.bare
  un := I.base
  hok := I.hok
  gen := hgo _ (I.pin (a, go) (List.mem_append_left _ (List.mem_singleton.mpr rfl))).1
  lim := I.nolimit
  own := fun S hs => by
    obtain ⟨o, e⟩ := hS S hs
    have p := I.pin (S, o) (List.mem_append_right _ (List.mem_append_left _ (mem_pinsAt hs e)))
    exact ⟨fun o' e' => by rw [e] at e'; cases e'; exact p.1, p.2.1⟩

theorem seg_gx {A : Around} {elt tg iter : Expr} {ifs : List Expr} {scope : Scope} {pos : Pos} {it : Addr} {cenv : Env} {s4 : Shared} {H4 : Hp} {fp : List Addr} {a : Addr} {gi : Nat} {go : Obj} {tn : Nat → Heap → Prop} {J : It} {g : TG} {tt : TT} {te : TE} {vs : List Nat} {G : GP} {W : Nat → Nat → List V → Hp → Prop}
    (T : Turn X.prog X.w X.K tg J fp it tn) (hco : cenv.scope.isCoroutine = false) (hgo : ∀ h : Heap, h.get? a = some go → h.IsGen a gi)
    (hfp : ∀ b ∈ fp, b < s4.heap.objs.size) (ha : s4.heap.objs.size < a) (hSs : ∀ S ∈ G.Ss, s4.heap.objs.size < S ∧ S ≠ a) (hcl : cenv.locals = s4.heap.objs.size) (hcc : ∀ x c, cenv.cells.lookup x = some c → c < s4.heap.objs.size)
    (pg : PG (gxC X (A.over (.compLoop (.GeneratorExp elt [⟨tg, iter, ifs, 0⟩] scope pos) 0 (.ref it) .none cenv) []) s4 H4 cenv fp [(a, go)]) tg g)
    (pt : PTs (gxC X (A.over (.compLoop (.GeneratorExp elt [⟨tg, iter, ifs, 0⟩] scope pos) 0 (.ref it) .none cenv) []) s4 H4 cenv fp [(a, go)]) ifs tt)
    (pe : PE (gxC X (A.over (.compLoop (.GeneratorExp elt [⟨tg, iter, ifs, 0⟩] scope pos) 0 (.ref it) .none cenv) []) s4 H4 cenv fp [(a, go)]) elt te)
    (turn : GxW J g tt te vs σ G W) :
    ∀ (m n i : Nat) (acc : List V) (H5 : Hp) (s₀ s : Shared), m + 1 ≤ n → W i m acc H5 →
      Inv (gxC X (A.over (.compLoop (.GeneratorExp elt [⟨tg, iter, ifs, 0⟩] scope pos) 0 (.ref it) .none cenv) []) s4 H4 cenv fp [(a, go)]) (pinsAt G.Ss s₀.heap) (wipe σ vs) H5 s → tn i s.heap → (∀ b ∈ fp, H5 b = none) → G.Acc acc s.heap →
      (∀ S ∈ G.Ss, ∃ o, s₀.heap.get? S = some o ∧ ∀ v, o.data ≠ .cell v) →
      Seg (model X.prog X.w) A (RG X fp H4 s4 a gi G) (YG X fp H4 s4 a gi G) n s₀ (.compLoop (.GeneratorExp elt [⟨tg, iter, ifs, 0⟩] scope pos) 0 (.ref it) .none cenv)
        ((model X.prog X.w).den (.compLoop (.GeneratorExp elt [⟨tg, iter, ifs, 0⟩] scope pos) 0 (.ref it) .none cenv)) [] s := by
  generalize hAG : A.over (.compLoop (.GeneratorExp elt [⟨tg, iter, ifs, 0⟩] scope pos) 0 (.ref it) .none cenv) [] = AG at pg pt pe ⊢
  refine fun m => Nat.strongRecOn m fun m ih => ?_
  intro n i acc H5 s₀ s hn w5 I5 st5 n5 hAcc hS0
  have hS0' : ∀ S ∈ G.Ss, ∃ o, s₀.heap.get? S = some o := fun S hs => let ⟨o, e, _⟩ := hS0 S hs; ⟨o, e⟩
  have stat : ∀ {H' : Hp} (q : Shared), (∀ b ∈ fp, H' b = none) → ∀ b ∈ fp, FpOk (gxC X AG s4 H4 cenv fp [(a, go)]) (pinsAt G.Ss q.heap) H' b := fun {H'} q hn b hb =>
    ⟨hn b hb, (I5.ok.exf b hb).1, I5.ok.exfs b hb, .inl hb, fun x c e => (I5.ok.exf b hb).2 x c e, fun p hp z => by
      rcases List.mem_append.mp hp with inPn | hp
      · have e := List.mem_singleton.mp inPn
        rw [e] at z
        have := hfp b hb
        rw [← z] at this
        exact absurd (Nat.lt_trans ha this) (Nat.lt_irrefl _)
      · have := (hSs _ (of_pinsAt hp).1).1
        rw [z] at this
        exact absurd (Nat.lt_trans this (hfp b hb)) (Nat.lt_irrefl _)⟩
  show Seg _ A _ _ _ s₀ _ ((compTurn (.GeneratorExp elt [⟨tg, iter, ifs, 0⟩] scope pos) 0 (.ref it) .none cenv).onRaise (leaving cenv)) [] s
  rw [Sem.onRaise_eq_wrap, compTurn_gen]
  refine seg_bind_wrap (m := standAt iter.pos) (wpAny_standAt ?_)
  rcases turn i m acc H5 w5 with ⟨stop, en⟩ | ⟨go', Nx, hNx, step⟩
  · refine seg_bind_wrap ?_
    rw [hAG]
    refine wpAny_mono (T.done (gxC X AG s4 H4 cenv fp [(a, go)]) rfl rfl rfl rfl i _ s _ H5 (fun _ _ => False) I5 (stat s₀ n5) st5 stop) (fun r s6 ⟨hr, I6⟩ => ?_) fun _ _ z => False.elim z
    subst hr
    have hd : Held X fp H4 s4 a gi G.Ss s₀ H5 s6 := Held.of (more := []) hgo (by rw [List.append_nil]; exact I6) hS0'
    refine seg_end (.ok .next) (.inl ⟨.inr rfl, acc, H5, hd, ?_, en⟩)
    refine G.stay acc _ _ hAcc fun S hs o e => ?_
    obtain ⟨o0, e0, _⟩ := hS0 S hs
    have p5 := (I5.pin (S, o0) (List.mem_append_right _ (mem_pinsAt hs e0))).1
    rw [e] at p5; cases p5
    exact (I6.pin (S, o0) (List.mem_append_right _ (mem_pinsAt hs e0))).1
  · refine seg_bind_wrap ?_
    rw [hAG]
    refine wpAny_mono (T.item (gxC X AG s4 H4 cenv fp [(a, go)]) rfl rfl rfl rfl i _ s _ H5 (fun _ _ => False) I5 (stat s₀ n5) st5 go') (fun r s6 ⟨u, hr, h6⟩ => ?_) fun _ _ z => False.elim z
    subst hr
    refine seg_bind_wrap ?_
    rw [hAG]
    refine wpAny_mono h6 (fun _ s7 ⟨x, H7, I7, r7, y7, st7, n7⟩ => ?_) fun _ _ z => False.elim z
    have I7' := I7.pinned (stat s₀ n7) (T.obj _ _ st7)
    refine seg_bind_wrap ?_
    rw [hAG]
    refine wpAny_mono (pg.run _ s7 _ H7 x u _ I7' r7 (step x H7 y7)) (fun _ s8 ⟨σ8, H8, I8, hw8, q8⟩ => ?_) fun _ _ z => False.elim z
    refine seg_bind_wrap ?_
    rw [hAG]
    refine wpAny_mono (pt.run _ s8 σ8 H8 _ I8 q8) (fun b s9 ⟨H9, I9, q9⟩ => ?_) fun _ _ z => False.elim z
    have accAt : ∀ {σ' : L2.St} {H' : Hp} {s' : Shared}, Inv (gxC X AG s4 H4 cenv fp [(a, go)]) (pinsAt G.Ss s₀.heap ++ pinsAt fp s7.heap) σ' H' s' → G.Acc acc s'.heap := fun {σ' H' s'} I' =>
      G.stay acc _ _ hAcc fun S hs o e => by
        obtain ⟨o0, e0, _⟩ := hS0 S hs
        have p5 := (I5.pin (S, o0) (List.mem_append_right _ (mem_pinsAt hs e0))).1
        rw [e] at p5; cases p5
        exact (I'.pin (S, o0) (List.mem_append_right _ (List.mem_append_left _ (mem_pinsAt hs e0)))).1
    have hl8 : (wipe σ vs).length = σ8.length := by rw [← hw8, wipe_length]
    have hk8 : ∀ (j : Nat) v, (wipe σ vs)[j]? = some (some v) → σ8[j]? = some (some v) := fun j v e => by
      rw [← hw8] at e
      exact (wipe_some e).1
    have pin' : ∀ {σ' : L2.St} {H' : Hp} {s' : Shared}, Inv (gxC X AG s4 H4 cenv fp [(a, go)]) (pinsAt G.Ss s₀.heap ++ pinsAt fp s7.heap) σ' H' s' → ∀ b ∈ fp, ∀ o, s7.heap.get? b = some o → s'.heap.get? b = some o ∧ H' b = none := fun {σ' H' s'} I' b hb o e =>
      have pb := I'.pin (b, o) (List.mem_append_right _ (List.mem_append_right _ (mem_pinsAt hb e)))
      ⟨pb.1, pb.2.1⟩
    cases b with
    | false =>
      simp only [if_false, Bool.false_eq_true] at q9 ⊢
      obtain ⟨m', hm', w'⟩ := hNx acc H9 q9
      refine seg_again rfl (ih m' hm' n (i + 1) acc H9 s₀ s9 (by omega) w' (I9.unpinned.weak hl8 hk8) (T.keep _ _ _ st7 fun b hb o e => (pin' I9 b hb o e).1) (fun b hb => ?_) (accAt I9) hS0)
      exact (T.obj _ _ st7 b hb).elim fun o q => (pin' I9 b hb o q.1).2
    | true =>
      simp only [if_true] at q9 ⊢
      have plainYield : yieldOut cenv = yieldValue := funext fun v => by simp only [hco, yieldOut, if_false, Bool.false_eq_true]
      simp only [plainYield]
      simp only [Sem.bind_eq_wrap', Sem.wrap_wrap]
      refine seg_wrap ?_
      rw [hAG]
      refine wpAny_mono (pe.run _ s9 σ8 H9 _ I9 q9) (fun z s10 ⟨yv, H10, I10, r10, yq, nx⟩ => ?_) fun _ _ z => False.elim z
      obtain ⟨n', rfl⟩ : ∃ n', n = n' + 1 := ⟨n - 1, by omega⟩
      refine seg_at (seg_yield rfl rfl rfl ⟨acc, yv, H10, r10, Held.of hgo I10 hS0', accAt I10, yq, fun hR s'' sl hA'' => ?_⟩)
      obtain ⟨m', hm', w'⟩ := hNx _ H10 (nx hR)
      have fS : ∀ b ∈ fp, b ∉ G.Ss := fun b hb z => absurd (Nat.lt_trans (hSs b z).1 (hfp b hb)) (Nat.lt_irrefl _)
      have hSn : ∀ S ∈ G.Ss, H10 S = none ∧ S ≠ cenv.locals ∧ S ∉ frs X.stack := fun S hs => by
        obtain ⟨o0, e0, _⟩ := hS0 S hs
        have p := I10.pin (S, o0) (List.mem_append_right _ (List.mem_append_left _ (mem_pinsAt hs e0)))
        exact ⟨p.2.1, p.2.2.1, p.2.2.2.1⟩
      have nt : ∀ b u, H10 b = some u → b ∉ G.Ss := fun b u q hb => by rw [(hSn b hb).1] at q; cases q
      have I11 : Inv (gxC X AG s4 H4 cenv fp [(a, go)]) (pinsAt fp s7.heap) σ8 H10 s10 := I10.pins_of fun p hp => I10.pin p (List.mem_append_right _ (List.mem_append_right _ hp))
      have I12 : Inv (gxC X AG s4 H4 cenv fp [(a, go)]) (pinsAt fp s7.heap) σ8 H10 s'' := by
        obtain ⟨z1, z2, z3, z4⟩ := sl
        obtain ⟨hh, gg, d, t, o⟩ := s''
        have ho : o = s10.os := z1
        subst ho
        refine I11.step (g' := gg) (t' := t) (d' := d) (ch := G.Ss) (fun b hb => ?_)
          (fun b ob _ _ hc q _ => z3 b ob hc q) (fun b ob _ _ hc q _ => ⟨ob.slots, z3 b ob hc q⟩) (fun _ _ _ _ n => n) (fun b ob hc q => ⟨ob, z3 b ob hc q⟩)
          (fun _ _ same => same) (fun _ _ _ same => same) (fun b ps q => ⟨#[], by simp [q]⟩) (fun m hm => ?_) (fun b u q => ?_) z2
        · refine ⟨.inr (Nat.le_of_lt (hSs b hb).1), (hSn b hb).2.1, fun x c e z => ?_, fun p hp z => ?_⟩
          · have h1 := hcc x c e
            rw [z] at h1
            exact absurd (Nat.lt_trans (hSs b hb).1 h1) (Nat.lt_irrefl _)
          · rcases List.mem_append.mp hp with inPn | hp
            · have e := List.mem_singleton.mp inPn
              rw [e] at z
              exact (hSs b hb).2 z.symm
            · exact fS p.1 (of_pinsAt hp).1 (by rw [z]; exact hb)
        · obtain ⟨fo, ents, cnt, hfo, tl⟩ := hm
          exact ⟨fo, ents, cnt, z3 _ fo (fun z => (hSn _ z).2.1 rfl) hfo, tl⟩
        · refine (I11.hok b u q).stay (fun c v hc y => z3 c v ?_ y) (fun _ y => y) fun _ _ y => y
          rcases hc with y | y
          · rw [y]; exact nt b u q
          · exact nt c _ y
      have pin12 : ∀ b ∈ fp, ∀ o, s7.heap.get? b = some o → s''.heap.get? b = some o ∧ H10 b = none := fun b hb o e =>
        let z := I12.pin (b, o) (List.mem_append_right _ (mem_pinsAt hb e))
        ⟨z.1, z.2.1⟩
      have hS12 : ∀ S ∈ G.Ss, ∃ o, s''.heap.get? S = some o ∧ ∀ v, o.data ≠ .cell v := sl.own
      refine seg_again rfl (ih m' hm' n' (i + 1) (acc ++ [yv]) H10 s'' s'' (by omega) w' ?_ (T.keep _ _ _ st7 fun b hb o e => (pin12 b hb o e).1) (fun b hb => ?_) hA'' hS12)
      · refine (I12.weak hl8 hk8).pins_of fun p hp => ?_
        obtain ⟨h1, h2⟩ := of_pinsAt hp
        obtain ⟨o, e, hc⟩ := hS12 p.1 h1
        rw [h2] at e; cases e
        exact ⟨h2, (hSn _ h1).1, (hSn _ h1).2.1, (hSn _ h1).2.2, hc⟩
      · exact (T.obj _ _ st7 b hb).elim fun o q => (pin12 b hb o q.1).2
end
end Gx
set_option maxHeartbeats 3000000
namespace Gx
open PySem PySem.Spec PyProof.Rows L2 GxR GenW

theorem over_frames {A : Around} {st : List Env} {e : Expr} {itv acc : Value} {cenv : Env} (hg : ∃ elt gs sc p, e = .GeneratorExp elt gs sc p) (h : A.frames = some st) : (A.over (.compLoop e 0 itv acc cenv) []).frames = some (cenv :: st) := by
  obtain ⟨elt, gs, sc, p, rfl⟩ := hg
  show pushEnvs (Code.envs (.compLoop (.GeneratorExp elt gs sc p) 0 itv acc cenv)) (pushEnvs (envsOf []) A.frames) = some (cenv :: st)
  rw [h]
  rfl
theorem over_room {A : Around} {k : Nat} {e : Expr} {itv acc : Value} {cenv : Env} (hg : ∃ elt gs sc p, e = .GeneratorExp elt gs sc p) (r : Room (k + 1) A) : Room k (A.over (.compLoop e 0 itv acc cenv) []) := by
  obtain ⟨elt, gs, sc, p, rfl⟩ := hg
  have h1 : (A.over (.compLoop (.GeneratorExp elt gs sc p) 0 itv acc cenv) []).depth ≤ A.depth + 1 := Nat.le_of_eq rfl
  have h2 : (A.over (.compLoop (.GeneratorExp elt gs sc p) 0 itv acc cenv) []).units ≤ A.units + 3 := Nat.le_of_eq rfl
  exact ⟨r.hd, by have := r.dp; omega, by have := r.un; omega⟩

/-- the state behind the making of a generator expression -/
structure Made (X : Cx) (pins : List (Addr × Obj)) (σ : L2.St) (e : Expr) (scope : Scope) (tg : Expr) (J : It) (H4 : Hp) (s4 : Shared) (it : Addr) (fp : List Addr) (tn : Nat → Heap → Prop) (code : Value) (a : Addr) (gi : Nat) (go : Obj) (s5 : Shared) : Prop where
  inv : Inv X pins σ H4 s4
  T : Turn X.prog X.w X.K tg J fp it tn
  st : tn 0 s4.heap
  fpo : ∀ b ∈ fp, FpOk X pins H4 b ∧ b < s4.heap.objs.size
  os : s5.os = s4.os
  bare : AllBare s5.gens
  kp : ∀ b o, s4.heap.get? b = some o → s5.heap.get? b = some o
  ns : ∃ m, s5.heap.Ns s4.heap.objs.size m
  obj : s5.heap.get? a = some go
  gen : ∀ h : Heap, h.get? a = some go → h.IsGen a gi
  ncell : ∀ v, go.data ≠ .cell v
  lo : s4.heap.objs.size < a
  hi : a < s5.heap.objs.size
  gs : s5.gens[gi]? = some (.fresh (.compStart e 0 (.ref it) .none (genEnv scope (cloFrom X.env.cells scope.names []) s4.heap.objs.size code builtinsNs X.env)))

section
variable {X : Cx} {σ : L2.St} {H : Hp} {s : Shared} {pins : List (Addr × Obj)}
theorem gx_eval {c P : Addr} {elt tg iter : Expr} {ifs : List Expr} {scope : Scope} {own : List (Str × Nat)} {gpos : Pos} {wi : TI} {k : Nat} {R : It → Hp → Prop} {Q' : Value → Shared → Prop}
    (hr : Room k X.A) (TB : TabB X.base X.mg c P) (hcode : X.env.code = .ref c) (ok : BlkOk X.N X.env.scope scope own) (hcell : ∀ y ∈ scope.names, y.2 ≠ .cell) (h0 : scope.names.lookup (".0" : Str) = some NameKind.local) (hco : scope.isCoroutine = false)
    (hi : PI X tg iter wi) (hs : ∀ v, genFold iter X.env v = pure v) (I : Inv X pins σ H s) (h : wi σ H fun J H1 => TabG H1 P ∧ ∀ H1', Tabbed P H1 H1' → R J H1')
    (hQ : ∀ J H4 s4 it fp tn code a gi go s5, R J H4 → Made X pins σ (.GeneratorExp elt [⟨tg, iter, ifs, 0⟩] scope gpos) scope tg J H4 s4 it fp tn code a gi go s5 → Q' (.ref a) s5) :
    wpAny (model X.prog X.w) X.A (eval (.GeneratorExp elt [⟨tg, iter, ifs, 0⟩] scope gpos) X.env) Q' X.xe s := by
  have mayBring := fun (y : Str × NameKind) (hy : y ∈ scope.names) (e : y.2 = .free) => (ok.free y hy e).elim (fun z => I.ok.has y.1 (.inl z)) fun z => I.ok.has y.1 (.inr z)
  refine wpAny_GeneratorExp_make hco (closure_ok mayBring) hcell h0 ok.kind hr.depth ?_ hs
  refine thn (hi.run pins s σ H _ I h) fun xv s1 hx => thn hx fun itv s2 h2 => ?_
  obtain ⟨it, fp, tn, J, H2, e, I2, T, st2, f2, ⟨ps, hP, ht⟩, q⟩ := h2
  subst e
  have hPs : s2.heap.get? P = some { cls := .none, data := .fields ps } := I2.hok P _ hP
  have cd : PySem.W.CodeHd s2.heap c P := TB.code.keeps fun b u e => I2.bk b u e
  have fpP : ∀ b ∈ fp, b ≠ P := fun b hb z => by
    have := (f2 b hb).1
    rw [z, hP] at this
    cases this
  have goOn : ∀ (cv : Value) (g3 : Heap) (tk : Nat) (qs : Array Value), Heap.ExtBut P s2.heap g3 → s2.heap.objs.size ≤ g3.objs.size → g3.get? P = some { cls := .none, data := .fields qs } → (∃ new, qs = ps ++ new) → TriplesOk qs.toList →
      wpAny (model X.prog X.w) X.A (builtinsFor X.env.globals X.env.builtins)
        (fun bn t4 => ∀ h5, h5.Ns t4.heap.objs.size (fun y => if y = ".0" then some (.ref it) else none) → Heap.SameBut t4.heap.objs.size (t4.heap.push { cls := .type "frame", data := .dict #[] }) h5 →
          Q' (.ref h5.objs.size) { t4 with
            gens := t4.gens.push (.fresh (.compStart (.GeneratorExp elt [⟨tg, iter, ifs, 0⟩] scope gpos) 0 (.ref it) .none (genEnv scope (cloFrom X.env.cells scope.names []) t4.heap.objs.size cv bn X.env)))
            toks := t4.toks + 1 + 1 + 1
            heap := h5.push { cls := .type "generator", data := .fields #[.int t4.gens.size 0, .str "<genexpr>" (t4.toks + 1), .str (X.env.qual ++ "<genexpr>") (t4.toks + 1 + 1)] } }) X.xe { s2 with heap := g3, toks := tk } := by
    intro cv g3 tk qs ext grow atP ⟨new, enew⟩ trip
    obtain ⟨mo, mob, m1, m2, _, m4, m5, m6, m7, m8⟩ := TB.bm
    have kept3 : ∀ b u, b ≠ P → s2.heap.get? b = some u → g3.get? b = some u := ext
    have glob3 : g3.Ns X.env.globals X.mg := I2.ok.glob ▸ (I2.mod.glob.keeps I2.bk).extBut ext TB.gP
    refine wpAny_builtinsFor glob3 m1 m2 (kept3 _ _ m4 (I2.bk _ _ m5)) m6 m7 m8 fun h5 ns5 but5 => ?_
    have sz5 : h5.objs.size = g3.objs.size + 1 := but5.1.trans (Heap.size_push ..)
    have up5 : ∀ b o, g3.get? b = some o → h5.get? b = some o := fun b o e => but5.extBut b o (Nat.ne_of_lt (Heap.lt_size e)) (Heap.get?_push_of_some _ e)
    have J4 := inv_tab (h' := g3) (more := new) (g' := s2.gens) (d' := s2.drawn) (t' := tk) I2 hP kept3 (enew ▸ atP) I2.bare
    refine hQ J _ { s2 with heap := g3, gens := s2.gens, drawn := s2.drawn, toks := tk } it fp tn cv h5.objs.size s2.gens.size
      { cls := .type "generator", data := .fields #[.int s2.gens.size 0, .str "<genexpr>" (tk + 1), .str (X.env.qual ++ "<genexpr>") (tk + 1 + 1)] } _ (q _ ⟨⟨ps ++ new, upd_same, enew ▸ trip⟩, fun b nb => upd_ne nb⟩) {
        inv := J4
        T := T
        st := T.keep _ _ _ st2 fun b hb o e => kept3 b o (fpP b hb) e
        fpo := fun b hb => ⟨⟨(upd_ne (fpP b hb)).trans (f2 b hb).1, (f2 b hb).2⟩, (T.obj _ _ st2 b hb).elim fun o z => Nat.lt_of_lt_of_le (Heap.lt_size z.1) grow⟩
        os := rfl
        bare := I2.bare.push rfl
        kp := fun b o e => Heap.get?_push_of_some _ (up5 b o e)
        ns := ⟨_, ns5.push _⟩
        obj := Heap.get?_push_size _ rfl
        gen := fun h e => ⟨_, _, _, e, rfl, rfl, rfl⟩
        ncell := fun v z => nomatch z
        lo := by show g3.objs.size < h5.objs.size; omega
        hi := Nat.lt_of_lt_of_eq (Nat.lt_succ_self _) (Heap.size_push ..).symm
        gs := Array.getElem?_push_size .. }
  refine ⟨I2.nolimit, ?_⟩
  match known : codeAmong gpos ps.toList with
  | some old => exact wpAny_genexprCode_hit hcode (cd.code hPs ht) known (goOn old s2.heap s2.toks ps (Heap.ExtBut.refl _ _) (Nat.le_refl _) hPs ⟨#[], by simp⟩ ht)
  | none =>
    refine wpAny_genexprCodeX hcode (cd.code hPs ht) (cd.tab hPs) known fun c' g3 tk ext ge lt co _ tabAt _ => ?_
    obtain ⟨_, _, _, _, _, _, _, _, _, _, _, _, _, _, _, _, _, _, _, trip, _⟩ := co
    exact goOn _ g3 tk _ ext (Nat.le_trans ge (Nat.le_of_lt lt)) tabAt.2 ⟨_, rfl⟩ trip

/-- the generator's run, from its start, whoever wakes it -/
theorem gx_run {elt tg iter : Expr} {ifs : List Expr} {scope : Scope} {own : List (Str × Nat)} {gpos : Pos} {J : It} {H4 : Hp} {s4 : Shared} {it : Addr} {fp : List Addr} {tn : Nat → Heap → Prop} {code : Value} {a : Addr} {gi : Nat} {go : Obj} {s5 : Shared} {g : TG} {tt : TT} {te : TE} {k m : Nat} {G : GP} {W : Nat → Nat → List V → Hp → Prop}
    (ok : BlkOk X.N X.env.scope scope own) (hcell : ∀ y ∈ scope.names, y.2 ≠ .cell) (hco : scope.isCoroutine = false) (hN : X.N.Nodup)
    (M : Made X pins σ (.GeneratorExp elt [⟨tg, iter, ifs, 0⟩] scope gpos) scope tg J H4 s4 it fp tn code a gi go s5)
    (hg : ∀ (A : Around) (s : Shared) (H : Hp) (C : Addr) (cl : List (Str × Addr)) (code : Value) (fp : List Addr) (pn : List (Addr × Obj)), Room k A → PG (gxC X A s H (genEnv scope cl C code builtinsNs X.env) fp pn) tg g)
    (ht : ∀ (A : Around) (s : Shared) (H : Hp) (C : Addr) (cl : List (Str × Addr)) (code : Value) (fp : List Addr) (pn : List (Addr × Obj)), Room k A → PTs (gxC X A s H (genEnv scope cl C code builtinsNs X.env) fp pn) ifs tt)
    (he : ∀ (A : Around) (s : Shared) (H : Hp) (C : Addr) (cl : List (Str × Addr)) (code : Value) (fp : List Addr) (pn : List (Addr × Obj)), Room k A → PE (gxC X A s H (genEnv scope cl C code builtinsNs X.env) fp pn) elt te)
    (w0 : W 0 m [] H4) (turn : GxW J g tt te (own.map (·.2)) σ G W) {A : Around} {s6 : Shared} (hr : Room (k + 1) A) (hfr : A.frames = some X.stack)
    (hSs : ∀ S ∈ G.Ss, s4.heap.objs.size < S ∧ S ≠ a ∧ ∃ o, s6.heap.get? S = some o ∧ ∀ v, o.data ≠ .cell v) (hAcc : G.Acc [] s6.heap) (hos : s6.os = s5.os) (hb : AllBare s6.gens) (hk : ∀ b o, s5.heap.get? b = some o → s6.heap.get? b = some o) :
    (GenState.fresh (.compStart (.GeneratorExp elt [⟨tg, iter, ifs, 0⟩] scope gpos) 0 (.ref it) .none (genEnv scope (cloFrom X.env.cells scope.names []) s4.heap.objs.size code builtinsNs X.env))).Goes (model X.prog X.w) A (RG X fp H4 s4 a gi G) (YG X fp H4 s4 a gi G) (m + 1) (.send .none) s6 := by
  refine ⟨rfl, ?_⟩
  generalize hce : genEnv scope (cloFrom X.env.cells scope.names []) s4.heap.objs.size code builtinsNs X.env = cenv
  have hrG := over_room (e := .GeneratorExp elt [⟨tg, iter, ifs, 0⟩] scope gpos) (itv := .ref it) (acc := .none) (cenv := cenv) ⟨_, _, _, _, rfl⟩ hr
  have hfG := over_frames (e := .GeneratorExp elt [⟨tg, iter, ifs, 0⟩] scope gpos) (itv := .ref it) (acc := .none) (cenv := cenv) ⟨_, _, _, _, rfl⟩ hfr
  obtain ⟨m5, hn5⟩ := M.ns
  have kp6 : ∀ b o, s4.heap.get? b = some o → s6.heap.get? b = some o := fun b o e => hk b o (M.kp b o e)
  have I6 : Inv (gxC X (A.over (.compLoop (.GeneratorExp elt [⟨tg, iter, ifs, 0⟩] scope gpos) 0 (.ref it) .none cenv) []) s4 H4 cenv fp [(a, go)]) (pinsAt G.Ss s6.heap) (wipe σ (own.map (·.2))) H4 s6 := by
    refine gx_start M.inv ok hN M.fpo hce.symm hcell hrG.hd hfG (hos.trans M.os) hb kp6 ⟨m5, hn5.keeps hk⟩ fun p hp => ?_
    rcases List.mem_append.mp hp with inPn | hp
    · obtain rfl := List.mem_singleton.mp inPn
      exact ⟨hk _ _ M.obj, M.lo, M.ncell⟩
    · obtain ⟨h1, h2⟩ := of_pinsAt hp
      obtain ⟨q1, _, o, e, q2⟩ := hSs _ h1
      rw [h2] at e; cases e
      exact ⟨h2, q1, q2⟩
  have hcc : ∀ x c, cenv.cells.lookup x = some c → c < s4.heap.objs.size := fun x c e => (brought M.inv ok (by rw [← hce] at e; exact e)).2
  have st6 : tn 0 s6.heap := M.T.keep _ _ _ M.st fun b _ o e => kp6 b o e
  have loop := seg_gx (iter := iter) (scope := scope) (pos := gpos) (go := go) (A := A) (σ := σ) (G := G) (W := W) M.T (by rw [← hce]; exact hco) M.gen (fun b hb => (M.fpo b hb).2) M.lo (fun S hs => ⟨(hSs S hs).1, (hSs S hs).2.1⟩) (by rw [← hce]; rfl) hcc
    (by rw [← hce]; exact hg _ _ _ _ _ _ _ _ (by rw [hce]; exact hrG)) (by rw [← hce]; exact ht _ _ _ _ _ _ _ _ (by rw [hce]; exact hrG)) (by rw [← hce]; exact he _ _ _ _ _ _ _ _ (by rw [hce]; exact hrG)) turn m (m + 1) 0 [] H4 s6 s6 (Nat.le_refl _) w0 I6 st6 (fun b hb => (M.fpo b hb).1.1) hAcc (fun S hs => (hSs S hs).2.2)
  show Seg _ A _ _ _ s6 _ ((compStart (.GeneratorExp elt [⟨tg, iter, ifs, 0⟩] scope gpos) 0 (.ref it) .none cenv).onRaise (leaving cenv)) [] s6
  unfold compStart
  rw [Sem.onRaise_eq_wrap]
  show Seg _ A _ _ _ s6 _ ((ask >>= _).wrap _ _ _ _) [] s6
  refine seg_bind_wrap (m := ask) (wpAny_askSetting ?_)
  split
  · exact seg_again rfl loop
  · first
      | exact seg_bind_wrap (wpAny_rule (seg_bind_wrap (wpAny_standAt (seg_bind_wrap (M.T.self _ 0 s6 _ _ st6 (seg_again rfl loop))))))
      | (refine seg_bind_wrap (wpAny_rule ?_); show Seg _ A _ _ _ s6 _ ((standAt iter.pos >>= _).wrap _ _ _ _) [] s6; exact seg_bind_wrap (wpAny_standAt (seg_bind_wrap (M.T.self _ 0 s6 _ _ st6 (seg_again rfl loop)))))
end
end Gx
set_option maxHeartbeats 3000000
namespace Gx
open PySem PySem.Spec PyProof.Rows L2 GxR GenW

/-- into a built-in's own tree -/
theorem entered {prog : Program} {w : World} {A : Around} {R : Result → Shared → Prop} {s : Shared} {id : String} {b : Builtin} {args : Args} (he : entryFor table id = some b) (hp : plainId id = true)
    (h : wpAny (model prog w) A.in1 (b args) (fun f s' => match f with | .done fl => R (.ok fl) s' | .again c => c.quiet = true ∧ codeAny (model prog w) A c R s') (fun e s' => R (.error e) s') s) :
    codeAny (model prog w) A (.builtin id args) R s := codeAny_builtin he (by rw [Around.under_plainId hp args]; exact h)

/-- all(..): it stops at the first False -/
def gAll (Qt Qf : Hp → Prop) : GP where
  Ss := []
  Acc := fun _ _ => True
  stay := fun _ _ _ _ _ => trivial
  Yq := fun _ y H' => ∃ c, y = .bl c ∧ (c = false → Qf H')
  Rq := fun y => y = .bl true
  En := fun _ H' => Qt H'

theorem goesRG {X : Cx} {fp : List Addr} {H4 : Hp} {s4 : Shared} {a : Addr} {gi : Nat} {G : GP} {gs : GenState} {B : Around} {n : Nat} {r : Resume} {s : Shared}
    (h : gs.Goes (model X.prog X.w) B (RG X fp H4 s4 a gi G) (YG X fp H4 s4 a gi G) n r s) :
    gs.Goes (model X.prog X.w) B (fun n s₀ r s1 => ((r = .ok (.ret .none) ∨ r = .ok .next) ∧ FG X fp H4 s4 a gi G n s₀ s1) ∨ ∃ e, r = .error e ∧ (fun (_ : Value) (_ : Shared) => False) e s1) (YG X fp H4 s4 a gi G) n r s := h

/-- it may be asked n times more -/
def Left (X : Cx) (A : Around) (fp : List Addr) (H4 : Hp) (s4 : Shared) (a : Addr) (gi : Nat) (G : GP) (gs : GenState) (t : Shared) : Nat → Prop
  | 0 => False
  | m + 1 => gs.Goes (model X.prog X.w) A (RG X fp H4 s4 a gi G) (YG X fp H4 s4 a gi G) m (.send .none) t
/-- one asking: the next item in the state that it left, or the end; P n is what is wanted where n askings are left -/
theorem ask_gx {X : Cx} {A : Around} {E : Value → Shared → Prop} {Q : Option Value → Shared → Prop} {fp : List Addr} {H4 : Hp} {s4 s : Shared} {a : Addr} {gi n : Nat} {G : GP} {gs : GenState} (hh : A.handled = none) (hd : A.depth < recursionLimit)
    (hg : s.heap.IsGen a gi) (hl : s.heap.NoLimit) (hgs : s.gens[gi]? = some gs) (hgo : gs.Goes (model X.prog X.w) A.in1 (RG X fp H4 s4 a gi G) (YG X fp H4 s4 a gi G) n (.send .none) (s.setGen gi .running))
    (item : ∀ (acc : List V) (y : V) (v : Value) (H' : Hp) (t : Shared) (gs' : GenState), RelV y v → gs'.bare = true → gi < t.gens.size → Held X fp H4 s4 a gi G.Ss (s.setGen gi .running) H' t → G.Acc acc t.heap → G.Yq acc y H' →
      (∀ t', G.Rq y → SleptG G.Ss t t' → G.Acc (acc ++ [y]) t'.heap → Left X A.in1 fp H4 s4 a gi G gs' t' n) → Q (some v) (t.setGen gi gs'))
    (fin : ∀ (acc : List V) (H' : Hp) (t : Shared) (h' : Heap), Held X fp H4 s4 a gi G.Ss (s.setGen gi .running) H' t → G.Acc acc t.heap → G.En acc H' → (∀ b o, t.heap.get? b = some o → h'.get? b = some o) → Q none { t.setGen gi .finished with heap := h' }) :
    wpAny (model X.prog X.w) A (pyNext (.ref a)) Q E s := by
  have inG : gi + 1 ≤ s.gens.size := (Array.getElem?_eq_some_iff.mp hgs).1
  refine wpAny_gsz inG (next_genG hh hl hd hg hgs (goesRG hgo) (fun v t gs' nice hv grown => ?_) (fun t hp h' up _ => ?_) fun _ _ none => none.elim)
  · obtain ⟨acc, y, H', ry, held, hacc, yq, more⟩ := hv
    have sz : gi + 1 ≤ t.gens.size := setGen_size t gi gs' ▸ grown
    refine item acc y v H' t gs' ry nice sz held hacc yq fun t' r sl ac => ?_
    have z := more r t' sl ac
    cases n with
    | zero => exact z
    | succ m => exact z
  · obtain ⟨acc, H', held, hacc, en⟩ := hp
    exact fin acc H' t h' held hacc en up

theorem all_loop {X : Cx} {A : Around} {R : Result → Shared → Prop} {fp : List Addr} {H4 : Hp} {s4 : Shared} {a : Addr} {gi : Nat} {Qt Qf : Hp → Prop} (hh : A.handled = none) (hd : A.depth < recursionLimit)
    (hR : ∀ (b : Bool) (s' : Shared) (H' : Hp), s'.os = s4.os → AllBare s'.gens → Un (frs X.stack) fp H4 H' s4.heap s'.heap → HOk X.prog X.w H' s'.heap → (if b = true then Qt H' else Qf H') → R (.ok (.ret (.bool b))) s') :
    ∀ (n : Nat) (s : Shared), s.heap.IsGen a gi → s.heap.NoLimit → (∃ gs, s.gens[gi]? = some gs ∧ gs.Goes (model X.prog X.w) A.in1.in1 (RG X fp H4 s4 a gi (gAll Qt Qf)) (YG X fp H4 s4 a gi (gAll Qt Qf)) n (.send .none) (s.setGen gi .running)) →
      codeAny (model X.prog X.w) A (.builtin "all.loop" ⟨[.ref a], []⟩) R s := by
  refine fun n => Nat.strongRecOn n fun n ih s hg hl ⟨gs, hgs, hgo⟩ => entered F.entry_all_loop F.plain_all_loop ?_
  refine wpAny_bind (m := pyNext (.ref a)) (ask_gx (A := A.in1) hh hd hg hl hgs hgo (fun acc y v H' t gs' ry nice sz held _ yq more => ?_) fun acc H' t h' held _ en up => ?_)
  · obtain ⟨c, rfl, no⟩ := yq
    obtain rfl : v = Value.bool c := ry
    refine wpAny_bind (wpAny_holding (wpAny_truthy_bool (wpAny_bind (wpAny_letGo ?_))))
    cases c with
    | false => exact wpAny_bind (m := rule _) (wpAny_rule (wpAny_pure (hR false _ H' held.os (allBare_setGen held.bare nice) held.un held.hok (no rfl))))
    | true =>
      have next := more ((t.setGen gi gs').setGen gi .running) rfl ⟨rfl, allBare_setGen (s := t.setGen gi gs') (allBare_setGen held.bare nice) rfl, fun _ _ _ e => e, fun S z => nomatch z⟩ trivial
      cases n with
      | zero => exact next.elim
      | succ m => exact wpAny_pure ⟨plainId_quiet F.plain_all_loop _, ih m (Nat.lt_succ_self m) _ held.gen held.lim ⟨gs', setGen_at sz, next⟩⟩
  · exact wpAny_bind (m := rule _) (wpAny_rule (wpAny_pure (hR true _ H' held.os (allBare_setGen held.bare rfl) (held.un.trans (Un.kept up)) (held.hok.kept up) en)))

/-- tuple(..): what is handed out is kept in the list at S -/
def gTupG (S : Addr) (En : List V → Hp → Prop) : GP where
  Ss := [S]
  Acc := fun acc h => ∃ its c, h.get? S = some (lstObj its c) ∧ Vals acc its.toList
  stay := fun acc h h' ⟨its, c, e, r⟩ k => ⟨its, c, k S (List.mem_singleton.mpr rfl) _ e, r⟩
  Yq := fun acc _ _ => acc.length < sizeLine
  Rq := fun _ => True
  En := En

theorem ext_loop {X : Cx} {A : Around} {R : Result → Shared → Prop} {fp : List Addr} {H4 : Hp} {s4 : Shared} {a S : Addr} {gi : Nat} {En : List V → Hp → Prop} {res : Value} (hh : A.handled = none) (hd : A.depth < recursionLimit) (hSa : S ≠ a) (hSc : S ≠ cStatics)
    (hR : ∀ (s' : Shared) (its : Array Value) (c : Nat) (H' : Hp) (ys : List V), s'.heap.get? S = some (lstObj its c) → Vals ys its.toList → s'.os = s4.os → AllBare s'.gens → Un (frs X.stack) fp H4 H' s4.heap s'.heap → HOk X.prog X.w H' s'.heap → H' S = none → En ys H' → R (.ok (.ret res)) s') :
    ∀ (n : Nat) (s : Shared), s.heap.IsGen a gi → s.heap.NoLimit → (∃ gs, s.gens[gi]? = some gs ∧ gs.Goes (model X.prog X.w) A.in1.in1 (RG X fp H4 s4 a gi (gTupG S En)) (YG X fp H4 s4 a gi (gTupG S En)) n (.send .none) (s.setGen gi .running)) →
      codeAny (model X.prog X.w) A (.builtin "list.extend.loop" ⟨[.ref S, .ref a, res], []⟩) R s := by
  refine fun n => Nat.strongRecOn n fun n ih s hg hl ⟨gs, hgs, hgo⟩ => entered F.entry_extend_loop F.plain_extend_loop ?_
  refine wpAny_bind (m := pyNext (.ref a)) (ask_gx (A := A.in1) hh hd hg hl hgs hgo (fun acc y v H' t gs' ry nice sz held hacc yq more => ?_) fun acc H' t h' held ⟨its, c, e, r⟩ en up => ?_)
  · obtain ⟨its, c, e, r⟩ := hacc
    have few : acc.length < sizeLine := yq
    have same : acc.length = its.size := (Vals.length r).trans Array.length_toList
    obtain ⟨c', put⟩ : ∃ c', (t.heap.update S (Obj.mapSeq (·.push v))).get? S = some (lstObj (its.push v) c') := ⟨_, Heap.get?_update_self _ e rfl⟩
    have else_ : ∀ b o, b ≠ S → t.heap.get? b = some o → (t.heap.update S (Obj.mapSeq (·.push v))).get? b = some o := fun b o nb q => by
      rw [Heap.get?_update_other _ _ nb.symm]; exact q
    refine wpAny_bind (m := updateSeq S (·.push v)) (wpAny_updateSeq (s := t.setGen gi gs') e rfl ?_ (by omega) (by show (its.push v).size ≤ sizeLine + 1; rw [Array.size_push]; omega))
    have next := more ({ (t.setGen gi gs').setGen gi .running with heap := t.heap.update S (Obj.mapSeq (·.push v)) }) trivial
      ⟨rfl, allBare_setGen (s := t.setGen gi gs') (allBare_setGen held.bare nice) rfl, fun b o nb q => else_ b o (fun z => nb (z ▸ List.mem_singleton.mpr rfl)) q, fun S' z => by
        rw [List.mem_singleton.mp z]
        exact ⟨_, put, fun v z => nomatch z⟩⟩ ⟨_, _, put, by rw [Array.toList_push]; exact r.append (.cons ry .nil)⟩
    cases n with
    | zero => exact next.elim
    | succ m =>
      refine wpAny_pure ⟨plainId_quiet F.plain_extend_loop _, ih m (Nat.lt_succ_self m) { t.setGen gi gs' with heap := t.heap.update S (Obj.mapSeq (·.push v)) } ?_ ?_ ⟨gs', setGen_at sz, next⟩⟩
      · exact held.gen.elim fun o q => q.elim fun nm q => q.elim fun qn q => ⟨o, nm, qn, else_ a o hSa.symm q.1, q.2⟩
      · exact held.lim.elim fun mc q => ⟨mc, q.1.at' fun o z => else_ cStatics o hSc.symm z, q.2⟩
  · exact wpAny_pure (hR _ its c H' acc (up _ _ e) r held.os (allBare_setGen held.bare rfl) (held.un.trans (Un.kept up)) (held.hok.kept up) (held.own S (List.mem_singleton.mpr rfl)).2 en)

theorem collect_gx {X : Cx} {A : Around} {E : Value → Shared → Prop} {Q : List Value → Shared → Prop} {s : Shared} {fp : List Addr} {H4 : Hp} {s4 : Shared} {a : Addr} {gi n : Nat} {gs : GenState} {En : List V → Hp → Prop} (hh : A.handled = none) (hd : A.depth < recursionLimit)
    (hg : s.heap.IsGen a gi) (hl : s.heap.NoLimit) (hgs : s.gens[gi]? = some gs) (hb : AllBare s.gens)
    (hgo : ∀ s6 : Shared, (∃ c, s6.heap.get? s.heap.objs.size = some (lstObj #[] c)) → (∀ b o, s.heap.get? b = some o → s6.heap.get? b = some o) → s6.os = s.os → AllBare s6.gens → gs.Goes (model X.prog X.w) A.in1.in1 (RG X fp H4 s4 a gi (gTupG s.heap.objs.size En)) (YG X fp H4 s4 a gi (gTupG s.heap.objs.size En)) n (.send .none) s6)
    (hQ : ∀ (s' : Shared) (its : Array Value) (H' : Hp) (ys : List V), Vals ys its.toList → s'.os = s4.os → AllBare s'.gens → Un (frs X.stack) fp H4 H' s4.heap s'.heap → HOk X.prog X.w H' s'.heap → En ys H' → Q its.toList s') :
    wpAny (model X.prog X.w) A (collect (.ref a)) Q E s := by
  obtain ⟨go, _, _, hgo', _⟩ := id hg
  have older : a < s.heap.objs.size := Heap.lt_size hgo'
  have notA : s.heap.objs.size ≠ a := Nat.ne_of_gt older
  have notC : s.heap.objs.size ≠ cStatics := Nat.ne_of_gt (hl.elim fun _ z => z.1.lt)
  have up1 : ∀ b o, s.heap.get? b = some o → (s.heap.push (lstObj #[] 0)).get? b = some o := fun b o z => Heap.get?_push_of_some _ z
  have isG : ∀ {h : Heap}, (∀ b o, s.heap.get? b = some o → h.get? b = some o) → Shared.TypeIs { s with heap := h } (.ref a) "generator" := fun {h} z => Heap.IsGen.typeIs (s := { s with heap := h }) (hg.keeps z)
  -- the empty list is made, touched once, and filled
  refine wpAny_bind (m := runValue (.builtin "proto.collect" ⟨[.ref a], []⟩)) (wpAny_runValue (entered F.entry_proto_collect F.plain_proto_collect ?_))
  refine wpAny_bind (m := newList []) (wpAny_newObj_type (wpAny_pure ⟨plainId_quiet F.plain_list_iadd _, entered F.entry_list_iadd F.plain_list_iadd ?_⟩))
  show wpAny (model X.prog X.w) A.in1 (Builtin.List.listExtendWith (.ref s.heap.objs.size) (.ref a) (.ref s.heap.objs.size)) _ _ { s with heap := s.heap.push (lstObj #[] 0) }
  have other : Builtin.List.listSameRef (.ref s.heap.objs.size) (.ref a) = false := by simp [Builtin.List.listSameRef, notA]
  have noSeq : ((Value.type "generator" == Value.type "list") || (Value.type "generator" == Value.type "tuple")) = false := by decide
  simp only [Builtin.List.listExtendWith]
  refine wpAny_bind (wpAny_typeOf (isG up1) ?_)
  simp only [other, noSeq, Bool.false_or, Bool.or_self, if_false, Bool.false_eq_true]
  refine wpAny_bind (m := pyIter (.ref a)) (wpAny_pyIter_gen (s := { s with heap := s.heap.push (lstObj #[] 0) }) (hg.keeps up1) ?_)
  refine wpAny_bind (m := holding _ (Builtin.List.listLengthHint (.ref a))) (wpAny_holding ?_)
  simp only [Builtin.List.listLengthHint]
  refine wpAny_bind (wpAny_specialOf (isG up1) F.gen_no_len ?_)
  refine wpAny_bind (m := specialOf (Value.ref a) (Str.ofString "__length_hint__")) (wpAny_specialOf (isG up1) F.gen_no_hint (wpAny_pure ?_))
  refine wpAny_bind (m := rule "list.extend.makes-room") (wpAny_rule ?_)
  have e1 : (s.heap.push (lstObj #[] 0)).get? s.heap.objs.size = some (lstObj #[] 0) := Heap.get?_push_size _ rfl
  have e2 := Heap.get?_update_self (Obj.mapSeq fun xs => xs.push Value.none) e1 rfl
  have e3 := Heap.get?_update_self (Obj.mapSeq fun xs => xs.pop) e2 rfl
  refine wpAny_bind (m := updateSeq s.heap.objs.size (·.push .none) >>= fun _ => updateSeq s.heap.objs.size (·.pop)) (wpAny_bind (wpAny_updateSeq e1 rfl (wpAny_updateSeq e2 rfl ?_)))
  have up3 : ∀ b o, s.heap.get? b = some o → Heap.get? (Heap.update (Heap.update (s.heap.push (lstObj #[] 0)) s.heap.objs.size (Obj.mapSeq fun xs => xs.push Value.none)) s.heap.objs.size (Obj.mapSeq fun xs => xs.pop)) b = some o := fun b o z => by
    have nb : s.heap.objs.size ≠ b := Nat.ne_of_gt (Heap.lt_size z)
    rw [Heap.get?_update_other _ _ nb, Heap.get?_update_other _ _ nb]
    exact up1 b o z
  refine wpAny_pure ⟨plainId_quiet F.plain_extend_loop _, ext_loop (X := X) (A := A) (fp := fp) (H4 := H4) (s4 := s4) (S := s.heap.objs.size) (En := En) hh hd notA notC (fun s' its c H' ys q1 q2 q3 q4 q5 q6 _ q8 => ?_) n _ (hg.keeps up3) (hl.keeps up3) ⟨gs, hgs, hgo _ ⟨_, e3⟩ up3 rfl (allBare_setGen (s := { s with heap := _ }) hb rfl)⟩⟩
  exact wpAny_bind (m := load s.heap.objs.size) (wpAny_load q1 (wpAny_pure (hQ s' its H' ys q2 q3 q4 q5 q6 q8)))

section
variable {X : Cx}
/-- all(elt for tg in iter if ..); W's third letter: what was handed out -/
def tAllG (P : Addr) (wi : TI) (g : TG) (tt : TT) (te : TE) (vs : List Nat) : TE := fun σ H Q => wi σ H fun J H1 => TabG H1 P ∧ ∀ H1', Tabbed P H1 H1' →
  ∃ W : Nat → Nat → List V → Hp → Prop, (∃ m, W 0 m [] H1') ∧ GxW J g tt te vs σ (gAll (fun H => Q (.bl true) H) (fun H => Q (.bl false) H)) W
theorem pe_allG {c P : Addr} {elt tg iter : Expr} {ifs : List Expr} {scope : Scope} {own : List (Str × Nat)} {gpos p pos : Pos} {wi : TI} {g : TG} {tt : TT} {te : TE} {k : Nat}
    (hr : Room (k + 2) X.A) (hgl : Gl X "all") (hmg : X.mg "all" = none) (TB : TabB X.base X.mg c P) (hcode : X.env.code = .ref c) (hN : X.N.Nodup) (hi : PI X tg iter wi) (ok : BlkOk X.N X.env.scope scope own)
    (hg : ∀ (A : Around) (s : Shared) (H : Hp) (C : Addr) (cl : List (Str × Addr)) (code : Value) (fp : List Addr) (pn : List (Addr × Obj)), Room k A → PG (gxC X A s H (genEnv scope cl C code builtinsNs X.env) fp pn) tg g)
    (ht : ∀ (A : Around) (s : Shared) (H : Hp) (C : Addr) (cl : List (Str × Addr)) (code : Value) (fp : List Addr) (pn : List (Addr × Obj)), Room k A → PTs (gxC X A s H (genEnv scope cl C code builtinsNs X.env) fp pn) ifs tt)
    (he : ∀ (A : Around) (s : Shared) (H : Hp) (C : Addr) (cl : List (Str × Addr)) (code : Value) (fp : List Addr) (pn : List (Addr × Obj)), Room k A → PE (gxC X A s H (genEnv scope cl C code builtinsNs X.env) fp pn) elt te)
    (hcell : ∀ y ∈ scope.names, y.2 ≠ .cell := by decide) (h0 : scope.names.lookup (".0" : Str) = some NameKind.local := by rfl) (hco : scope.isCoroutine = false := by rfl) (hs : ∀ v, genFold iter X.env v = pure v := by intro _; rfl)
    (hst : starEach [.GeneratorExp elt [⟨tg, iter, ifs, 0⟩] scope gpos] X.env = (false, eval (.GeneratorExp elt [⟨tg, iter, ifs, 0⟩] scope gpos) X.env) :: starEach [] X.env := by rfl) :
    PE X (.Call (.Name "all" p) [.GeneratorExp elt [⟨tg, iter, ifs, 0⟩] scope gpos] [] pos) (tAllG P wi g tt te (own.map (·.2))) := by
  constructor
  intro pins s σ H Q I h
  refine wpAny_Call_Name_kw (ld_blt I hgl hmg (by decide +kernel : bootBuiltins "all" = some (.builtin "all")) ?_)
  refine PyProof.Rows.callWith_builtin1 ?_ hst (by rfl)
  rw [hst]
  show wpAny _ _ (spliced ((false, eval (.GeneratorExp elt [⟨tg, iter, ifs, 0⟩] scope gpos) X.env) :: backTo pos (starEach [] X.env))) _ _ s
  refine Calls.spliced_cons (gx_eval hr TB hcode ok hcell h0 hco hi hs I h fun J H4 s4 it fp tn code a gi go s5 hR M => ?_)
  refine Calls.spliced_nil ?_
  obtain ⟨W, ⟨m0, w0⟩, turn⟩ := hR
  refine call_function_tree F.kind_all F.plain_all F.entry_all (F.args_all1 (.ref a)) ?_
  refine wpAny_bind (m := oneArg "all" ⟨[.ref a], []⟩) (wpAny_pure ?_)
  refine wpAny_bind (wpAny_pyIter_gen (M.gen _ M.obj) ?_)
  have lim5 : s5.heap.NoLimit := M.inv.nolimit.keeps M.kp
  refine wpAny_pure ⟨plainId_quiet F.plain_all_loop _, all_loop (X := X) (A := X.A) (fp := fp) (H4 := H4) (s4 := s4) (Qt := fun H => Q (.bl true) H) (Qf := fun H => Q (.bl false) H) hr.hd hr.depth (fun b s' H' hos hb un hok q => ?_) (m0 + 1) s5 (M.gen _ M.obj) lim5 ⟨_, M.gs, ?_⟩⟩
  · show EP X pins σ Q (.bool b) s'
    refine ⟨.bl b, H', M.inv.call' (ch := fp) hos un hok hb fun b hb => ⟨(M.fpo b hb).1.2.2.2.1, (M.fpo b hb).1.2.1, (M.fpo b hb).1.2.2.2.2.1, (M.fpo b hb).1.2.2.2.2.2⟩, rfl, ?_⟩
    cases b with
    | true => exact q
    | false => exact q
  · refine gx_run ok hcell hco hN M hg ht he w0 turn (A := X.A.in1.in1) (s6 := s5.setGen gi .running) ?_ M.inv.ok.frames (fun S hs => by cases hs) trivial rfl (allBare_setGen M.bare rfl) fun b o e => e
    exact ⟨hr.hd, by have := hr.dp; show X.A.depth + 3 * (k + 1) + 5 < _; omega, by have := hr.un; show X.A.units + 1 + 1 + 16 * (k + 1) + 200 < _; omega⟩

end
end Gx
namespace Bw
open PySem
def topS (i : Nat) : Stmt := PySem.Challenge.pw_boxwitness_k01_programs_refused.main.body.getD i (.Pass ⟨0, 0, 0, 0⟩)
abbrev s_is_number : Stmt := topS 14
abbrev s_is_tuple_of : Stmt := topS 15
abbrev s_check_program : Stmt := topS 23
abbrev s_head_can_be : Stmt := topS 24
abbrev s_row_can_be : Stmt := topS 25
abbrev s_check_all : Stmt := topS 38
abbrev s_run : Stmt := topS 58
abbrev s_run_boxes : Stmt := topS 59
abbrev s_checked : Stmt := topS 69
abbrev s_paper : Stmt := topS 77
abbrev s_shows : Stmt := topS 80
abbrev s_walk : Stmt := topS 92
abbrev s_made : Stmt := topS 98
abbrev s_least : Stmt := topS 100
abbrev s_renumbered : Stmt := topS 104
abbrev s_written : Stmt := topS 113
abbrev s_written_choice : Stmt := topS 114
abbrev s_spaced : Stmt := topS 115
abbrev s_read_choice : Stmt := topS 118
abbrev s_begun : Stmt := topS 130
abbrev s_take : Stmt := topS 131
abbrev s_alike : Stmt := topS 132
abbrev s_law_told : Stmt := topS 133
abbrev s_law_all : Stmt := topS 134
abbrev s_row : Stmt := topS 135
abbrev s_program : Stmt := topS 136
abbrev s_law_doors : Stmt := topS 142
abbrev s_law_is : Stmt := topS 143
abbrev s_law_first : Stmt := topS 144
abbrev s_law_odd : Stmt := topS 145
abbrev s_law_bent : Stmt := topS 146
abbrev s_law : Stmt := topS 147
abbrev s_w_init : Stmt := L2.inClass (topS 88) 0
abbrev s_e_BadProgram : Stmt := L2.inClass (topS 3) 0
/-- the tables that lambdas' code objects stand in -/
abbrev lamTabs : List Addr := [969, 1002]
end Bw
namespace Bw
open PySem PySem.Spec PyProof.Rows L2 GxR
/-! ### heaps: what may change -/
/-- a table of generator expressions' code objects -/
structure TabG (H : Hp) (P : Addr) : Prop where
  g : GxR.TabG H P
  out : P ∉ lamTabs
instance {H : Hp} {P : Addr} : Coe (TabG H P) (GxR.TabG H P) := ⟨TabG.g⟩
theorem code_ne {o : HO} (h : ∀ φ, o ≠ .ext φ) (c : Addr) (q : Str) : o ≠ LamX.CodeO c q := fun z => h _ z
structure Ext (m : Addr → Prop) (H H' : Hp) : Prop where
  tup : ∀ a xs, H a = some (.tup xs) → H' a = some (.tup xs)
  oth : ∀ a o, ¬ m a → (∀ ps, o ≠ .tbl ps) → H a = some o → H' a = some o
  tab : ∀ P, TabG H P → TabG H' P
  dom : ∀ a, H' a = none → H a = none
  lam : ∀ P ps, P ∈ lamTabs → ¬ m P → H P = some (.tbl ps) → H' P = some (.tbl ps)
  cod : ∀ c q, H c = some (LamX.CodeO c q) → H' c = some (LamX.CodeO c q)
theorem dom_upd {H : Hp} {p a : Addr} {o : HO} (e : upd H p o a = none) : H a = none := by
  by_cases z : a = p
  · rw [z, upd_same] at e
    cases e
  · rw [upd_ne z] at e
    exact e
abbrev no : Addr → Prop := fun _ => False
theorem Ext.refl (m : Addr → Prop) (H : Hp) : Ext m H H := ⟨fun _ _ h => h, fun _ _ _ _ h => h, fun _ h => h, fun _ h => h, fun _ _ _ _ h => h, fun _ _ h => h⟩
theorem Ext.trans {m : Addr → Prop} {H H1 H2 : Hp} (a : Ext m H H1) (b : Ext m H1 H2) : Ext m H H2 :=
  ⟨fun x xs h => b.tup x xs (a.tup x xs h), fun x o n t h => b.oth x o n t (a.oth x o n t h), fun P h => b.tab P (a.tab P h), fun x h => a.dom x (b.dom x h), fun P ps i n h => b.lam P ps i n (a.lam P ps i n h), fun c q h => b.cod c q (a.cod c q h)⟩
theorem Ext.mono {m m' : Addr → Prop} {H H' : Hp} (a : Ext m H H') (h : ∀ x, m x → m' x) : Ext m' H H' := ⟨a.tup, fun x o n t e => a.oth x o (fun z => n (h x z)) t e, a.tab, a.dom, fun P ps i n e => a.lam P ps i (fun z => n (h P z)) e, a.cod⟩
theorem Ext.of0 {m : Addr → Prop} {H H' : Hp} (a : Ext no H H') : Ext m H H' := a.mono fun _ z => z.elim
theorem Ext.new {m : Addr → Prop} {H : Hp} {p : Addr} {o : HO} (h : H p = none) : Ext m H (upd H p o) :=
  ⟨fun x xs e => by rw [upd_ne (ne_of_none e h)]; exact e, fun x o' _ _ e => by rw [upd_ne (ne_of_none e h)]; exact e, fun P ⟨⟨ps, e, t⟩, u⟩ => ⟨⟨ps, by rw [upd_ne (ne_of_none e h)]; exact e, t⟩, u⟩, fun a e => dom_upd e, fun P ps _ _ e => by rw [upd_ne (ne_of_none e h)]; exact e, fun c q e => by rw [upd_ne (ne_of_none e h)]; exact e⟩
theorem Ext.put {m : Addr → Prop} {H : Hp} {x : Addr} {o o' : HO} (e : H x = some o) (hm : m x) (h1 : ∀ xs, o ≠ .tup xs) (h2 : ∀ ps, o ≠ .tbl ps) (h3 : ∀ c q, o ≠ LamX.CodeO c q := by exact code_ne fun _ z => by cases z) : Ext m H (upd H x o') :=
  ⟨fun a xs h => by rw [upd_ne (ne_of h e (fun z => h1 xs z.symm))]; exact h, fun a u n _ h => by rw [upd_ne (fun z => n (by rw [z]; exact hm))]; exact h,
    fun P ⟨⟨ps, h, t⟩, u⟩ => ⟨⟨ps, by rw [upd_ne (ne_of h e (fun z => h2 ps z.symm))]; exact h, t⟩, u⟩, fun a e => dom_upd e, fun P ps _ _ h => by rw [upd_ne (ne_of h e (fun z => h2 ps z.symm))]; exact h, fun c q h => by rw [upd_ne (ne_of h e (fun z => h3 c q z.symm))]; exact h⟩
theorem Ext.tbd {m : Addr → Prop} {H H' : Hp} {P : Addr} (t : TabG H P) (h : Tabbed P H H') : Ext m H H' := by
  obtain ⟨⟨ps, e, t1⟩, u⟩ := t
  refine ⟨fun a xs q => ?_, fun a o _ n q => ?_, fun P' ⟨⟨ps', e', t'⟩, u'⟩ => ?_, fun a q => ?_, fun P' ps' i _ q => ?_, fun c s q => ?_⟩
  · rw [h.2 a (ne_of q e (by intro z; cases z))]; exact q
  · rw [h.2 a (ne_of q e (n ps))]; exact q
  · by_cases z : P' = P
    · rw [z]; exact ⟨h.1, u⟩
    · exact ⟨⟨ps', by rw [h.2 P' z]; exact e', t'⟩, u'⟩
  · by_cases z : a = P
    · obtain ⟨ps2, e2, _⟩ := h.1
      rw [z, e2] at q
      cases q
    · rw [h.2 a z] at q
      exact q
  · rw [h.2 P' (fun z => u (by rw [← z]; exact i))]; exact q
  · rw [h.2 c (ne_of q e (LamX.codeO_ne ps))]; exact q
theorem Ext.transF {m mw : Addr → Prop} {H0 H1 H : Hp} (a : Ext m H0 H1) (b : Ext mw H1 H) (h : ∀ x, mw x → m x ∨ H0 x = none) : Ext m H0 H :=
  ⟨fun x xs e => b.tup x xs (a.tup x xs e), fun x o n t e => b.oth x o (fun z => (h x z).elim n fun z => by rw [z] at e; cases e) t (a.oth x o n t e), fun P e => b.tab P (a.tab P e), fun x e => a.dom x (b.dom x e), fun P ps i n e => b.lam P ps i (fun z => (h P z).elim n fun z => by rw [z] at e; cases e) (a.lam P ps i n e), fun q s e => b.cod q s (a.cod q s e)⟩
/-- an object of one's own is written -/
theorem Ext.own {m : Addr → Prop} {H0 H : Hp} {D : Addr} {o : HO} (e : Ext m H0 H) (n : H0 D = none) : Ext m H0 (upd H D o) :=
  ⟨fun x xs h => by rw [upd_ne (ne_of_none h n)]; exact e.tup x xs h, fun x u nm t h => by rw [upd_ne (ne_of_none h n)]; exact e.oth x u nm t h,
    fun P hP => by
      obtain ⟨⟨ps, h, t⟩, u⟩ := e.tab P hP
      obtain ⟨⟨ps0, h0, _⟩, _⟩ := hP
      exact ⟨⟨ps, by rw [upd_ne (ne_of_none h0 n)]; exact h, t⟩, u⟩, fun x h => e.dom x (dom_upd h), fun P ps i k h => by rw [upd_ne (ne_of_none h n)]; exact e.lam P ps i k h, fun c q h => by rw [upd_ne (ne_of_none h n)]; exact e.cod c q h⟩
/-- what is new once stays apart from what stood -/
theorem Ext.lst {m : Addr → Prop} {H H' : Hp} (a : Ext m H H') {l : Addr} {xs : List V} (n : ¬ m l) (h : H l = some (.lst xs)) : H' l = some (.lst xs) := a.oth l _ n (fun _ z => by cases z) h
theorem Ext.sqL {m : Addr → Prop} {K : PySem.W.Frag} {H H' : Hp} (a : Ext m H H') {l : Addr} {xs : List V} (n : ¬ m l) (h : SqL K H l xs) : SqL K H' l xs := by
  rcases h with (h | ⟨locked, h⟩) | h
  · exact .inl (.inl (a.lst n h))
  · exact .inl (.inr ⟨locked, a.oth l _ n (fun _ z => by cases z) h⟩)
  · exact .inr h
/-- which built-ins are still the built-ins -/
structure Bt (mg : Str → Option Value) : Prop where
  len : mg "len" = none
  list : mg "list" = none
  int : mg "int" = none
  tuple : mg "tuple" = none
  dict : mg "dict" = none
  range : mg "range" = none
  min : mg "min" = none
  isinstance : mg "isinstance" = none
  bool : mg "bool" = none
  str : mg "str" = none
  all : mg "all" = none
  zip : mg "zip" = none
  enumerate : mg "enumerate" = none
/-- a def of the text, as callers want it -/
structure Df (K : PySem.W.Frag) (mg : Str → Option Value) (x : Str) (st : Stmt) (ps : List Str) (f : Addr) (fd : FuncData) : Prop where
  F : Fun K x x st f fd
  b : Binds K fd ps []
  g : mg x = some (.ref f)
theorem pcall {X : Cx} {x : Str} {st : Stmt} {ps : List Str} {f : Addr} {fd : FuncData} {k : Nat} {sp : Sp} {e : Expr} {es : List Expr} {t : TA} {p pos : Pos} (D : Df X.K X.mg x st ps f fd) (G : FnOk X.prog X.w X.K X.mg X.base CX0 k f fd ps sp) (hr : Room k X.A) (ha : PA X (e :: es) t) (hg : Gl X x := by rfl)
    (hdb : (x == ("__debug__" : Str)) = false := by decide) (he : starEach (e :: es) X.env = (false, eval e X.env) :: starEach es X.env := by rfl) (hpl : (backTo pos (starEach es X.env)).any (·.1) = false := by rfl) : PE X (.Call (.Name x p) (e :: es) [] pos) (tCall sp [] E0 t) :=
  pe_call G hr hg D.g D.F.kp D.b .nil pass0 ha hdb he hpl
theorem SqT.of {K : PySem.W.Frag} {H : Hp} {a : Addr} {xs : List V} (h : H a = some (.tup xs)) : SqT K H a xs := .inl (.inl h)
theorem SqL.of {K : PySem.W.Frag} {H : Hp} {a : Addr} {xs : List V} (h : H a = some (.lst xs)) : SqL K H a xs := .inl (.inl h)
theorem small_lt {n k : Nat} (h : n ≤ k) (hk : k ≤ 100000) : n < sizeLine := Nat.lt_of_le_of_lt (Nat.le_trans h hk) (by decide)
end Bw
namespace Bw
open PySem PySem.Spec PyProof.Rows L2 GxR
/-! ### the law's own draws -/
/-- the box of draws: at b, its numbers at l -/
structure BoxAt (H : Hp) (b l : Addr) : Prop where
  ex : ∃ (L : List Int) (z : Int), H b = some (.lst [.ref l, .int z]) ∧ H l = some (.lst (L.map V.int)) ∧ 0 ≤ z ∧ z < 2147483647
theorem BoxAt.ne {H : Hp} {b l : Addr} (h : BoxAt H b l) : b ≠ l := by
  obtain ⟨L, z, h1, h2, _⟩ := h.ex
  refine ne_of h1 h2 fun e => ?_
  cases L with
  | nil => cases e
  | cons x r =>
    have e1 : [V.ref l, V.int z] = (x :: r).map V.int := HO.lst.inj e
    rw [List.map_cons] at e1
    cases e1
abbrev bx (b l : Addr) : Addr → Prop := fun x => x = b ∨ x = l
theorem BoxAt.ext {m : Addr → Prop} {H H' : Hp} {b l : Addr} (h : BoxAt H b l) (e : Ext m H H') (n1 : ¬ m b) (n2 : ¬ m l) : BoxAt H' b l := by
  obtain ⟨L, z, h1, h2, h3⟩ := h.ex
  exact ⟨L, z, e.lst n1 h1, e.lst n2 h2, h3⟩
theorem dpInts {K : PySem.W.Frag} {H : Hp} : ∀ L : List Int, DpAll K H (L.map V.int) (L.map PyData.int)
  | [] => .nil
  | x :: r => .cons (.int x) (dpInts r)
theorem shInts (L : List Int) : SeqAt.shaped (.list (L.map PyData.int)) = true := PySem.W.ke_shaped_ints L
theorem ixN_nat {n j : Nat} (h : j < n) : ixN n (j : Int) = some j := by
  unfold ixN
  rw [if_pos (by omega), if_pos (by omega), Int.toNat_natCast]
section
variable {base : Heap} {K : PySem.W.Frag} {mg : Str → Option Value} {P : Program} {w : World}
def spBegun (K : PySem.W.Frag) : Sp := fun vs H Q _ => ∃ (a : Addr) (ns : List Int), vs = [.ref a] ∧ SqL K H a (ns.map V.int) ∧ ns.length ≤ 63 ∧ ∀ H' b l, H b = none → H l = none → BoxAt H' b l → Ext no H H' → Q (.ref b) H'
theorem scBegun : FnScope ["_law_script", "_law_stirred", "_law_cell"] ["_law_script"] (defScope s_begun) := ⟨rfl, rfl, rfl, by decide +kernel, rfl, by decide +kernel, by decide +kernel⟩
theorem ok_begun {f : Addr} {fd : FuncData} (D : Df K mg "_law_begun" s_begun ["_law_script"] f fd) (B : Bt mg) : FnOk P w K mg base CX0 1 f fd ["_law_script"] (spBegun K) := by
  refine D.F.ok scBegun (fun vs H Q E h => ?_) (fun cdv A outer s H vs Q E hr h => ?_)
  · obtain ⟨a, ns, rfl, _⟩ := h
    rfl
  · obtain ⟨a, ns, rfl, hS, few, q⟩ := h
    refine ⟨_, pss_cons (ps_set (i := 1) scBegun.nd rfl (.inl rfl) pe_int)
      (pss_cons (ps_for PassesOwn.never rfl (pi_list (pv 0)) (pg_name (i := 2) scBegun.nd rfl (.inl rfl))
        (pss_one (ps_set (i := 1) scBegun.nd rfl (.inl rfl) (pe_op op_mod (pe_op op_add (pe_op op_add (pe_op op_mul (pv 1) pe_int) (pe_op op_mul (pe_op op_mod (pv 2) pe_int) pe_int)) pe_int) pe_int))))
      (pss_one (ps_ret (pe_lst (pa_cons (pe_callTy call_list_of (by rfl) B.list (by decide +kernel) (pa_cons (pv 0) pa_nil))
        (pa_cons (pe_op op_mul (pv 1) (pe_callTy call_int1 (by rfl) B.int (by decide +kernel) (pa_cons (pe_cmpR op_gt (pe_callB call_len_seq (by rfl) B.len PySem.boot_len (pa_cons (pv 0) pa_nil)) pe_int (nomark _)) pa_nil))) pa_nil)))))), ?_⟩
    refine ⟨_, rfl, a, rfl, ⟨_, hS⟩, for_list (K := K) (a := a) (xs := ns.map V.int) (fun i σ H2 => ∃ (z : Int) (v : Option V), σ = [some (.ref a), some (.int z), v] ∧ H2 = H ∧ 0 ≤ z ∧ z < 2147483647)
      ⟨0, none, rfl, rfl, by decide, by decide⟩ (fun i σ H2 _ ⟨_, _, _, e, _⟩ => by rw [e]; exact hS) ?_ ?_⟩
    · rintro i y σ H2 hi ⟨z, v, rfl, rfl, z0, z1⟩
      obtain ⟨c, rfl⟩ : ∃ c, y = V.int c := by
        rw [List.getElem?_map] at hi
        cases e : ns[i]? with
        | none => rw [e] at hi; cases hi
        | some z => rw [e] at hi; exact ⟨z, (Option.some.inj hi).symm⟩
      refine ⟨_, rfl, _, _, rfl, rfl, .inl ⟨by omega, by omega⟩, _, rfl, _, _, rfl, rfl, (by show (0 : Int) < 2147483647; decide), _, _, rfl, rfl, .inr ⟨by decide, by decide⟩, _, _, rfl, rfl, _, _, rfl, rfl, _, _, rfl, rfl, (by show (0 : Int) < 2147483647; decide), ?_⟩
      exact ⟨_, _, rfl, rfl, Int.emod_nonneg _ (by decide), Int.emod_lt_of_pos _ (by decide)⟩
    · rintro σ H2 ⟨z, v, rfl, rfl, z0, z1⟩
      refine ⟨_, rfl, a, _, rfl, .inl hS, fun l nl => ?_⟩
      refine ⟨_, rfl, _, rfl, a, _, rfl, .inl (Ext.sqL (Ext.new (m := no) nl) (fun z => z) hS), _, _, rfl, rfl, .inr ⟨_, rfl, _, _, rfl, rfl, .inl ⟨by omega, by omega⟩, ?_⟩⟩
      refine ⟨by show 2 ≤ sizeLine; decide, fun b nb => ?_⟩
      have nbl : b ≠ l := fun e => by rw [e, upd_same] at nb; cases nb
      have nb' : H2 b = none := by rw [upd_ne nbl] at nb; exact nb
      refine q _ b l nb' nl ⟨ns, _, upd_same, by rw [upd_ne nbl.symm, upd_same], ?_⟩ ((Ext.new nl).trans (Ext.new nb))
      split
      · omega
      · omega
def spTake : Sp := fun vs H Q _ => ∃ (b l : Addr) (many : Int), vs = [.ref b, .int many] ∧ BoxAt H b l ∧ 0 < many ∧ many < 1073741824 ∧ ∀ H' r, 0 ≤ r → r < many → BoxAt H' b l → Ext (bx b l) H H' → Q (.int r) H'
theorem scTake : FnScope ["_law_box", "_law_many", "_law_number"] ["_law_box", "_law_many"] (defScope s_take) := ⟨rfl, rfl, rfl, by decide +kernel, rfl, by decide +kernel, by decide +kernel⟩
theorem ok_take {f : Addr} {fd : FuncData} (D : Df K mg "_law_take" s_take ["_law_box", "_law_many"] f fd) : FnOk P w K mg base CX0 1 f fd ["_law_box", "_law_many"] spTake := by
  refine D.F.ok scTake (fun vs H Q E h => ?_) (fun cdv A outer s H vs Q E hr h => ?_)
  · obtain ⟨b, l, many, rfl, _⟩ := h
    rfl
  · obtain ⟨b, l, many, rfl, bo, m0, m1, q⟩ := h
    have hu := hr.units
    refine ⟨_, pss_cons (ps_if (pt_cmpR (op_eqD hu) (pe_ix ix_list (pv 0) pe_int (fun _ _ => rfl)) (pe_lst pa_nil) (nomark _))
        (pss_cons (ps_asg (pe_op op_mod (pe_op op_mul (pe_ix ix_list (pv 0) pe_int (fun _ _ => rfl)) pe_int) pe_int) (pg_sub (pv 0) pe_int set_list))
        (pss_one (ps_ret (pe_op op_mod (pe_op op_fdiv (pe_ix ix_list (pv 0) pe_int (fun _ _ => rfl)) pe_int) (pv 1))))) pss_nil)
      (pss_cons (ps_set (i := 2) scTake.nd rfl (.inl rfl) (pe_ix ix_list (pe_ix ix_list (pv 0) pe_int (fun _ _ => rfl)) pe_int (fun _ _ => rfl)))
      (pss_cons (ps_asg (pe_op op_fdiv (pv 2) (pv 1)) (pg_sub (pe_ix ix_list (pv 0) pe_int (fun _ _ => rfl)) pe_int set_list))
      (pss_cons (ps_if (PW.pt (pw_or (pt_cmpR op_eq (pe_ix ix_list (pe_ix ix_list (pv 0) pe_int (fun _ _ => rfl)) pe_int (fun _ _ => rfl)) pe_int (nomark _)) (pw_or1 (pt_cmpR op_eq (pe_ix ix_list (pe_ix ix_list (pv 0) pe_int (fun _ _ => rfl)) pe_int (fun _ _ => rfl)) (pe_un un_neg pe_int) (nomark _)))))
        (pss_one (ps_expr (pe_bm PySem.F.plainAttrs_list PySem.F.slot_list_pop PySem.F.type_list_pop mt_popAt (pe_ix ix_list (pv 0) pe_int (fun _ _ => rfl)) (pa_cons pe_int pa_nil)))) pss_nil)
      (pss_one (ps_ret (pe_op op_mod (pv 2) (pv 1))))))), ?_⟩
    obtain ⟨L, z, h1, h2, z0, z1⟩ := bo.ex
    have nbl := bo.ne
    -- if box[0] == []
    refine ⟨_, rfl, b, _, 0, _, rfl, rfl, SqL.of h1, atI_nat (j := 0) rfl, Nat.zero_le _, fun p np => ?_⟩
    have npl : l ≠ p := ne_of_none h2 np
    have npb : b ≠ p := ne_of_none h1 np
    have k1 : (upd H p (.lst [])) b = some (.lst [.ref l, .int z]) := by rw [upd_ne npb]; exact h1
    have k2 : (upd H p (.lst [])) l = some (.lst (L.map V.int)) := by rw [upd_ne npl]; exact h2
    have ex0 : Ext (bx b l) H (upd H p (.lst [])) := Ext.new np
    refine ⟨.list (L.map PyData.int), .list [], .lst (SqL.of k2) (dpInts L), .lst (SqL.of upd_same) .nil, shInts L, rfl, _, rfl, ite2 (fun e => ?_) (fun e => ?_)⟩
    · -- the script is used up
      have hs1 := Ext.put (m := bx b l) (o' := .lst [.ref l, .int (z * 48271 % 2147483647)]) k1 (.inl rfl) (fun _ z => by cases z) (fun _ z => by cases z)
      refine ⟨_, rfl, b, _, 1, _, rfl, rfl, SqL.of k1, atI_nat (j := 1) rfl, _, _, rfl, rfl, .inl ⟨by omega, by omega⟩, _, _, rfl, rfl, (by show (0 : Int) < 2147483647; decide), ?_⟩
      refine ⟨_, rfl, b, _, 1, 1, rfl, rfl, k1, rfl, ?_⟩
      refine ⟨_, rfl, b, _, 1, _, rfl, rfl, SqL.of upd_same, atI_nat (j := 1) rfl, _, _, rfl, rfl, ⟨by decide, by decide⟩, _, rfl, _, _, rfl, rfl, m0, ?_⟩
      refine q _ _ (Int.emod_nonneg _ (by omega)) (Int.emod_lt_of_pos _ m0) ⟨L, z * 48271 % 2147483647, upd_same, by rw [upd_ne nbl.symm]; exact k2, Int.emod_nonneg _ (by decide), Int.emod_lt_of_pos _ (by decide)⟩ (ex0.trans hs1)
    · obtain ⟨x, r, rfl⟩ : ∃ x r, L = x :: r := by
        cases L with
        | nil => exact absurd rfl e
        | cons first more => exact ⟨first, more, rfl⟩
      -- number = box[0][0]
      refine ⟨_, rfl, b, _, 0, _, rfl, rfl, SqL.of k1, atI_nat (j := 0) rfl, l, _, 0, _, rfl, rfl, SqL.of k2, atI_nat (j := 0) rfl, ?_⟩
      -- box[0][0] = number // many
      refine ⟨_, rfl, _, rfl, _, _, rfl, rfl, ⟨m0, m1⟩, _, rfl, b, _, 0, _, rfl, rfl, SqL.of k1, atI_nat (j := 0) rfl, l, _, 0, 0, rfl, rfl, k2, ixN_nat (j := 0) (Nat.zero_lt_succ _), ?_⟩
      have e1 : ((x :: r).map V.int).set 0 (V.int (x / many)) = ((x / many) :: r).map V.int := rfl
      rw [e1]
      generalize hH2 : upd (upd H p (.lst [])) l (.lst (((x / many) :: r).map V.int)) = H2
      have j1 : H2 b = some (.lst [.ref l, .int z]) := by rw [← hH2, upd_ne nbl]; exact k1
      have j2 : H2 l = some (.lst (((x / many) :: r).map V.int)) := by rw [← hH2]; exact upd_same
      have ex2 : Ext (bx b l) H H2 := by
        rw [← hH2]
        exact ex0.trans (Ext.put k2 (.inr rfl) (fun _ z => by cases z) (fun _ z => by cases z))
      -- the end
      have fin : ∀ (H3 : Hp) (L3 : List Int), H3 b = some (.lst [.ref l, .int z]) → H3 l = some (.lst (L3.map V.int)) → Ext (bx b l) H H3 → Q (.int (x % many)) H3 := fun H3 L3 q1 q2 q3 =>
        q H3 _ (Int.emod_nonneg _ (by omega)) (Int.emod_lt_of_pos _ m0) ⟨L3, z, q1, q2, z0, z1⟩ q3
      have pop : atI [V.ref l, V.int z] 0 = some (.ref l) → ∃ (H3 : Hp), H3 = upd H2 l (.lst (r.map V.int)) ∧ H3 b = some (.lst [.ref l, .int z]) ∧ H3 l = some (.lst (r.map V.int)) ∧ Ext (bx b l) H H3 := fun _ =>
        ⟨_, rfl, by rw [upd_ne nbl]; exact j1, upd_same, ex2.trans (Ext.put j2 (.inr rfl) (fun _ z => by cases z) (fun _ z => by cases z))⟩
      obtain ⟨H3, eH3, p1, p2, p3⟩ := pop (atI_nat (j := 0) rfl)
      refine ⟨_, rfl, b, _, 0, _, rfl, rfl, SqL.of j1, atI_nat (j := 0) rfl, l, _, 0, _, rfl, rfl, SqL.of j2, atI_nat (j := 0) rfl, rfl, _, rfl, ite2 (fun e => ?_) (fun e => ?_)⟩
      · refine iteT ?_
        refine ⟨_, rfl, b, _, 0, _, rfl, rfl, SqL.of j1, atI_nat (j := 0) rfl, .inl ⟨rfl, _, SqL.of j2⟩, l, _, 0, 0, _, rfl, rfl, j2, by decide, by decide, (ixN_seq (ixN_nat (j := 0) (Nat.zero_lt_succ _))).1, rfl, ?_⟩
        refine ⟨_, rfl, _, rfl, _, _, rfl, rfl, m0, ?_⟩
        rw [show (List.map V.int (x / many :: r)).eraseIdx 0 = r.map V.int from rfl, ← eH3]
        exact fin H3 r p1 p2 p3
      · refine ⟨_, rfl, b, _, 0, _, rfl, rfl, SqL.of j1, atI_nat (j := 0) rfl, l, _, 0, _, rfl, rfl, SqL.of j2, atI_nat (j := 0) rfl, _, rfl, rfl, _, rfl, ite2 (fun e => ?_) (fun e => ?_)⟩
        · refine ⟨_, rfl, b, _, 0, _, rfl, rfl, SqL.of j1, atI_nat (j := 0) rfl, .inl ⟨rfl, _, SqL.of j2⟩, l, _, 0, 0, _, rfl, rfl, j2, by decide, by decide, (ixN_seq (ixN_nat (j := 0) (Nat.zero_lt_succ _))).1, rfl, ?_⟩
          refine ⟨_, rfl, _, rfl, _, _, rfl, rfl, m0, ?_⟩
          rw [show (List.map V.int (x / many :: r)).eraseIdx 0 = r.map V.int from rfl, ← eH3]
          exact fin H3 r p1 p2 p3
        · refine ⟨_, rfl, _, rfl, _, _, rfl, rfl, m0, ?_⟩
          exact fin H2 _ j1 j2 ex2
end
end Bw
namespace Bw
open PySem PySem.Spec PyProof.Rows L2 GxR
/-! ### programs -/
inductive Row where
  | put (n : Nat) (v : Int) | copy (n o : Nat) | add (n a b : Nat) | take (n a b : Nat) | less (n a b : Nat) | call (n o : Nat) | say (n : Nat) | iff (n r : Nat) | go (r : Nat) | fin
def rowV : Row → List V
  | .put n v => [.str "put", .int n, .int v]
  | .copy n o => [.str "copy", .int n, .int o]
  | .add n a b => [.str "add", .int n, .int a, .int b]
  | .take n a b => [.str "take", .int n, .int a, .int b]
  | .less n a b => [.str "less", .int n, .int a, .int b]
  | .call n o => [.str "call", .int n, .int o]
  | .say n => [.str "say", .int n]
  | .iff n r => [.str "if", .int n, .int r]
  | .go r => [.str "go", .int r]
  | .fin => [.str "end"]
def RowOk (names many : Nat) : Row → Prop
  | .put n v => n < names ∧ 0 ≤ v ∧ v < 1000
  | .copy n o => n < names ∧ o < names
  | .add n a b => n < names ∧ a < names ∧ b < names
  | .take n a b => n < names ∧ a < names ∧ b < names
  | .less n a b => n < names ∧ a < names ∧ b < names
  | .call n o => n < names ∧ o < names
  | .say n => n < names
  | .iff n r => n < names ∧ r < many
  | .go r => r < many
  | .fin => True
theorem nat_of {i : Int} {n : Nat} (h0 : 0 ≤ i) (h1 : i < n) : ∃ k : Nat, i = (k : Int) ∧ k < n := ⟨i.toNat, by omega, by omega⟩
theorem BoxAt.nb {H : Hp} {b l p : Addr} (h : BoxAt H b l) (np : H p = none) : ¬ bx b l p := by
  obtain ⟨L, z, h1, h2, _⟩ := h.ex
  rintro (e | e)
  · rw [e, h1] at np; cases np
  · rw [e, h2] at np; cases np
theorem BoxAt.new {H : Hp} {b l p : Addr} {o : HO} (h : BoxAt H b l) (np : H p = none) : BoxAt (upd H p o) b l := h.ext (Ext.new (m := no) np) (fun z => z) (fun z => z)
theorem pick2 {x y : V} {i : Int} (h0 : 0 ≤ i) (h1 : i < 2) : ∃ v, atI [x, y] i = some v ∧ (v = x ∨ v = y) := by
  have e : i = 0 ∨ i = 1 := by omega
  rcases e with rfl | rfl
  · exact ⟨x, atI_nat (j := 0) rfl, .inl rfl⟩
  · exact ⟨y, atI_nat (j := 1) rfl, .inr rfl⟩
theorem pick3 {x y z : V} {i : Int} (h0 : 0 ≤ i) (h1 : i < 3) : ∃ v, atI [x, y, z] i = some v ∧ (v = x ∨ v = y ∨ v = z) := by
  have e : i = 0 ∨ i = 1 ∨ i = 2 := by omega
  rcases e with rfl | rfl | rfl
  · exact ⟨x, atI_nat (j := 0) rfl, .inl rfl⟩
  · exact ⟨y, atI_nat (j := 1) rfl, .inr (.inl rfl)⟩
  · exact ⟨z, atI_nat (j := 2) rfl, .inr (.inr rfl)⟩
section
variable {base : Heap} {K : PySem.W.Frag} {mg : Str → Option Value} {P : Program} {w : World}
def spRow : Sp := fun vs H Q _ => ∃ (b l : Addr) (names many at_ : Nat), vs = [.ref b, .int names, .int many, .int at_] ∧ BoxAt H b l ∧ 0 < names ∧ names ≤ 8 ∧ 0 < many ∧ many ≤ 24 ∧ at_ < many ∧
  ∀ H' r row, RowOk names many row → H' r = some (.tup (rowV row)) → BoxAt H' b l → Ext (bx b l) H H' → Q (.ref r) H'
theorem scRow : FnScope ["_law_box", "_law_names", "_law_many", "_law_at", "_law_way", "_law_name", "_law_one", "_law_other", "_law_goal"] ["_law_box", "_law_names", "_law_many", "_law_at"] (defScope s_row) := ⟨rfl, rfl, rfl, by decide +kernel, rfl, by decide +kernel, by decide +kernel⟩
theorem ok_row {f fT : Addr} {fd fdT : FuncData} (D : Df K mg "_law_row" s_row ["_law_box", "_law_names", "_law_many", "_law_at"] f fd) (DT : Df K mg "_law_take" s_take ["_law_box", "_law_many"] fT fdT) (B : Bt mg) :
    FnOk P w K mg base CX0 2 f fd ["_law_box", "_law_names", "_law_many", "_law_at"] spRow := by
  have GT : FnOk P w K mg base CX0 1 fT fdT ["_law_box", "_law_many"] spTake := ok_take DT
  refine D.F.ok scRow (fun vs H Q E h => ?_) (fun cdv A outer s H vs Q E hr h => ?_)
  · obtain ⟨b, l, names, many, at_, rfl, _⟩ := h
    rfl
  · obtain ⟨b, l, names, many, at_, rfl, bo, n0, n1, m0, m1, a1, q⟩ := h
    refine ⟨_, pss_cons (ps_set (i := 4) scRow.nd rfl (.inl rfl) (pcall DT GT hr (pa_cons (pv 0) (pa_cons pe_int pa_nil))))
      (pss_cons (ps_par3 (i := 5) (j := 6) (l := 7) rfl scRow.nd rfl rfl rfl (by decide) (by decide) (by decide) rfl rfl rfl
        (pa_cons (pcall DT GT hr (pa_cons (pv 0) (pa_cons (pv 1) pa_nil))) (pa_cons (pcall DT GT hr (pa_cons (pv 0) (pa_cons (pv 1) pa_nil))) (pa_cons (pcall DT GT hr (pa_cons (pv 0) (pa_cons (pv 1) pa_nil))) pa_nil))) (by rfl))
      (pss_cons (ps_if (pt_cmpR op_lt (pv 4) pe_int (nomark _)) (pss_one (ps_ret (pe_tup (pa_cons pe_str (pa_cons (pv 5) (pa_cons
          (pe_ix ix_list (pe_lst (pa_cons (pcall DT GT hr (pa_cons (pv 0) (pa_cons pe_int pa_nil))) (pa_cons (pcall DT GT hr (pa_cons (pv 0) (pa_cons pe_int pa_nil))) pa_nil))) (pcall DT GT hr (pa_cons (pv 0) (pa_cons pe_int pa_nil))) (fun _ _ => rfl)) pa_nil)))))) pss_nil)
      (pss_cons (ps_if (pt_cmpR op_lt (pv 4) pe_int (nomark _)) (pss_one (ps_ret (pe_tup (pa_cons pe_str (pa_cons (pv 5) (pa_cons (pv 6) pa_nil)))))) pss_nil)
      (pss_cons (ps_if (pt_cmpR op_lt (pv 4) pe_int (nomark _)) (pss_one (ps_ret (pe_tup (pa_cons (pe_ix ix_list (pe_lst (pa_cons pe_str (pa_cons pe_str (pa_cons pe_str pa_nil)))) (pe_op op_sub (pv 4) pe_int) (fun _ _ => rfl)) (pa_cons (pv 5) (pa_cons (pv 6) (pa_cons (pv 7) pa_nil))))))) pss_nil)
      (pss_cons (ps_if (pt_cmpR op_lt (pv 4) pe_int (nomark _)) (pss_one (ps_ret (pe_tup (pa_cons pe_str (pa_cons (pv 5) (pa_cons (pv 6) pa_nil)))))) pss_nil)
      (pss_cons (ps_if (pt_cmpR op_lt (pv 4) pe_int (nomark _)) (pss_one (ps_ret (pe_tup (pa_cons pe_str (pa_cons (pv 6) pa_nil))))) pss_nil)
      (pss_cons (ps_set (i := 8) scRow.nd rfl (.inl rfl) (pcall DT GT hr (pa_cons (pv 0) (pa_cons (pv 2) pa_nil))))
      (pss_cons (ps_if (pt_cmpR op_lt (pv 4) pe_int (nomark _)) (pss_one (ps_ret (pe_tup (pa_cons pe_str (pa_cons (pv 6) (pa_cons
          (pe_ix ix_list (pe_lst (pa_cons (pv 8) (pa_cons (pe_callB (call_min2 rfl) (by rfl) B.min (by decide +kernel) (pa_cons (pe_op op_sub (pv 2) pe_int) (pa_cons (pe_op op_add (pe_op op_add (pv 3) pe_int) (pe_op op_mod (pv 8) pe_int)) pa_nil))) pa_nil))) (pcall DT GT hr (pa_cons (pv 0) (pa_cons pe_int pa_nil))) (fun _ _ => rfl)) pa_nil)))))) pss_nil)
      (pss_one (ps_ret (pe_ix ix_list (pe_lst (pa_cons (pe_tup (pa_cons pe_str (pa_cons (pe_callB (call_min2 rfl) (by rfl) B.min (by decide +kernel) (pa_cons (pe_op op_sub (pv 2) pe_int) (pa_cons (pe_op op_add (pe_op op_add (pv 3) pe_int) (pe_op op_mod (pv 8) pe_int)) pa_nil))) pa_nil)))
          (pa_cons (pe_tup (pa_cons pe_str (pa_cons (pv 8) pa_nil))) (pa_cons (pe_tup (pa_cons pe_str pa_nil)) pa_nil)))) (pcall DT GT hr (pa_cons (pv 0) (pa_cons pe_int pa_nil))) (fun _ _ => rfl)))))))))))), ?_⟩
    refine ⟨_, rfl, b, l, 15, rfl, bo, by decide, by decide, fun H1 way w0 w1 bo1 x1 => ?_⟩
    refine ⟨_, rfl, _, rfl, b, l, names, rfl, bo1, by omega, by omega, fun H2 na na0 na1 bo2 x2 => ?_⟩
    refine ⟨_, rfl, _, rfl, b, l, names, rfl, bo2, by omega, by omega, fun H3 on on0 on1 bo3 x3 => ?_⟩
    refine ⟨_, rfl, _, rfl, b, l, names, rfl, bo3, by omega, by omega, fun H4 ot ot0 ot1 bo4 x4 => ⟨_, _, _, rfl, ?_⟩⟩
    have X4 : Ext (bx b l) H H4 := ((x1.trans x2).trans x3).trans x4
    obtain ⟨n, rfl, hn⟩ := nat_of na0 na1
    obtain ⟨o, rfl, ho⟩ := nat_of on0 on1
    obtain ⟨u, rfl, hu⟩ := nat_of ot0 ot1
    -- put
    refine ⟨_, rfl, _, _, rfl, rfl, _, rfl, ite2 (fun e => ?_) (fun e1 => ?_)⟩
    · refine ⟨_, rfl, _, rfl, b, l, 1000, rfl, bo4, by decide, by decide, fun H5 v1 v10 v11 bo5 x5 => ?_⟩
      refine ⟨_, rfl, b, l, 3, rfl, bo5, by decide, by decide, fun H6 v2 v20 v21 bo6 x6 => ⟨by show 2 ≤ sizeLine; decide, fun p np => ?_⟩⟩
      refine ⟨_, rfl, b, l, 2, rfl, bo6.new np, by decide, by decide, fun H7 i i0 i1 bo7 x7 => ?_⟩
      obtain ⟨v, ev, hv⟩ := pick2 (x := .int v1) (y := .int v2) i0 i1
      refine ⟨p, _, i, v, rfl, rfl, SqL.of (x7.lst (bo6.nb np) upd_same), ev, by show 3 ≤ sizeLine; decide, fun t nt => ?_⟩
      have X7 : Ext (bx b l) H (upd H7 t (.tup [.str "put", .int n, v])) := (((X4.trans x5).trans x6).trans (Ext.new np)).trans (x7.trans (Ext.new nt))
      rcases hv with rfl | rfl
      · exact q _ t (.put n v1) ⟨hn, v10, v11⟩ upd_same (bo7.new nt) X7
      · exact q _ t (.put n v2) ⟨hn, v20, by omega⟩ upd_same (bo7.new nt) X7
    -- copy
    refine ⟨_, rfl, _, _, rfl, rfl, _, rfl, ite2 (fun e => ?_) (fun e2 => ?_)⟩
    · refine ⟨_, rfl, _, rfl, by show 3 ≤ sizeLine; decide, fun t nt => ?_⟩
      exact q _ t (.copy n o) ⟨hn, ho⟩ upd_same (bo4.new nt) (X4.trans (Ext.new nt))
    -- add, take, less
    have w2 : ¬ way < 4 := fun z => e2 (decide_eq_true z)
    refine ⟨_, rfl, _, _, rfl, rfl, _, rfl, ite2 (fun e => ?_) (fun e3 => ?_)⟩
    · have w7 : way < 7 := of_decide_eq_true e
      refine ⟨by show 3 ≤ sizeLine; decide, fun p np => ?_⟩
      obtain ⟨v, ev, hv⟩ := pick3 (x := .str "add") (y := .str "take") (z := .str "less") (i := way - 4) (by omega) (by omega)
      refine ⟨_, rfl, _, _, rfl, rfl, p, _, _, v, rfl, rfl, SqL.of upd_same, ev, _, rfl, _, rfl, _, rfl, by show 4 ≤ sizeLine; decide, fun t nt => ?_⟩
      have X7 : Ext (bx b l) H (upd (upd H4 p (.lst [.str "add", .str "take", .str "less"])) t (.tup [v, .int n, .int o, .int u])) := X4.trans ((Ext.new np).trans (Ext.new nt))
      rcases hv with rfl | rfl | rfl
      · exact q _ t (.add n o u) ⟨hn, ho, hu⟩ upd_same ((bo4.new np).new nt) X7
      · exact q _ t (.take n o u) ⟨hn, ho, hu⟩ upd_same ((bo4.new np).new nt) X7
      · exact q _ t (.less n o u) ⟨hn, ho, hu⟩ upd_same ((bo4.new np).new nt) X7
    -- call
    refine ⟨_, rfl, _, _, rfl, rfl, _, rfl, ite2 (fun e => ?_) (fun e4 => ?_)⟩
    · refine ⟨_, rfl, _, rfl, by show 3 ≤ sizeLine; decide, fun t nt => ?_⟩
      exact q _ t (.call n o) ⟨hn, ho⟩ upd_same (bo4.new nt) (X4.trans (Ext.new nt))
    -- say
    refine ⟨_, rfl, _, _, rfl, rfl, _, rfl, ite2 (fun e => ?_) (fun e5 => ?_)⟩
    · refine ⟨_, rfl, by show 2 ≤ sizeLine; decide, fun t nt => ?_⟩
      exact q _ t (.say o) ho upd_same (bo4.new nt) (X4.trans (Ext.new nt))
    -- goal
    refine ⟨_, rfl, _, rfl, b, l, many, rfl, bo4, by omega, by omega, fun H5 gl g0 g1 bo5 x5 => ?_⟩
    obtain ⟨gn, rfl, hg⟩ := nat_of g0 g1
    have X5 := X4.trans x5
    have mn : ∀ (d : Int), 0 < d → ∃ r : Nat, (if (at_ : Int) + 1 + (gn : Int) % d < (many : Int) - 1 then (at_ : Int) + 1 + (gn : Int) % d else (many : Int) - 1) = (r : Int) ∧ r < many := fun d hd => by
      have h1 := Int.emod_nonneg (gn : Int) (show d ≠ 0 by omega)
      split
      · exact ⟨((at_ : Int) + 1 + (gn : Int) % d).toNat, by omega, by omega⟩
      · exact ⟨many - 1, by omega, by omega⟩
    refine ⟨_, rfl, _, _, rfl, rfl, _, rfl, ite2 (fun e => ?_) (fun e6 => ?_)⟩
    · obtain ⟨r1, er, hr1⟩ := mn 4 (by decide)
      refine ⟨_, rfl, _, rfl, _, rfl, _, _, rfl, rfl, _, rfl, _, _, rfl, rfl, _, rfl, _, _, rfl, rfl, (by show (0 : Int) < 4; decide), _, _, rfl, rfl, _, _, rfl, by show 2 ≤ sizeLine; decide, fun p np => ?_⟩
      rw [er]
      refine ⟨_, rfl, b, l, 2, rfl, bo5.new np, by decide, by decide, fun H7 i i0 i1 bo7 x7 => ?_⟩
      obtain ⟨v, ev, hv⟩ := pick2 (x := .int gn) (y := .int r1) i0 i1
      refine ⟨p, _, i, v, rfl, rfl, SqL.of (x7.lst (bo5.nb np) upd_same), ev, by show 3 ≤ sizeLine; decide, fun t nt => ?_⟩
      have X7 : Ext (bx b l) H (upd H7 t (.tup [.str "if", .int o, v])) := (X5.trans (Ext.new np)).trans (x7.trans (Ext.new nt))
      rcases hv with rfl | rfl
      · exact q _ t (.iff o gn) ⟨ho, hg⟩ upd_same (bo7.new nt) X7
      · exact q _ t (.iff o r1) ⟨ho, hr1⟩ upd_same (bo7.new nt) X7
    · obtain ⟨r1, er, hr1⟩ := mn 3 (by decide)
      refine ⟨_, rfl, _, _, rfl, rfl, _, rfl, _, _, rfl, rfl, _, rfl, _, _, rfl, rfl, (by show (0 : Int) < 3; decide), _, _, rfl, rfl, _, _, rfl, by show 2 ≤ sizeLine; decide, fun p1 np1 => ?_⟩
      rw [er]
      refine ⟨_, rfl, by show 2 ≤ sizeLine; decide, fun p2 np2 => ⟨by show 1 ≤ sizeLine; decide, fun p3 np3 => ⟨by show 3 ≤ sizeLine; decide, fun p np => ?_⟩⟩⟩
      have bo6 := ((bo5.new (o := .tup [.str "go", .int r1]) np1).new (o := .tup [.str "go", .int gn]) np2).new (o := .tup [.str "end"]) np3
      have X6 := X5.trans ((Ext.new (o := .tup [.str "go", .int r1]) np1).trans ((Ext.new (o := .tup [.str "go", .int gn]) np2).trans ((Ext.new (o := .tup [.str "end"]) np3).trans (Ext.new (o := .lst [.ref p1, .ref p2, .ref p3]) np))))
      refine ⟨_, rfl, b, l, 3, rfl, bo6.new np, by decide, by decide, fun H7 i i0 i1 bo7 x7 => ?_⟩
      obtain ⟨v, ev, hv⟩ := pick3 (x := .ref p1) (y := .ref p2) (z := .ref p3) i0 i1
      refine ⟨p, _, i, v, rfl, rfl, SqL.of (x7.lst (bo6.nb np) upd_same), ev, ?_⟩
      have t1 : H7 p1 = some (.tup [.str "go", .int r1]) := x7.tup _ _ ((Ext.new (m := no) np).tup _ _ ((Ext.new (m := no) np3).tup _ _ ((Ext.new (m := no) np2).tup _ _ upd_same)))
      have t2 : H7 p2 = some (.tup [.str "go", .int gn]) := x7.tup _ _ ((Ext.new (m := no) np).tup _ _ ((Ext.new (m := no) np3).tup _ _ upd_same))
      have t3 : H7 p3 = some (.tup [.str "end"]) := x7.tup _ _ ((Ext.new (m := no) np).tup _ _ upd_same)
      rcases hv with rfl | rfl | rfl
      · exact q _ p1 (.go r1) hr1 t1 bo7 (X6.trans x7)
      · exact q _ p2 (.go gn) hg t2 bo7 (X6.trans x7)
      · exact q _ p3 .fin trivial t3 bo7 (X6.trans x7)
end
end Bw
namespace Bw
open PySem PySem.Spec PyProof.Rows L2 GxR
structure Prog where
  params : Nat
  names : Nat
  rows : List Row
structure Prog.Ok (p : Prog) : Prop where
  n0 : 0 < p.names
  n1 : p.names ≤ 8
  pn : p.params ≤ p.names
  r0 : 0 < p.rows.length
  r1 : p.rows.length ≤ 24
  ok : ∀ row ∈ p.rows, RowOk p.names p.rows.length row
structure RowsAt (H : Hp) (as : List Addr) (rows : List Row) : Prop where
  len : as.length = rows.length
  at_ : ∀ (i : Nat) (r : Addr) (row : Row), as[i]? = some r → rows[i]? = some row → H r = some (.tup (rowV row))
theorem RowsAt.ext {m : Addr → Prop} {H H' : Hp} {as : List Addr} {rows : List Row} (h : RowsAt H as rows) (e : Ext m H H') : RowsAt H' as rows := ⟨h.len, fun i r row h1 h2 => e.tup _ _ (h.at_ i r row h1 h2)⟩
theorem RowsAt.snoc {H : Hp} {as : List Addr} {rows : List Row} {r : Addr} {row : Row} (h : RowsAt H as rows) (e : H r = some (.tup (rowV row))) : RowsAt H (as ++ [r]) (rows ++ [row]) := by
  refine ⟨by rw [List.length_append, List.length_append, h.len]; rfl, fun i r' row' h1 h2 => ?_⟩
  by_cases hi : i < as.length
  · rw [List.getElem?_append_left hi] at h1
    rw [List.getElem?_append_left (by rw [← h.len]; exact hi)] at h2
    exact h.at_ i r' row' h1 h2
  · have hi2 : i = as.length := by
      have := (List.getElem?_eq_some_iff.mp h1).1
      rw [List.length_append] at this
      simp at this
      omega
    subst hi2
    rw [List.getElem?_append_right (Nat.le_refl _), Nat.sub_self] at h1
    rw [List.getElem?_append_right (by rw [h.len]; exact Nat.le_refl _), h.len, Nat.sub_self] at h2
    cases h1
    cases h2
    exact e
structure ProgAt (H : Hp) (a : Addr) (p : Prog) : Prop where
  ex : ∃ (rs : Addr) (as : List Addr), H a = some (.tup [.int p.params, .int p.names, .ref rs]) ∧ H rs = some (.tup (as.map V.ref)) ∧ RowsAt H as p.rows
theorem asg_int {i : Nat} {a b : Int} {σ : L2.St} {H : Hp} {D : L2.St → Hp → Prop} (e : a = b) (h : gName i (.int b) σ H D) : gName i (.int a) σ H D := e ▸ h
section
variable {base : Heap} {K : PySem.W.Frag} {mg : Str → Option Value} {P : Program} {w : World}
def spProgram : Sp := fun vs H Q _ => ∃ (b l : Addr) (most : Nat), vs = [.ref b, .int most] ∧ BoxAt H b l ∧ 0 < most ∧ most ≤ 24 ∧
  ∀ H' a p, p.Ok → p.rows.length ≤ most → ProgAt H' a p → BoxAt H' b l → Ext (bx b l) H H' → Q (.ref a) H'
theorem scProgram : FnScope ["_law_box", "_law_most", "_law_names", "_law_params", "_law_many", "_law_at"] ["_law_box", "_law_most"] (defScope s_program) := ⟨rfl, rfl, rfl, by decide +kernel, rfl, by decide +kernel, by decide +kernel⟩
theorem ok_program {f fT fR : Addr} {fd fdT fdR : FuncData} (D : Df K mg "_law_program" s_program ["_law_box", "_law_most"] f fd) (DT : Df K mg "_law_take" s_take ["_law_box", "_law_many"] fT fdT)
    (DR : Df K mg "_law_row" s_row ["_law_box", "_law_names", "_law_many", "_law_at"] fR fdR) (B : Bt mg) :
    FnOk P w K mg base CX0 3 f fd ["_law_box", "_law_most"] spProgram := by
  have GT : FnOk P w K mg base CX0 1 fT fdT ["_law_box", "_law_many"] spTake := ok_take DT
  have GR : FnOk P w K mg base CX0 2 fR fdR ["_law_box", "_law_names", "_law_many", "_law_at"] spRow := ok_row DR DT B
  refine D.F.ok scProgram (fun vs H Q E h => ?_) (fun cdv A outer s H vs Q E hr h => ?_)
  · obtain ⟨b, l, most, rfl, _⟩ := h
    rfl
  · obtain ⟨b, l, most, rfl, bo, m0, m1, q⟩ := h
    have hr1 := hr.mono (show 1 ≤ 2 by decide)
    refine ⟨_, pss_cons (ps_set (i := 2) scProgram.nd rfl (.inr rfl) (pe_op op_add pe_int (pcall DT GT hr1 (pa_cons (pv 0) (pa_cons (pe_ix ix_list (pe_lst (pa_cons pe_int (pa_cons pe_int (pa_cons pe_int pa_nil)))) (pcall DT GT hr1 (pa_cons (pv 0) (pa_cons pe_int pa_nil))) (fun _ _ => rfl)) pa_nil)))))
      (pss_cons (ps_set (i := 3) scProgram.nd rfl (.inl rfl) (pe_ix ix_list (pe_lst (pa_cons (pv 2) (pa_cons (pcall DT GT hr1 (pa_cons (pv 0) (pa_cons (pe_op op_add (pv 2) pe_int) pa_nil))) pa_nil))) (pcall DT GT hr1 (pa_cons (pv 0) (pa_cons pe_int pa_nil))) (fun _ _ => rfl)))
      (pss_cons (ps_set (i := 4) scProgram.nd rfl (.inr rfl) (pe_op op_add pe_int (pcall DT GT hr1 (pa_cons (pv 0) (pa_cons (pe_ix ix_list (pe_lst (pa_cons (pv 1) (pa_cons (pe_callB (call_min2 rfl) (by rfl) B.min (by decide +kernel) (pa_cons (pv 1) (pa_cons pe_int pa_nil))) pa_nil))) (pcall DT GT hr1 (pa_cons (pv 0) (pa_cons pe_int pa_nil))) (fun _ _ => rfl)) pa_nil)))))
      (pss_one (ps_ret (pe_tup (pa_cons (pv 3) (pa_cons (pv 2) (pa_cons (pe_callTy call_tuple_of (by rfl) B.tuple (by decide +kernel) (pa_cons
        (pe_lc (own := [("_law_at", 5)]) (g := gName 5) (tt := tYes) rfl scProgram.nd (pi_range1 (by rfl) B.range (pa_cons (pv 4) pa_nil)) (blkOk_by (N := ["_law_box", "_law_most", "_law_names", "_law_params", "_law_many", "_law_at"]) (sc := defScope s_program) (by decide +kernel))
          (fun _ _ _ _ _ => pg_name (i := 5) scProgram.nd rfl (Or.inl rfl)) (fun _ _ _ _ _ => pts_nil) (fun _ _ _ _ _ => pcall DR GR hr (pa_cons (pv 0) (pa_cons (pv 2) (pa_cons (pv 4) (pa_cons (pv 5) pa_nil)))))) pa_nil)) pa_nil)))))))), ?_⟩
    -- names
    refine ⟨_, rfl, by show 3 ≤ sizeLine; decide, fun p np => ?_⟩
    refine ⟨_, rfl, b, l, 3, rfl, bo.new np, by decide, by decide, fun H1 i i0 i1 bo1 x1 => ?_⟩
    obtain ⟨v, ev, hv⟩ := pick3 (x := .int 3) (y := .int 4) (z := .int 8) i0 i1
    refine ⟨p, _, i, v, rfl, rfl, SqL.of (x1.lst (bo.nb np) upd_same), ev, ?_⟩
    obtain ⟨c, rfl, c0, c1⟩ : ∃ c : Int, v = .int c ∧ 0 < c ∧ c ≤ 8 := by
      rcases hv with rfl | rfl | rfl
      · exact ⟨_, rfl, by decide, by decide⟩
      · exact ⟨_, rfl, by decide, by decide⟩
      · exact ⟨_, rfl, by decide, by decide⟩
    refine ⟨b, l, c, rfl, bo1, c0, by omega, fun H2 r r0 r1 bo2 x2 => ⟨_, _, rfl, rfl, ?_⟩⟩
    obtain ⟨nm, en, nm0, nm1⟩ : ∃ nm : Nat, 1 + r = (nm : Int) ∧ 0 < nm ∧ nm ≤ 8 := ⟨(1 + r).toNat, by omega, by omega, by omega⟩
    refine asg_int en ?_
    have X2 : Ext (bx b l) H H2 := (Ext.new np).trans (x1.trans x2)
    -- params
    refine ⟨_, rfl, _, rfl, _, rfl, _, _, rfl, rfl, b, l, (nm : Int) + 1, rfl, bo2, by omega, by omega, fun H3 pa pa0 pa1 bo3 x3 => ⟨by show 2 ≤ sizeLine; decide, fun p2 np2 => ?_⟩⟩
    refine ⟨_, rfl, b, l, 2, rfl, bo3.new np2, by decide, by decide, fun H4 i2 i20 i21 bo4 x4 => ?_⟩
    obtain ⟨v2, ev2, hv2⟩ := pick2 (x := .int nm) (y := .int pa) i20 i21
    refine ⟨p2, _, i2, v2, rfl, rfl, SqL.of (x4.lst (bo3.nb np2) upd_same), ev2, ?_⟩
    obtain ⟨par, rfl, hpar⟩ : ∃ par : Nat, v2 = .int par ∧ par ≤ nm := by
      rcases hv2 with rfl | rfl
      · exact ⟨nm, rfl, Nat.le_refl _⟩
      · exact ⟨pa.toNat, by rw [Int.toNat_of_nonneg pa0], by omega⟩
    have X4 : Ext (bx b l) H H4 := X2.trans (x3.trans ((Ext.new np2).trans x4))
    -- many
    refine ⟨_, rfl, _, rfl, _, rfl, _, _, rfl, by show 2 ≤ sizeLine; decide, fun p3 np3 => ?_⟩
    refine ⟨_, rfl, b, l, 2, rfl, bo4.new np3, by decide, by decide, fun H5 i3 i30 i31 bo5 x5 => ?_⟩
    obtain ⟨v3, ev3, hv3⟩ := pick2 (x := .int most) (y := .int (if (6 : Int) < (most : Int) then 6 else (most : Int))) i30 i31
    refine ⟨p3, _, i3, v3, rfl, rfl, SqL.of (x5.lst (bo4.nb np3) upd_same), ev3, ?_⟩
    obtain ⟨c3, rfl, c30, c31⟩ : ∃ c : Int, v3 = .int c ∧ 0 < c ∧ c ≤ most := by
      rcases hv3 with rfl | rfl
      · exact ⟨_, rfl, by omega, by omega⟩
      · refine ⟨_, rfl, ?_, ?_⟩
        · split <;> omega
        · split <;> omega
    refine ⟨b, l, c3, rfl, bo5, c30, by omega, fun H6 r3 r30 r31 bo6 x6 => ⟨_, _, rfl, rfl, ?_⟩⟩
    obtain ⟨many, em, my0, my1⟩ : ∃ many : Nat, 1 + r3 = (many : Int) ∧ 0 < many ∧ many ≤ most := ⟨(1 + r3).toNat, by omega, by omega, by omega⟩
    refine asg_int em ?_
    have X6 : Ext (bx b l) H H6 := X4.trans ((Ext.new np3).trans (x5.trans x6))
    -- the rows
    refine ⟨_, rfl, _, rfl, _, rfl, many, rfl, by omega, by omega, fun D nD => ?_⟩
    refine lc_range (lo := 0) (n := many) (fun i H => ∃ (as : List Addr) (rows : List Row), rows.length = i ∧ H D = some (.lst (as.map V.ref)) ∧ RowsAt H as rows ∧ (∀ row ∈ rows, RowOk nm many row) ∧ BoxAt H b l ∧ Ext (bx b l) H6 H)
      ⟨[], [], rfl, upd_same, ⟨rfl, fun i r row h _ => by simp at h⟩, fun row h => by simp at h, bo6.new nD, Ext.new nD⟩ ?_ ?_
    · rintro i H7 hi ⟨as, rows, hlen, hD, hrows, hoks, bo7, x7⟩
      rw [show ((0 : Int) + (i : Int)) = (i : Int) from Int.zero_add _]
      refine ⟨rfl, ?_⟩
      refine ⟨_, rfl, _, rfl, _, rfl, _, rfl, b, l, nm, many, i, rfl, bo7, nm0, nm1, my0, by omega, hi, fun H8 r8 row8 ok8 at8 bo8 x8 => ?_⟩
      have hD8 : H8 D = some (.lst (as.map V.ref)) := x8.lst (bo6.nb nD) hD
      have hl : as.length = i := by rw [hrows.len]; exact hlen
      have ne : ∀ {a : Addr} {xs : List V}, H8 a = some (.tup xs) → a ≠ D := fun h => ne_of h hD8 (by intro z; cases z)
      have x9 : Ext (bx b l) H6 (upd H8 D (.lst (as.map V.ref ++ [.ref r8]))) := (x7.trans x8).own nD
      have x9' : Ext (fun x => x = D) H8 (upd H8 D (.lst (as.map V.ref ++ [.ref r8]))) := Ext.put hD8 rfl (fun _ z => by cases z) (fun _ z => by cases z)
      refine ⟨_, hD8, by rw [List.length_map]; exact small_lt (k := 24) (by omega) (by decide), as ++ [r8], rows ++ [row8], by rw [List.length_append, hlen]; rfl, by rw [upd_same, List.map_append]; rfl, ((hrows.ext x8).snoc at8).ext x9', fun row hrow => ?_, bo8.ext x9' (fun z => bo6.nb nD (.inl z.symm)) (fun z => bo6.nb nD (.inr z.symm)), x9⟩
      rcases List.mem_append.mp hrow with h | h
      · exact hoks row h
      · rw [List.mem_singleton.mp h]
        exact ok8
    · rintro H7 ⟨as, rows, hlen, hD, hrows, hoks, bo7, x7⟩
      refine ⟨D, _, rfl, .inl ⟨SqL.of hD, fun rs nrs => ⟨by show 3 ≤ sizeLine; decide, fun a na => ?_⟩⟩⟩
      have x8 : Ext (bx b l) H7 (upd (upd H7 rs (.tup (as.map V.ref))) a (.tup [.int par, .int nm, .ref rs])) := (Ext.new nrs).trans (Ext.new na)
      refine q _ a ⟨par, nm, rows⟩ ⟨nm0, nm1, hpar, by show 0 < rows.length; omega, by show rows.length ≤ 24; omega, fun row h => by show RowOk nm rows.length row; rw [hlen]; exact hoks row h⟩ (by show rows.length ≤ most; omega)
        ⟨rs, as, upd_same, (Ext.new (m := no) na).tup _ _ upd_same, hrows.ext x8⟩ ((bo7.new nrs).new na) (X6.trans (x7.trans x8))
end
end Bw
namespace Bw
open PySem PySem.Spec PyProof.Rows L2 GxR
/-! ### alike -/
def Lv : Nat → PyData → Bool
  | 0, _ => false
  | _ + 1, .none => true
  | _ + 1, .bool _ => true
  | _ + 1, .int _ => true
  | _ + 1, .str _ => true
  | n + 1, .list ds => decide (ds.length ≤ 100000) && ds.all (Lv n)
  | n + 1, .tuple ds => decide (ds.length ≤ 100000) && ds.all (Lv n)
  | _ + 1, _ => false
theorem DpAll.len {K : PySem.W.Frag} {H : Hp} : ∀ {vs : List V} {ds : List PyData}, DpAll K H vs ds → vs.length = ds.length
  | _, _, .nil => rfl
  | _, _, .cons _ r => by rw [List.length_cons, List.length_cons, DpAll.len r]
theorem DpAll.get {K : PySem.W.Frag} {H : Hp} : ∀ {vs : List V} {ds : List PyData} {i : Nat} {d : PyData}, DpAll K H vs ds → ds[i]? = some d → ∃ v, vs[i]? = some v ∧ Dp K H v d
  | _, _, _, _, .nil, h => by simp at h
  | _, _, 0, _, .cons a r, h => by
    simp at h
    subst h
    exact ⟨_, rfl, a⟩
  | _, _, i + 1, d, .cons a r, h => by
    obtain ⟨v, h1, h2⟩ := DpAll.get (i := i) (d := d) r (by simpa using h)
    exact ⟨v, by simpa using h1, h2⟩
theorem tyL {K : PySem.W.Frag} {H : Hp} {a : Addr} {xs : List V} (h : SqL K H a xs) : TyX K H (.ref a) (.type "list") := by
  rcases h with (h | ⟨o, h⟩) | ⟨o, its, n, h1, h2, _⟩
  · exact .base (.lst h)
  · exact .base (.frz h)
  · exact .kList h1 h2
theorem tyT {K : PySem.W.Frag} {H : Hp} {a : Addr} {xs : List V} (h : SqT K H a xs) : TyX K H (.ref a) (.type "tuple") := by
  rcases h with (h | ⟨o, h⟩) | ⟨o, its, n, h1, h2, _⟩
  · exact .base (.tup h)
  · exact .fTuple h
  · exact .kTuple h1 h2
section
variable {base : Heap} {K : PySem.W.Frag} {mg : Str → Option Value} {P : Program} {w : World}
def spAlike (K : PySem.W.Frag) (n : Nat) : Sp := fun vs H Q _ => ∃ (x y : V) (d : PyData), vs = [x, y] ∧ Dp K H x d ∧ Dp K H y d ∧ Lv n d = true ∧ Q (.bl true) H
theorem scAlike : FnScope ["_law_found", "_law_due", "_law_k"] ["_law_found", "_law_due"] (defScope s_alike) := ⟨rfl, rfl, rfl, by decide +kernel, rfl, by decide +kernel, by decide +kernel⟩
theorem alike_step {f : Addr} {fd : FuncData} {k n : Nat} (D : Df K mg "_law_alike" s_alike ["_law_found", "_law_due"] f fd) (B : Bt mg) (G : FnOk P w K mg base CX0 k f fd ["_law_found", "_law_due"] (spAlike K n)) :
    FnOk P w K mg base CX0 (k + 1) f fd ["_law_found", "_law_due"] (spAlike K (n + 1)) := by
  refine D.F.ok scAlike (fun vs H Q E h => ?_) (fun cdv A outer s H vs Q E hr h => ?_)
  · obtain ⟨x, y, d, rfl, _⟩ := h
    rfl
  · obtain ⟨x, y, d, rfl, hx, hy, hL, q⟩ := h
    refine ⟨_, pss_cons (ps_if (pt_cmpR op_isN (pv 1) pe_non (nomark _)) (pss_one (ps_ret (pe_cmpR op_isN (pv 0) pe_non (nomark _)))) pss_nil)
      (pss_cons (ps_if (pt_val (pe_callB call_isi (by rfl) B.isinstance (by decide +kernel) (pa_cons (pv 1) (pa_cons (pe_bltn (v := .ty "bool") (by rfl) B.bool (by decide +kernel) rfl) pa_nil))))
        (pss_one (ps_ret (pe_and (pe_callB call_isi (by rfl) B.isinstance (by decide +kernel) (pa_cons (pv 0) (pa_cons (pe_bltn (v := .ty "bool") (by rfl) B.bool (by decide +kernel) rfl) pa_nil))) (pe_one (pe_cmpR op_eq (pv 0) (pv 1) (nomark _)))))) pss_nil)
      (pss_cons (ps_if (pt_val (pe_callB call_isi (by rfl) B.isinstance (by decide +kernel) (pa_cons (pv 1) (pa_cons (pe_bltn (v := .ty "int") (by rfl) B.int (by decide +kernel) rfl) pa_nil))))
        (pss_one (ps_ret (pe_and (pe_callB call_isi (by rfl) B.isinstance (by decide +kernel) (pa_cons (pv 0) (pa_cons (pe_bltn (v := .ty "int") (by rfl) B.int (by decide +kernel) rfl) pa_nil)))
          (pe_and (pe_not (pe_callB call_isi (by rfl) B.isinstance (by decide +kernel) (pa_cons (pv 0) (pa_cons (pe_bltn (v := .ty "bool") (by rfl) B.bool (by decide +kernel) rfl) pa_nil)))) (pe_one (pe_cmpR op_eq (pv 0) (pv 1) (nomark _))))))) pss_nil)
      (pss_cons (ps_if (pt_val (pe_callB call_isi (by rfl) B.isinstance (by decide +kernel) (pa_cons (pv 1) (pa_cons (pe_bltn (v := .ty "str") (by rfl) B.str (by decide +kernel) rfl) pa_nil))))
        (pss_one (ps_ret (pe_and (pe_callB call_isi (by rfl) B.isinstance (by decide +kernel) (pa_cons (pv 0) (pa_cons (pe_bltn (v := .ty "str") (by rfl) B.str (by decide +kernel) rfl) pa_nil))) (pe_one (pe_cmpR op_eq (pv 0) (pv 1) (nomark _)))))) pss_nil)
      (pss_cons (ps_if (PW.pt (pw_or (pt_cmpR op_ne (pe_callB call_isi (by rfl) B.isinstance (by decide +kernel) (pa_cons (pv 1) (pa_cons (pe_bltn (v := .ty "tuple") (by rfl) B.tuple (by decide +kernel) rfl) pa_nil))) (pe_callB call_isi (by rfl) B.isinstance (by decide +kernel) (pa_cons (pv 0) (pa_cons (pe_bltn (v := .ty "tuple") (by rfl) B.tuple (by decide +kernel) rfl) pa_nil))) (nomark _))
          (pw_or1 (pt_cmpR op_ne (pe_callB call_isi (by rfl) B.isinstance (by decide +kernel) (pa_cons (pv 1) (pa_cons (pe_bltn (v := .ty "list") (by rfl) B.list (by decide +kernel) rfl) pa_nil))) (pe_callB call_isi (by rfl) B.isinstance (by decide +kernel) (pa_cons (pv 0) (pa_cons (pe_bltn (v := .ty "list") (by rfl) B.list (by decide +kernel) rfl) pa_nil))) (nomark _)))))
        (pss_one (ps_ret pe_bl)) pss_nil)
      (pss_cons (ps_if (pt_cmpR op_ne (pe_callB call_len_seq (by rfl) B.len PySem.boot_len (pa_cons (pv 0) pa_nil)) (pe_callB call_len_seq (by rfl) B.len PySem.boot_len (pa_cons (pv 1) pa_nil)) (nomark _)) (pss_one (ps_ret pe_bl)) pss_nil)
      (pss_cons (ps_for PassesOwn.never rfl (pi_range1 (by rfl) B.range (pa_cons (pe_callB call_len_seq (by rfl) B.len PySem.boot_len (pa_cons (pv 1) pa_nil)) pa_nil)) (pg_name (i := 2) scAlike.nd rfl (.inl rfl))
        (pss_one (ps_if (pt_not (pt_val (pcall D G hr (pa_cons (pe_ix ix_seq (pv 0) (pv 2) (fun _ _ => rfl)) (pa_cons (pe_ix ix_seq (pv 1) (pv 2) (fun _ _ => rfl)) pa_nil))))) (pss_one (ps_ret pe_bl)) pss_nil)))
      (pss_one (ps_ret pe_bl)))))))), ?_⟩
    have eqSelf : ∀ z : V, decide (z = z) = true := fun z => decide_eq_true rfl
    cases hy with
    | non =>
      cases hx
      refine ⟨_, rfl, rfl, _, rfl, iteT ⟨_, rfl, rfl, ?_⟩⟩
      exact q
    | bl c =>
      cases hx
      refine ⟨_, rfl, rfl, _, rfl, iteF ?_⟩
      refine ⟨_, rfl, _, _, _, _, true, rfl, .ty "bool", .base (.bl c), kit_ty (by decide +kernel), _, rfl, iteT ?_⟩
      refine ⟨_, rfl, _, _, _, _, true, rfl, .ty "bool", .base (.bl c), kit_ty (by decide +kernel), _, rfl, iteT ⟨_, rfl, _, rfl, rfl, ?_⟩⟩
      rw [eqSelf]
      exact q
    | int i =>
      cases hx
      refine ⟨_, rfl, rfl, _, rfl, iteF ?_⟩
      refine ⟨_, rfl, _, _, _, _, false, rfl, .ty "bool", .base (.int i), kit_ty (by decide +kernel), _, rfl, iteF ?_⟩
      refine ⟨_, rfl, _, _, _, _, true, rfl, .ty "int", .base (.int i), kit_ty (by decide +kernel), _, rfl, iteT ?_⟩
      refine ⟨_, rfl, _, _, _, _, true, rfl, .ty "int", .base (.int i), kit_ty (by decide +kernel), _, rfl, iteT ?_⟩
      refine ⟨_, rfl, _, _, _, _, false, rfl, .ty "bool", .base (.int i), kit_ty (by decide +kernel), _, rfl, _, rfl, iteT ⟨_, rfl, _, rfl, rfl, ?_⟩⟩
      rw [eqSelf]
      exact q
    | str i =>
      cases hx
      refine ⟨_, rfl, rfl, _, rfl, iteF ?_⟩
      refine ⟨_, rfl, _, _, _, _, false, rfl, .ty "bool", .base (.str i), kit_ty (by decide +kernel), _, rfl, iteF ?_⟩
      refine ⟨_, rfl, _, _, _, _, false, rfl, .ty "int", .base (.str i), kit_ty (by decide +kernel), _, rfl, iteF ?_⟩
      refine ⟨_, rfl, _, _, _, _, true, rfl, .ty "str", .base (.str i), kit_ty (by decide +kernel), _, rfl, iteT ?_⟩
      refine ⟨_, rfl, _, _, _, _, true, rfl, .ty "str", .base (.str i), kit_ty (by decide +kernel), _, rfl, iteT ⟨_, rfl, _, rfl, rfl, ?_⟩⟩
      rw [eqSelf]
      exact q
    | lst hs hd =>
      rename_i a xs ds
      cases hx with
      | lst hs' hd' =>
      rename_i a' xs'
      have hL' := hL
      simp only [Lv, Bool.and_eq_true, decide_eq_true_eq, List.all_eq_true] at hL'
      have l1 := (DpAll.len hd)
      have l2 := (DpAll.len hd')
      refine ⟨_, rfl, rfl, _, rfl, iteF ?_⟩
      refine ⟨_, rfl, _, _, _, _, false, rfl, .ty "bool", tyL hs, kit_ty (by decide +kernel), _, rfl, iteF ?_⟩
      refine ⟨_, rfl, _, _, _, _, false, rfl, .ty "int", tyL hs, kit_ty (by decide +kernel), _, rfl, iteF ?_⟩
      refine ⟨_, rfl, _, _, _, _, false, rfl, .ty "str", tyL hs, kit_ty (by decide +kernel), _, rfl, iteF ?_⟩
      refine ⟨_, rfl, _, _, _, _, false, rfl, .ty "tuple", tyL hs, kit_ty (by decide +kernel), _, rfl, _, _, _, _, false, rfl, .ty "tuple", tyL hs', kit_ty (by decide +kernel), rfl, _, rfl, iteF ?_⟩
      refine ⟨_, rfl, _, _, _, _, true, rfl, .ty "list", tyL hs, kit_ty (by decide +kernel), _, rfl, _, _, _, _, true, rfl, .ty "list", tyL hs', kit_ty (by decide +kernel), rfl, _, rfl, iteF ?_⟩
      refine ⟨_, rfl, a', _, rfl, .inl hs', _, rfl, a, _, rfl, .inl hs, rfl, _, rfl, iteNS (by rw [l1, l2]) ?_⟩
      refine ⟨_, rfl, a, _, rfl, .inl hs, (xs.length : Int), rfl, by omega, by omega, for_range (lo := 0) (n := xs.length) (fun i σ H2 => ∃ v, σ = [some (.ref a'), some (.ref a), v] ∧ H2 = H) ⟨none, rfl, rfl⟩ ?_ ?_⟩
      · rintro i σ H2 hi ⟨v, rfl, rfl⟩
        rw [show ((0 : Int) + (i : Int)) = (i : Int) from Int.zero_add _]
        have hi2 : i < ds.length := by omega
        obtain ⟨v1, g1, p1⟩ := DpAll.get hd (List.getElem?_eq_getElem hi2)
        obtain ⟨v2, g2, p2⟩ := DpAll.get hd' (List.getElem?_eq_getElem hi2)
        refine ⟨_, rfl, _, rfl, .inl ⟨a', xs', i, v2, rfl, rfl, hs', atI_nat g2, _, rfl, _, rfl, .inl ⟨a, xs, i, v1, rfl, rfl, hs, atI_nat g1, v2, v1, ds[i], rfl, p2, p1, hL'.2 _ (List.getElem_mem hi2), _, rfl, ?_⟩⟩⟩
        exact iteF ⟨_, rfl, rfl⟩
      · rintro σ H2 ⟨v, rfl, rfl⟩
        exact q
    | tup hs hd =>
      rename_i a xs ds
      cases hx with
      | tup hs' hd' =>
      rename_i a' xs'
      have hL' := hL
      simp only [Lv, Bool.and_eq_true, decide_eq_true_eq, List.all_eq_true] at hL'
      have l1 := (DpAll.len hd)
      have l2 := (DpAll.len hd')
      refine ⟨_, rfl, rfl, _, rfl, iteF ?_⟩
      refine ⟨_, rfl, _, _, _, _, false, rfl, .ty "bool", tyT hs, kit_ty (by decide +kernel), _, rfl, iteF ?_⟩
      refine ⟨_, rfl, _, _, _, _, false, rfl, .ty "int", tyT hs, kit_ty (by decide +kernel), _, rfl, iteF ?_⟩
      refine ⟨_, rfl, _, _, _, _, false, rfl, .ty "str", tyT hs, kit_ty (by decide +kernel), _, rfl, iteF ?_⟩
      refine ⟨_, rfl, _, _, _, _, true, rfl, .ty "tuple", tyT hs, kit_ty (by decide +kernel), _, rfl, _, _, _, _, true, rfl, .ty "tuple", tyT hs', kit_ty (by decide +kernel), rfl, _, rfl, iteF ?_⟩
      refine ⟨_, rfl, _, _, _, _, false, rfl, .ty "list", tyT hs, kit_ty (by decide +kernel), _, rfl, _, _, _, _, false, rfl, .ty "list", tyT hs', kit_ty (by decide +kernel), rfl, _, rfl, iteF ?_⟩
      refine ⟨_, rfl, a', _, rfl, .inr hs', _, rfl, a, _, rfl, .inr hs, rfl, _, rfl, iteNS (by rw [l1, l2]) ?_⟩
      refine ⟨_, rfl, a, _, rfl, .inr hs, (xs.length : Int), rfl, by omega, by omega, for_range (lo := 0) (n := xs.length) (fun i σ H2 => ∃ v, σ = [some (.ref a'), some (.ref a), v] ∧ H2 = H) ⟨none, rfl, rfl⟩ ?_ ?_⟩
      · rintro i σ H2 hi ⟨v, rfl, rfl⟩
        rw [show ((0 : Int) + (i : Int)) = (i : Int) from Int.zero_add _]
        have hi2 : i < ds.length := by omega
        obtain ⟨v1, g1, p1⟩ := DpAll.get hd (List.getElem?_eq_getElem hi2)
        obtain ⟨v2, g2, p2⟩ := DpAll.get hd' (List.getElem?_eq_getElem hi2)
        refine ⟨_, rfl, _, rfl, .inr <| .inl ⟨a', xs', i, v2, rfl, rfl, hs', atI_nat g2, _, rfl, _, rfl, .inr <| .inl ⟨a, xs, i, v1, rfl, rfl, hs, atI_nat g1, v2, v1, ds[i], rfl, p2, p1, hL'.2 _ (List.getElem_mem hi2), _, rfl, ?_⟩⟩⟩
        exact iteF ⟨_, rfl, rfl⟩
      · rintro σ H2 ⟨v, rfl, rfl⟩
        exact q
theorem ok_alike {f : Addr} {fd : FuncData} (D : Df K mg "_law_alike" s_alike ["_law_found", "_law_due"] f fd) (B : Bt mg) : ∀ n : Nat, FnOk P w K mg base CX0 n f fd ["_law_found", "_law_due"] (spAlike K n)
  | 0 => ⟨fun vs H Q E h => by obtain ⟨_, _, d, _, _, _, hL, _⟩ := h; simp [Lv] at hL, fun A outer s H args us vs Q E hr he hb hv h => by obtain ⟨_, _, d, _, _, _, hL, _⟩ := h; simp [Lv] at hL⟩
  | n + 1 => alike_step D B (ok_alike D B n)
end
end Bw
set_option maxHeartbeats 3000000
namespace Bw
open PySem PySem.Spec PyProof.Rows L2 GxR
/-! ### d.update(e), both of them dicts that are tracked -/
def rUpdate : V → List V → Hp → VK → Prop := fun x vs H Q => ∃ (d o : Addr) (kvs more : List (Key × V)), x = .ref d ∧ vs = [.ref o] ∧ H d = some (.dK kvs) ∧ H o = some (.dK more) ∧ d ≠ o ∧ kvs.length + more.length ≤ sizeLine ∧ Q .non (upd H d (.dK (mergeK kvs more)))
theorem mt_update {X : Cx} : MtM X "dict.update" rUpdate := by
  intro pins s σ H x args v us Q I rx rv h
  obtain ⟨d, o, kvs, more, rfl, rfl, hd, ho, ne, few, q⟩ := h
  obtain rfl : v = .ref d := rx
  obtain ⟨u, rfl, ru⟩ := rv.one
  obtain rfl : u = .ref o := ru
  obtain ⟨_, low1, ws, kw, dw⟩ := dk_of I.hok hd
  obtain ⟨_, low2, ms, km, dm⟩ := dk_of I.hok ho
  have l1 := kw.length
  have l2 := km.length
  refine call_meetsIn PySem.F.slot_dict_update dw.typeIs PySem.F.entry_dict_update (PySem.F.args_dict_update_2 _ _) (meets_dict_update (mixKind X.prog X.w) d o ne low2) ⟨ws, ms, dw, dm, by omega, fun h' new _ but => ?_⟩
  have few' : (mergeK kvs more).length ≤ sizeLine := Nat.le_trans (length_mergeK more kvs) few
  refine ⟨.non, upd H d (.dK (mergeK kvs more)), d_write (t' := s.toks) I (by rw [hd]; trivial) but ?_ (dk_new few' low1 (KV.merge km kw) new), rfl, q⟩
  exact new.elim fun ob z => z.elim fun _ z => z.elim fun _ z => ⟨ob, z.1⟩
/-! ### xs[:c] = ys -/
end Bw
namespace Bw
open PySem PySem.Spec PyProof.Rows L2 GxR
/-! ### what a program does -/
def at0 (c : List Int) (n : Nat) : Int := (c[n]?).getD 0
def atEnd (rows : List Row) (i : Nat) : Bool := match rows[i]? with
  | none => true
  | some .fin => true
  | _ => false
/-! ### numbers of names in a dict -/
end Bw
namespace Bw
open PySem PySem.Spec PyProof.Rows L2 GxR
theorem cutFrom (xs : List V) (k : Nat) : cutV xs (some (k : Int)) none = xs.drop k := by
  unfold cutV
  rw [HT.sIx_nat, HT.sIx_none]
  by_cases h : k ≤ xs.length
  · rw [Nat.min_eq_left h]
    exact List.take_of_length_le (by rw [List.length_drop]; exact Nat.le_refl _)
  · rw [Nat.min_eq_right (by omega), List.drop_of_length_le (Nat.le_refl _), List.drop_of_length_le (by omega), List.take_nil]
theorem notAll {xs : List V} {k : Nat} (hk : 0 < k) (hx : 0 < xs.length) : ¬ (HT.sIx xs.length 0 (some (k : Int)) = 0 ∧ HT.sIx xs.length xs.length none = xs.length) := by
  rw [HT.sIx_nat]
  omega
def wordOf : Row → Str
  | .put .. => "put" | .copy .. => "copy" | .add .. => "add" | .take .. => "take" | .less .. => "less" | .call .. => "call" | .say .. => "say" | .iff .. => "if" | .go .. => "go" | .fin => "end"
theorem rowV_word (row : Row) : ∃ r, rowV row = .str (wordOf row) :: r := by
  cases row <;> exact ⟨_, rfl⟩
end Bw
namespace Bw
open PySem PySem.Spec PyProof.Rows L2 GxR
/-! ### tuples of numbers, words and tuples, as they lie in the heap -/
mutual
inductive Tp (H : Hp) : V → PyData → Prop where
  | int (i : Int) : Tp H (.int i) (.int i)
  | str (s : Str) : Tp H (.str s) (.str s)
  | tup {a : Addr} {vs : List V} {ds : List PyData} (h : H a = some (.tup vs)) (all : TpAll H vs ds) : Tp H (.ref a) (.tuple ds)
inductive TpAll (H : Hp) : List V → List PyData → Prop where
  | nil : TpAll H [] []
  | cons {v : V} {d : PyData} {vs : List V} {ds : List PyData} (h : Tp H v d) (t : TpAll H vs ds) : TpAll H (v :: vs) (d :: ds)
end
abbrev nD (l : List Nat) : List PyData := l.map fun (n : Nat) => PyData.int (n : Int)
/-! ### frames and choices -/
structure Fr where
  boxes : Nat
  slots : Nat
  eaten : List Nat
inductive Mv where
  | copy (a b : Nat) | swap (a b : Nat) | store (s b : Nat) | load (b s : Nat)
structure Grp where
  ahead : List Mv
  boxes : List Nat
  behind : List Mv
/-- a place: a box, or a slot -/
structure Pl where
  box : Bool
  n : Nat
deriving DecidableEq
structure Ch where
  places : List Pl
  groups : List Grp
end Bw
namespace Bw
open PySem PySem.Spec PyProof.Rows L2 GxR
/-! ### things as data: tuples, and lists that are left alone (they are not in M) -/
mutual
inductive Td (M : Addr → Prop) (H : Hp) : V → PyData → Prop where
  | non : Td M H .non .none
  | bl (b : Bool) : Td M H (.bl b) (.bool b)
  | int (i : Int) : Td M H (.int i) (.int i)
  | str (s : Str) : Td M H (.str s) (.str s)
  | tup {a : Addr} {vs : List V} {ds : List PyData} (h : H a = some (.tup vs)) (all : TdAll M H vs ds) : Td M H (.ref a) (.tuple ds)
  | lst {a : Addr} {vs : List V} {ds : List PyData} (n : ¬ M a) (h : H a = some (.lst vs)) (all : TdAll M H vs ds) : Td M H (.ref a) (.list ds)
inductive TdAll (M : Addr → Prop) (H : Hp) : List V → List PyData → Prop where
  | nil : TdAll M H [] []
  | cons {v : V} {d : PyData} {vs : List V} {ds : List PyData} (h : Td M H v d) (t : TdAll M H vs ds) : TdAll M H (v :: vs) (d :: ds)
end
mutual
theorem Td.ext {m M : Addr → Prop} {H H' : Hp} (x : Ext m H H') (s : ∀ a, m a → M a) : ∀ {v : V} {d : PyData}, Td M H v d → Td M H' v d
  | _, _, .non => .non
  | _, _, .bl b => .bl b
  | _, _, .int i => .int i
  | _, _, .str z => .str z
  | _, _, .tup h all => .tup (x.tup _ _ h) (TdAll.ext x s all)
  | _, _, .lst n h all => .lst n (x.lst (fun z => n (s _ z)) h) (TdAll.ext x s all)
theorem TdAll.ext {m M : Addr → Prop} {H H' : Hp} (x : Ext m H H') (s : ∀ a, m a → M a) : ∀ {vs : List V} {ds : List PyData}, TdAll M H vs ds → TdAll M H' vs ds
  | _, _, .nil => .nil
  | _, _, .cons h t => .cons (Td.ext x s h) (TdAll.ext x s t)
end
mutual
theorem Td.mono {M M' : Addr → Prop} {H : Hp} (s : ∀ a, M' a → M a) : ∀ {v : V} {d : PyData}, Td M H v d → Td M' H v d
  | _, _, .non => .non
  | _, _, .bl b => .bl b
  | _, _, .int i => .int i
  | _, _, .str z => .str z
  | _, _, .tup h all => .tup h (TdAll.mono s all)
  | _, _, .lst n h all => .lst (fun z => n (s _ z)) h (TdAll.mono s all)
theorem TdAll.mono {M M' : Addr → Prop} {H : Hp} (s : ∀ a, M' a → M a) : ∀ {vs : List V} {ds : List PyData}, TdAll M H vs ds → TdAll M' H vs ds
  | _, _, .nil => .nil
  | _, _, .cons h t => .cons (Td.mono s h) (TdAll.mono s t)
end
/-- what was new at H is in no thing that stood at H -/
abbrev plus (M : Addr → Prop) (a : Addr) : Addr → Prop := fun x => M x ∨ x = a
mutual
theorem Td.grow {M : Addr → Prop} {H : Hp} {a : Addr} (n : H a = none) : ∀ {v : V} {d : PyData}, Td M H v d → Td (plus M a) H v d
  | _, _, .non => .non
  | _, _, .bl b => .bl b
  | _, _, .int i => .int i
  | _, _, .str z => .str z
  | _, _, .tup h all => .tup h (TdAll.grow n all)
  | _, _, .lst k h all => .lst (fun z => z.elim k fun e => by rw [e, n] at h; cases h) h (TdAll.grow n all)
theorem TdAll.grow {M : Addr → Prop} {H : Hp} {a : Addr} (n : H a = none) : ∀ {vs : List V} {ds : List PyData}, TdAll M H vs ds → TdAll (plus M a) H vs ds
  | _, _, .nil => .nil
  | _, _, .cons h t => .cons (Td.grow n h) (TdAll.grow n t)
end
mutual
theorem Td.dp {K : PySem.W.Frag} {M : Addr → Prop} {H : Hp} : ∀ {v : V} {d : PyData}, Td M H v d → Dp K H v d
  | _, _, .non => .non
  | _, _, .bl b => .bl b
  | _, _, .int i => .int i
  | _, _, .str z => .str z
  | _, _, .tup h all => .tup (SqT.of h) (TdAll.dp all)
  | _, _, .lst _ h all => .lst (SqL.of h) (TdAll.dp all)
theorem TdAll.dp {K : PySem.W.Frag} {M : Addr → Prop} {H : Hp} : ∀ {vs : List V} {ds : List PyData}, TdAll M H vs ds → DpAll K H vs ds
  | _, _, .nil => .nil
  | _, _, .cons h t => .cons (Td.dp h) (TdAll.dp t)
end
mutual
theorem Tp.td {M : Addr → Prop} {H : Hp} : ∀ {v : V} {d : PyData}, Tp H v d → Td M H v d
  | _, _, .int i => .int i
  | _, _, .str z => .str z
  | _, _, .tup h all => .tup h (TpAll.td all)
theorem TpAll.td {M : Addr → Prop} {H : Hp} : ∀ {vs : List V} {ds : List PyData}, TpAll H vs ds → TdAll M H vs ds
  | _, _, .nil => .nil
  | _, _, .cons h t => .cons (Tp.td h) (TpAll.td t)
end
section
variable {M : Addr → Prop} {H : Hp}
theorem Td.intE {v : V} {i : Int} (h : Td M H v (.int i)) : v = .int i := by cases h; rfl
theorem Td.strE {v : V} {s : Str} (h : Td M H v (.str s)) : v = .str s := by cases h; rfl
theorem Td.blE {v : V} {b : Bool} (h : Td M H v (.bool b)) : v = .bl b := by cases h; rfl
theorem Td.nonE {v : V} (h : Td M H v .none) : v = .non := by cases h; rfl
theorem Td.tupE {v : V} {ds : List PyData} (h : Td M H v (.tuple ds)) : ∃ a vs, v = .ref a ∧ H a = some (.tup vs) ∧ TdAll M H vs ds := by
  cases h with
  | tup h all => exact ⟨_, _, rfl, h, all⟩
theorem Td.lstE {v : V} {ds : List PyData} (h : Td M H v (.list ds)) : ∃ a vs, v = .ref a ∧ ¬ M a ∧ H a = some (.lst vs) ∧ TdAll M H vs ds := by
  cases h with
  | lst n h all => exact ⟨_, _, rfl, n, h, all⟩
theorem TdAll.len : ∀ {vs : List V} {ds : List PyData}, TdAll M H vs ds → vs.length = ds.length
  | _, _, .nil => rfl
  | _, _, .cons _ t => congrArg Nat.succ (TdAll.len t)
theorem TdAll.app : ∀ {vs us : List V} {ds es : List PyData}, TdAll M H vs ds → TdAll M H us es → TdAll M H (vs ++ us) (ds ++ es)
  | _, _, _, _, .nil, u => u
  | _, _, _, _, .cons h t, u => .cons h (TdAll.app t u)
theorem TdAll.take : ∀ {vs : List V} {ds : List PyData} (n : Nat), TdAll M H vs ds → TdAll M H (vs.take n) (ds.take n)
  | _, _, 0, _ => .nil
  | _, _, _ + 1, .nil => .nil
  | _, _, n + 1, .cons h t => .cons h (TdAll.take n t)
theorem TdAll.drop : ∀ {vs : List V} {ds : List PyData} (n : Nat), TdAll M H vs ds → TdAll M H (vs.drop n) (ds.drop n)
  | _, _, 0, t => t
  | _, _, _ + 1, .nil => .nil
  | _, _, n + 1, .cons _ t => TdAll.drop n t
theorem TdAll.get : ∀ {vs : List V} {ds : List PyData} {i : Nat} {d : PyData}, TdAll M H vs ds → ds[i]? = some d → ∃ v, vs[i]? = some v ∧ Td M H v d
  | _, _, _, _, .nil, h => by simp at h
  | _, _, 0, _, .cons a _, h => ⟨_, rfl, by cases h; exact a⟩
  | _, _, i + 1, d, .cons _ t, h => TdAll.get (i := i) t h
theorem TdAll.nil_iff {vs : List V} {ds : List PyData} (h : TdAll M H vs ds) : vs = [] ↔ ds = [] := by
  cases h with
  | nil => simp
  | cons _ _ => simp
end
/-! ### what a stretch of the program may count on -/
structure Cw where
  Ts : List Addr
  mx : Addr → Prop
  Bx : Hp → Prop
  st : ∀ (m : Addr → Prop) (H H' : Hp), (∀ a, m a → ¬ mx a) → Ext m H H' → Bx H → Bx H'
def cw0 (Ts : List Addr) : Cw := ⟨Ts, no, fun _ => True, fun _ _ _ _ _ _ => trivial⟩
/-- what a slot holds: whatever; a thing that is left alone; a list (or another object, made of values by k) that may be changed -/
structure Mk where
  f : List V → HO
  nt : ∀ vs ps, f vs ≠ .tbl ps
abbrev mkL : Mk := ⟨.lst, fun _ _ z => by cases z⟩
inductive Sl where
  | any
  | d (x : PyData)
  | l (a : Addr) (xs : List PyData) (k : Mk := mkL)
  | r (a : Addr)
def SlOk (c : Cw) (M : Addr → Prop) (H : Hp) : Sl → Option V → Prop
  | .any, _ => True
  | .d x, o => ∃ v, o = some v ∧ Td M H v x
  | .l a xs k, o => o = some (.ref a) ∧ M a ∧ ¬ c.mx a ∧ ∃ vs, H a = some (k.f vs) ∧ TdAll M H vs xs
  | .r a, o => o = some (.ref a)
inductive Reps (c : Cw) (M : Addr → Prop) (H : Hp) : List (Option V) → List Sl → Prop where
  | nil : Reps c M H [] []
  | cons {o : Option V} {s : Sl} {σ : List (Option V)} {Γ : List Sl} (h : SlOk c M H s o) (t : Reps c M H σ Γ) : Reps c M H (o :: σ) (s :: Γ)
structure Rp (c : Cw) (M : Addr → Prop) (H : Hp) (σ : L2.St) (Γ : List Sl) : Prop where
  sl : Reps c M H σ Γ
  tb : ∀ T ∈ c.Ts, TabG H T
  bx : c.Bx H
  sub : ∀ a, c.mx a → M a
  al : ∀ a, M a → H a ≠ none
theorem SlOk.ext {c : Cw} {M m : Addr → Prop} {H H' : Hp} {s : Sl} {o : Option V} (h : SlOk c M H s o) (x : Ext m H H') (sub : ∀ a, m a → M a) (out : ∀ a xs k, s = .l a xs k → ¬ m a) : SlOk c M H' s o := by
  cases s with
  | any => trivial
  | d y =>
    obtain ⟨v, e, t⟩ := h
    exact ⟨v, e, t.ext x sub⟩
  | l a xs k =>
    obtain ⟨e, ma, na, vs, hv, all⟩ := h
    exact ⟨e, ma, na, vs, x.oth a _ (out a xs k rfl) (k.nt vs) hv, all.ext x sub⟩
  | r a => exact h
theorem Reps.extW {c : Cw} {M m : Addr → Prop} {H H' : Hp} (x : Ext m H H') (sub : ∀ a, m a → M a) : ∀ {σ : List (Option V)} {Γ : List Sl}, Reps c M H σ Γ → (∀ a xs k, Sl.l a xs k ∈ Γ → ¬ m a) → Reps c M H' σ Γ
  | _, _, .nil, _ => .nil
  | _, _, .cons h t, out => .cons (h.ext x sub fun a xs k e => out a xs k (by rw [e]; exact List.mem_cons_self ..)) (Reps.extW x sub t fun a xs k e => out a xs k (List.mem_cons_of_mem _ e))
theorem Reps.out {c : Cw} {M : Addr → Prop} {H : Hp} : ∀ {σ : List (Option V)} {Γ : List Sl}, Reps c M H σ Γ → ∀ a xs k, Sl.l a xs k ∈ Γ → ¬ c.mx a ∧ M a
  | _, _, .nil, _, _, _, h => by cases h
  | _, _, .cons h t, a, xs, k, e => by
    rcases List.mem_cons.mp e with rfl | e
    · exact ⟨h.2.2.1, h.2.1⟩
    · exact Reps.out t a xs k e
/-- behind an expression -/
theorem Rp.ext {c : Cw} {M : Addr → Prop} {H H' : Hp} {σ : L2.St} {Γ : List Sl} (h : Rp c M H σ Γ) (x : Ext c.mx H H') (b : c.Bx H') : Rp c M H' σ Γ :=
  ⟨h.sl.extW x h.sub fun a xs k e => (h.sl.out a xs k e).1, fun T t => x.tab T (h.tb T t), b, h.sub, fun a ma z => h.al a ma (x.dom a z)⟩
theorem Rp.ext0 {c : Cw} {M : Addr → Prop} {H H' : Hp} {σ : L2.St} {Γ : List Sl} (h : Rp c M H σ Γ) (x : Ext no H H') : Rp c M H' σ Γ := h.ext x.of0 (c.st no _ _ (fun _ z => z.elim) x h.bx)
theorem Reps.get {c : Cw} {M : Addr → Prop} {H : Hp} : ∀ {σ : List (Option V)} {Γ : List Sl} {i : Nat} {s : Sl}, Reps c M H σ Γ → Γ[i]? = some s → ∃ o, σ[i]? = some o ∧ SlOk c M H s o
  | _, _, _, _, .nil, h => by simp at h
  | _, _, 0, _, .cons a _, h => ⟨_, rfl, by cases h; exact a⟩
  | _, _, i + 1, _, .cons _ t, h => Reps.get (i := i) t h
theorem Reps.set {c : Cw} {M : Addr → Prop} {H : Hp} : ∀ {σ : List (Option V)} {Γ : List Sl} (i : Nat) {o : Option V} {s : Sl}, Reps c M H σ Γ → SlOk c M H s o → Reps c M H (σ.set i o) (Γ.set i s)
  | _, _, _, _, _, .nil, _ => .nil
  | _, _, 0, _, _, .cons _ t, h => .cons h t
  | _, _, i + 1, _, _, .cons a t, h => .cons a (Reps.set i t h)
theorem Reps.len {c : Cw} {M : Addr → Prop} {H : Hp} : ∀ {σ : List (Option V)} {Γ : List Sl}, Reps c M H σ Γ → σ.length = Γ.length
  | _, _, .nil => rfl
  | _, _, .cons _ t => congrArg Nat.succ (Reps.len t)
theorem Rp.set {c : Cw} {M : Addr → Prop} {H : Hp} {σ : L2.St} {Γ : List Sl} (i : Nat) {o : Option V} {s : Sl} (h : Rp c M H σ Γ) (k : SlOk c M H s o) : Rp c M H (σ.set i o) (Γ.set i s) := ⟨h.sl.set i k, h.tb, h.bx, h.sub, h.al⟩
theorem Reps.grow {c : Cw} {M : Addr → Prop} {H : Hp} {a : Addr} (n : H a = none) : ∀ {σ : List (Option V)} {Γ : List Sl}, Reps c M H σ Γ → Reps c (plus M a) H σ Γ
  | _, _, .nil => .nil
  | _, _, .cons (s := s) h t => by
    refine .cons ?_ (Reps.grow n t)
    cases s with
    | any => trivial
    | d y =>
      obtain ⟨v, e, t⟩ := h
      exact ⟨v, e, t.grow n⟩
    | l b xs =>
      obtain ⟨e, mb, nb, vs, hv, all⟩ := h
      exact ⟨e, .inl mb, nb, vs, hv, all.grow n⟩
    | r b => exact h
/-- behind a change of things that no slot of Γ holds -/
theorem Rp.extM {c : Cw} {M m : Addr → Prop} {H H' : Hp} {σ : L2.St} {Γ : List Sl} (h : Rp c M H σ Γ) (x : Ext m H H') (sub : ∀ a, m a → M a) (out : ∀ a xs k, Sl.l a xs k ∈ Γ → ¬ m a) (off : ∀ a, m a → ¬ c.mx a) : Rp c M H' σ Γ :=
  ⟨h.sl.extW x sub out, fun T t => x.tab T (h.tb T t), c.st m _ _ off x h.bx, h.sub, fun a ma z => h.al a ma (x.dom a z)⟩
/-- a new object is one that may be changed from here on -/
theorem Rp.plus {c : Cw} {M : Addr → Prop} {H : Hp} {σ : L2.St} {Γ : List Sl} {a : Addr} {o : HO} (h : Rp c M H σ Γ) (n : H a = none) : Rp c (plus M a) (upd H a o) σ Γ := by
  have x : Ext no H (upd H a o) := Ext.new n
  refine ⟨(h.sl.grow n).extW x (fun _ z => z.elim) fun _ _ _ _ z => z, fun T t => x.tab T (h.tb T t), c.st no _ _ (fun _ z => z.elim) x h.bx, fun b z => .inl (h.sub b z), fun b mb z => ?_⟩
  rcases mb with mb | rfl
  · exact h.al b mb (x.dom b z)
  · rw [upd_same] at z
    cases z
/-! readings made weaker, taken together, taken under a condition -/
theorem _root_.L2.PE.mono {X : Cx} {e : Expr} {t t' : TE} (h : PE X e t) (i : ∀ σ H Q, t' σ H Q → t σ H Q) : PE X e t' := ⟨fun pins s σ H Q I q => h.run pins s σ H Q I (i σ H Q q)⟩
theorem _root_.L2.PT.mono {X : Cx} {e : Expr} {t t' : TT} (h : PT X e t) (i : ∀ σ H Q, t' σ H Q → t σ H Q) : PT X e t' := ⟨fun pins s σ H Q I q => h.run pins s σ H Q I (i σ H Q q)⟩
theorem _root_.L2.PW.mono {X : Cx} {e : Expr} {t t' : TT} (h : PW X e t) (i : ∀ σ H Q, t' σ H Q → t σ H Q) : PW X e t' := ⟨fun w pins s σ H Q I q => h.run w pins s σ H Q I (i σ H Q q)⟩
theorem _root_.L2.PA.mono {X : Cx} {e : List Expr} {t t' : TA} (h : PA X e t) (i : ∀ σ H Q, t' σ H Q → t σ H Q) : PA X e t' := ⟨fun p pins s σ H Q I q => h.run p pins s σ H Q I (i σ H Q q)⟩
theorem _root_.L2.PI.mono {X : Cx} {tg e : Expr} {t t' : TI} (h : PI X tg e t) (i : ∀ σ H Q, t' σ H Q → t σ H Q) : PI X tg e t' := ⟨fun pins s σ H Q I q => h.run pins s σ H Q I (i σ H Q q)⟩
theorem _root_.L2.PS.mono {X : Cx} {e : Stmt} {t t' : TS} (h : PS X e t) (i : ∀ D σ H, t' D σ H → t D σ H) : PS X e t' := ⟨fun pins s σ H D I q => h.run pins s σ H D I (i D σ H q)⟩
theorem _root_.L2.PSs.mono {X : Cx} {e : List Stmt} {t t' : TS} (h : PSs X e t) (i : ∀ D σ H, t' D σ H → t D σ H) : PSs X e t' := ⟨fun pins s σ H D I q => h.run pins s σ H D I (i D σ H q)⟩
theorem _root_.L2.PTs.mono {X : Cx} {e : List Expr} {t t' : TT} (h : PTs X e t) (i : ∀ σ H Q, t' σ H Q → t σ H Q) : PTs X e t' := ⟨fun pins s σ H Q I q => h.run pins s σ H Q I (i σ H Q q)⟩
theorem _root_.L2.PE.ex {α : Sort _} {C : α → Prop} {X : Cx} {e : Expr} {t : α → TE} (h : ∀ a, C a → PE X e (t a)) : PE X e (fun σ H Q => ∃ a, C a ∧ t a σ H Q) := ⟨fun pins s σ H Q I ⟨a, ha, q⟩ => (h a ha).run pins s σ H Q I q⟩
theorem _root_.L2.PTs.ex {α : Sort _} {C : α → Prop} {X : Cx} {e : List Expr} {t : α → TT} (h : ∀ a, C a → PTs X e (t a)) : PTs X e (fun σ H Q => ∃ a, C a ∧ t a σ H Q) := ⟨fun pins s σ H Q I ⟨a, ha, q⟩ => (h a ha).run pins s σ H Q I q⟩
theorem _root_.L2.PSs.ex {α : Sort _} {C : α → Prop} {X : Cx} {e : List Stmt} {t : α → TS} (h : ∀ a, C a → PSs X e (t a)) : PSs X e (fun D σ H => ∃ a, C a ∧ t a D σ H) := ⟨fun pins s σ H D I ⟨a, ha, q⟩ => (h a ha).run pins s σ H D I q⟩
/-! ### expressions -/
abbrev RV := Hp → Hp → V → Prop
def tV (c : Cw) (M : Addr → Prop) (Γ : List Sl) (R : RV) : TE := fun σ H Q => Rp c M H σ Γ ∧ ∀ v H', R H H' v → Ext c.mx H H' → c.Bx H' → Q v H'
abbrev PV (X : Cx) (c : Cw) (M : Addr → Prop) (Γ : List Sl) (e : Expr) (R : RV) : Prop := PE X e (tV c M Γ R)
def isD (M : Addr → Prop) (d : PyData) : RV := fun _ H v => Td M H v d
/-- a new list -/
def isN (M : Addr → Prop) (xs : List PyData) : RV := fun H0 H v => ∃ a vs, v = .ref a ∧ H0 a = none ∧ H a = some (.lst vs) ∧ TdAll (plus M a) H vs xs
abbrev PD (X : Cx) (c : Cw) (M : Addr → Prop) (Γ : List Sl) (e : Expr) (d : PyData) : Prop := PV X c M Γ e (isD M d)
abbrev PN (X : Cx) (c : Cw) (M : Addr → Prop) (Γ : List Sl) (e : Expr) (xs : List PyData) : Prop := PV X c M Γ e (isN M xs)
structure Back (R : RV) : Prop where
  back : ∀ {m : Addr → Prop} {H H1 H' : Hp} {v : V}, Ext m H H1 → R H1 H' v → R H H' v
theorem back_d {M : Addr → Prop} {d : PyData} : Back (isD M d) := ⟨fun _ h => h⟩
theorem back_n {M : Addr → Prop} {xs : List PyData} : Back (isN M xs) := ⟨fun x ⟨a, vs, e, n, h⟩ => ⟨a, vs, e, x.dom a n, h⟩⟩
section
variable {X : Cx} {c : Cw} {M : Addr → Prop} {Γ : List Sl}
/-- a new list that is left alone -/
theorem PV.lst {e : Expr} {xs : List PyData} (h : PN X c M Γ e xs) : PD X c M Γ e (.list xs) := h.mono fun σ H Q ⟨r, q⟩ => ⟨r, fun v H' ⟨a, vs, ev, na, ha, all⟩ x b => q v H' (by rw [ev]; exact .lst (fun z => r.al a z na) ha (all.mono fun _ z => .inl z)) x b⟩
theorem pd_of {e : Expr} {v : V} {d : PyData} (h : PE X e (tC v)) (t : ∀ H, Td M H v d) : PD X c M Γ e d := h.mono fun σ H Q ⟨r, q⟩ => q v H (t H) (Ext.refl _ _) r.bx
theorem pd_int {i : Int} {j pos} : PD X c M Γ (.Constant (.int i) j pos) (.int i) := pd_of pe_int fun _ => .int i
theorem pd_str {x : Str} {j pos} : PD X c M Γ (.Constant (.str x) j pos) (.str x) := pd_of pe_str fun _ => .str x
theorem pd_bl {b : Bool} {j pos} : PD X c M Γ (.Constant (.bool b) j pos) (.bool b) := pd_of pe_bl fun _ => .bl b
theorem pd_non {j pos} : PD X c M Γ (.Constant .none j pos) .none := pd_of pe_non fun _ => .non
theorem pd_var (i : Nat) {x : Str} {pos : Pos} {d : PyData} (h : PE X (.Name x pos) (tVar i)) (g : Γ[i]? = some (.d d)) : PD X c M Γ (.Name x pos) d := h.mono fun σ H Q ⟨r, q⟩ => by
  obtain ⟨o, e, v, rfl, t⟩ := r.sl.get g
  exact ⟨v, e, q v H t (Ext.refl _ _) r.bx⟩
/-- two expressions, then something of their values -/
theorem pv_two {a b e : Expr} {ta tb : TE} {da db : PyData} {R : RV} {r : R2} (hp : PE X a (tV c M Γ (isD M da)) → PE X b (tV c M Γ (isD M db)) → PE X e (tOp r (tV c M Γ (isD M da)) (tV c M Γ (isD M db)))) (B : Back R) (ha : PD X c M Γ a da) (hb : PD X c M Γ b db)
    (sem : ∀ (x y : V) (H : Hp) (Q : VK), Td M H x da → Td M H y db → (∀ v H', R H H' v → Ext no H H' → Q v H') → r x y H Q) : PV X c M Γ e R :=
  (hp ha hb).mono fun σ H Q ⟨rp, q⟩ => ⟨rp, fun x H1 hx x1 b1 => ⟨rp.ext x1 b1, fun y H2 hy x2 b2 => sem x y H2 _ (hx.ext x2 rp.sub) hy fun v H' hv x3 =>
    q v H' (B.back (x1.trans x2) hv) ((x1.trans x2).trans x3.of0) (c.st no _ _ (fun _ z => z.elim) x3 b2)⟩⟩
theorem pv_op {a b : Expr} {op : Operator} {pos : Pos} {da db : PyData} {R : RV} {r : R2} (ho : OpR X (binaryOp op) r) (B : Back R) (ha : PD X c M Γ a da) (hb : PD X c M Γ b db)
    (sem : ∀ (x y : V) (H : Hp) (Q : VK), Td M H x da → Td M H y db → (∀ v H', R H H' v → Ext no H H' → Q v H') → r x y H Q) : PV X c M Γ (.BinOp a op b pos) R :=
  pv_two (ta := fun _ _ _ => True) (tb := fun _ _ _ => True) (fun h1 h2 => pe_op ho h1 h2) B ha hb sem
theorem pv_cmp {a b : Expr} {op : CmpOp} {pos : Pos} {da db : PyData} {R : RV} {r : R2} (ho : OpR X (compareOp op) r) (B : Back R) (ha : PD X c M Γ a da) (hb : PD X c M Γ b db)
    (sem : ∀ (x y : V) (H : Hp) (Q : VK), Td M H x da → Td M H y db → (∀ v H', R H H' v → Ext no H H' → Q v H') → r x y H Q) (hm : behindInMarks op b = false := by rfl) : PV X c M Γ (.Compare a [op] [b] pos) R :=
  pv_two (ta := fun _ _ _ => True) (tb := fun _ _ _ => True) (fun h1 h2 => pe_cmpR ho h1 h2 hm) B ha hb sem
end
end Bw
namespace Bw
open PySem PySem.Spec PyProof.Rows L2 GxR
/-! ### arguments -/
def tAr (c : Cw) (M : Addr → Prop) (Γ As : List Sl) : TA := fun σ H Q => Rp c M H σ Γ ∧ ∀ vs H', Reps c M H' (vs.map some) As → Ext c.mx H H' → c.Bx H' → Q vs H'
abbrev PAr (X : Cx) (c : Cw) (M : Addr → Prop) (Γ : List Sl) (es : List Expr) (As : List Sl) : Prop := PA X es (tAr c M Γ As)
abbrev ofD (ds : List PyData) : List Sl := ds.map Sl.d
theorem Reps.data {c : Cw} {M : Addr → Prop} {H : Hp} : ∀ {ds : List PyData} {vs : List V}, Reps c M H (vs.map some) (ofD ds) → TdAll M H vs ds
  | [], [], _ => .nil
  | [], _ :: _, h => nomatch h
  | _ :: _, [], h => nomatch h
  | d :: ds, v :: vs, .cons h t => by
    obtain ⟨u, e, td⟩ := h
    obtain rfl : v = u := Option.some.inj e
    exact .cons td (Reps.data t)
theorem Reps.ofData {c : Cw} {M : Addr → Prop} {H : Hp} : ∀ {ds : List PyData} {vs : List V}, TdAll M H vs ds → Reps c M H (vs.map some) (ofD ds)
  | [], _, .nil => .nil
  | _ :: _, _, .cons h t => .cons ⟨_, rfl, h⟩ (Reps.ofData t)
section
variable {X : Cx} {c : Cw} {M : Addr → Prop} {Γ : List Sl}
theorem ar_nil : PAr X c M Γ [] [] := PA.mono pa_nil fun σ H Q ⟨r, q⟩ => q [] H .nil (Ext.refl _ _) r.bx
theorem ar_d {e : Expr} {es : List Expr} {d : PyData} {As : List Sl} (h : PD X c M Γ e d) (t : PAr X c M Γ es As) (hs : starEach (e :: es) X.env = (false, eval e X.env) :: starEach es X.env := by rfl) : PAr X c M Γ (e :: es) (.d d :: As) :=
  (pa_cons h t hs).mono fun σ H Q ⟨r, q⟩ => ⟨r, fun v H1 hv x1 b1 => ⟨r.ext x1 b1, fun vs H2 hvs x2 b2 => q (v :: vs) H2 (.cons ⟨v, rfl, hv.ext x2 r.sub⟩ hvs) (x1.trans x2) b2⟩⟩
/-- something made of arguments -/
theorem pv_args {es : List Expr} {e : Expr} {As : List Sl} {R : RV} {r : List V → Hp → VK → Prop} (hp : PA X es (tAr c M Γ As) → PE X e (fun σ H Q => tAr c M Γ As σ H fun vs H1 => r vs H1 Q)) (B : Back R) (ha : PAr X c M Γ es As)
    (sem : ∀ (vs : List V) (H : Hp) (Q : VK), Rp c M H (vs.map some) As → (∀ v H', R H H' v → Ext no H H' → Q v H') → r vs H Q) : PV X c M Γ e R :=
  (hp ha).mono fun σ H Q ⟨rp, q⟩ => ⟨rp, fun vs H1 hvs x1 b1 => sem vs H1 _ ⟨hvs, fun T t => x1.tab T (rp.tb T t), b1, rp.sub, fun a ma z => rp.al a ma (x1.dom a z)⟩ fun v H' hv x3 => q v H' (B.back x1 hv) (x1.trans x3.of0) (c.st no _ _ (fun _ z => z.elim) x3 b1)⟩
theorem pd_tup {es : List Expr} {ds : List PyData} {x1} {pos : Pos} (h : PAr X c M Γ es (ofD ds)) (few : ds.length ≤ sizeLine) : PD X c M Γ (.Tuple es x1 pos) (.tuple ds) :=
  pv_args (r := fun xs H1 Q => xs.length ≤ sizeLine ∧ ∀ p, H1 p = none → Q (.ref p) (upd H1 p (.tup xs))) (fun a => pe_tup a) back_d h fun vs H Q r q => by
    have all := r.sl.data
    refine ⟨by rw [all.len]; exact few, fun p np => q _ _ (.tup upd_same (all.ext (m := no) (Ext.new np) fun _ z => z.elim)) (Ext.new np)⟩
theorem pn_lst {es : List Expr} {ds : List PyData} {pos : Pos} (h : PAr X c M Γ es (ofD ds)) (few : ds.length ≤ sizeLine) : PN X c M Γ (.List es pos) ds :=
  pv_args (r := fun xs H1 Q => xs.length ≤ sizeLine ∧ ∀ p, H1 p = none → Q (.ref p) (upd H1 p (.lst xs))) (fun a => pe_lst a) back_n h fun vs H Q r q => by
    have all := r.sl.data
    refine ⟨by rw [all.len]; exact few, fun p np => q _ _ ⟨p, _, rfl, np, upd_same, (all.grow np).ext (m := no) (Ext.new np) fun _ z => z.elim⟩ (Ext.new np)⟩
theorem pv_callB {id : String} {r : List V → Hp → VK → Prop} {x : Str} {e : Expr} {es : List Expr} {p pos : Pos} {As : List Sl} {R : RV} (hc : CallR X (.builtin id) r) (hm : X.mg x = none) (hv : bootBuiltins x = some (.builtin id)) (B : Back R) (ha : PAr X c M Γ (e :: es) As)
    (sem : ∀ (vs : List V) (H : Hp) (Q : VK), Rp c M H (vs.map some) As → (∀ v H', R H H' v → Ext no H H' → Q v H') → r vs H Q) (hg : Gl X x := by rfl) (hn : x ≠ "__name__" := by decide) (hdb : (x == ("__debug__" : Str)) = false := by decide)
    (he : starEach (e :: es) X.env = (false, eval e X.env) :: starEach es X.env := by rfl) (hpl : (backTo pos (starEach es X.env)).any (·.1) = false := by rfl) : PV X c M Γ (.Call (.Name x p) (e :: es) [] pos) R :=
  pv_args (r := r) (fun a => pe_callB hc hg hm hv a hn hdb he hpl) B ha sem
theorem pv_callTy {T : String} {r : List V → Hp → VK → Prop} {x : Str} {e : Expr} {es : List Expr} {p pos : Pos} {As : List Sl} {R : RV} (hc : CallR X (.type T) r) (hm : X.mg x = none) (hv : bootBuiltins x = some (.type T)) (B : Back R) (ha : PAr X c M Γ (e :: es) As)
    (sem : ∀ (vs : List V) (H : Hp) (Q : VK), Rp c M H (vs.map some) As → (∀ v H', R H H' v → Ext no H H' → Q v H') → r vs H Q) (hg : Gl X x := by rfl) (hn : x ≠ "__name__" := by decide) (hdb : (x == ("__debug__" : Str)) = false := by decide)
    (he : starEach (e :: es) X.env = (false, eval e X.env) :: starEach es X.env := by rfl) (hpl : (backTo pos (starEach es X.env)).any (·.1) = false := by rfl) : PV X c M Γ (.Call (.Name x p) (e :: es) [] pos) R :=
  pv_args (r := r) (fun a => pe_callTy hc hg hm hv a hn hdb he hpl) B ha sem
/-! one argument, a thing -/
theorem Reps.one {H : Hp} {vs : List V} {s : Sl} (h : Reps c M H (vs.map some) [s]) : ∃ v, vs = [v] ∧ SlOk c M H s (some v) := by
  cases vs with
  | nil => nomatch h
  | cons v vs =>
    cases vs with
    | nil => cases h with
      | cons a _ => exact ⟨v, rfl, a⟩
    | cons u us => cases h with
      | cons _ t => nomatch t
theorem Reps.one_d {H : Hp} {vs : List V} {d : PyData} (h : Reps c M H (vs.map some) [.d d]) : ∃ v, vs = [v] ∧ Td M H v d := by
  obtain ⟨v, e, u, e2, t⟩ := h.one
  obtain rfl : v = u := Option.some.inj e2
  exact ⟨v, e, t⟩
theorem Reps.two_d {H : Hp} {vs : List V} {d e : PyData} (h : Reps c M H (vs.map some) [.d d, .d e]) : ∃ v u, vs = [v, u] ∧ Td M H v d ∧ Td M H u e := by
  cases Reps.data (ds := [d, e]) h with
  | cons a t => cases t with
    | cons b t => cases t; exact ⟨_, _, rfl, a, b⟩
/-- len of a tuple, of a list -/
theorem pd_lenT {e : Expr} {ds : List PyData} {p pos : Pos} (hm : X.mg "len" = none) (h : PD X c M Γ e (.tuple ds)) (he : starEach [e] X.env = (false, eval e X.env) :: starEach [] X.env := by rfl) (hg : Gl X "len" := by rfl) : PD X c M Γ (.Call (.Name "len" p) [e] [] pos) (.int ds.length) :=
  pv_callB call_len_seq hm PySem.boot_len back_d (ar_d h ar_nil he) (fun vs H Q r q => by
    obtain ⟨v, rfl, t⟩ := r.sl.one_d
    obtain ⟨a, us, rfl, hu, all⟩ := t.tupE
    exact ⟨a, us, rfl, .inr (SqT.of hu), q _ _ (by rw [all.len]; exact .int _) (Ext.refl _ _)⟩) hg (by decide) (by decide) he
theorem pd_lenD {e : Expr} {ds : List PyData} {p pos : Pos} (hm : X.mg "len" = none) (h : PD X c M Γ e (.list ds)) (he : starEach [e] X.env = (false, eval e X.env) :: starEach [] X.env := by rfl) (hg : Gl X "len" := by rfl) : PD X c M Γ (.Call (.Name "len" p) [e] [] pos) (.int ds.length) :=
  pv_callB call_len_seq hm PySem.boot_len back_d (ar_d h ar_nil he) (fun vs H Q r q => by
    obtain ⟨v, rfl, t⟩ := r.sl.one_d
    obtain ⟨a, us, rfl, _, hu, all⟩ := t.lstE
    exact ⟨a, us, rfl, .inl (SqL.of hu), q _ _ (by rw [all.len]; exact .int _) (Ext.refl _ _)⟩) hg (by decide) (by decide) he
/-! list(..), tuple(..) -/
theorem pn_listT {e : Expr} {ds : List PyData} {p pos : Pos} (hm : X.mg "list" = none) (h : PD X c M Γ e (.tuple ds)) (he : starEach [e] X.env = (false, eval e X.env) :: starEach [] X.env := by rfl) (hg : Gl X "list" := by rfl) : PN X c M Γ (.Call (.Name "list" p) [e] [] pos) ds :=
  pv_callTy call_list_of hm (by decide +kernel) back_n (ar_d h ar_nil he) (fun vs H Q r q => by
    obtain ⟨v, rfl, t⟩ := r.sl.one_d
    obtain ⟨a, us, rfl, hu, all⟩ := t.tupE
    exact ⟨a, us, rfl, .inr (SqT.of hu), fun l nl => q _ _ ⟨l, us, rfl, nl, upd_same, (all.grow nl).ext (m := no) (Ext.new nl) fun _ z => z.elim⟩ (Ext.new nl)⟩) hg (by decide) (by decide) he
/-! numbers -/
theorem pd_add {a b : Expr} {i j : Int} {pos : Pos} (ha : PD X c M Γ a (.int i)) (hb : PD X c M Γ b (.int j)) : PD X c M Γ (.BinOp a .Add b pos) (.int (i + j)) := pv_op op_add back_d ha hb fun x y H Q hx hy q => by
  rw [hx.intE, hy.intE]
  exact ⟨i, j, rfl, rfl, q _ _ (.int _) (Ext.refl _ _)⟩
theorem pd_sub {a b : Expr} {i j : Int} {pos : Pos} (ha : PD X c M Γ a (.int i)) (hb : PD X c M Γ b (.int j)) : PD X c M Γ (.BinOp a .Sub b pos) (.int (i - j)) := pv_op op_sub back_d ha hb fun x y H Q hx hy q => by
  rw [hx.intE, hy.intE]
  exact ⟨i, j, rfl, rfl, q _ _ (.int _) (Ext.refl _ _)⟩
/-! subscripts -/
theorem pv_ix {a b : Expr} {pos : Pos} {da db : PyData} {R : RV} {r : R2} (hx : IxR X r) (B : Back R) (ha : PD X c M Γ a da) (hb : PD X c M Γ b db) (plain : PlainIx b)
    (sem : ∀ (x y : V) (H : Hp) (Q : VK), Td M H x da → Td M H y db → (∀ v H', R H H' v → Ext no H H' → Q v H') → r x y H Q) : PV X c M Γ (.Subscript a b pos) R :=
  pv_two (ta := fun _ _ _ => True) (tb := fun _ _ _ => True) (fun h1 h2 => pe_ix hx h1 h2 plain) B ha hb sem
theorem pd_ixT {a b : Expr} {pos : Pos} {ds : List PyData} {n : Nat} {i : Int} {d : PyData} (ha : PD X c M Γ a (.tuple ds)) (hb : PD X c M Γ b (.int i)) (at_ : ds[n]? = some d) (hi : i = (n : Int) := by rfl) (plain : PlainIx b := by exact fun _ _ => rfl) : PD X c M Γ (.Subscript a b pos) d := by
  subst hi
  exact pv_ix ix_tup back_d ha hb plain fun x y H Q hx hy q => by
    obtain ⟨p, vs, rfl, hp, all⟩ := hx.tupE
    obtain ⟨v, ev, tv⟩ := all.get at_
    rw [hy.intE]
    exact ⟨p, vs, _, v, rfl, rfl, SqT.of hp, atI_nat ev, q _ _ tv (Ext.refl _ _)⟩
theorem pd_ixD {a b : Expr} {pos : Pos} {ds : List PyData} {n : Nat} {i : Int} {d : PyData} (ha : PD X c M Γ a (.list ds)) (hb : PD X c M Γ b (.int i)) (at_ : ds[n]? = some d) (hi : i = (n : Int) := by rfl) (plain : PlainIx b := by exact fun _ _ => rfl) : PD X c M Γ (.Subscript a b pos) d := by
  subst hi
  exact pv_ix ix_list back_d ha hb plain fun x y H Q hx hy q => by
    obtain ⟨p, vs, rfl, _, hp, all⟩ := hx.lstE
    obtain ⟨v, ev, tv⟩ := all.get at_
    rw [hy.intE]
    exact ⟨p, vs, _, v, rfl, rfl, SqL.of hp, atI_nat ev, q _ _ tv (Ext.refl _ _)⟩
/-! comparisons -/
theorem pd_eqI {a b : Expr} {i j : Int} {pos : Pos} (ha : PD X c M Γ a (.int i)) (hb : PD X c M Γ b (.int j)) (hm : behindInMarks .Eq b = false := by rfl) : PD X c M Γ (.Compare a [.Eq] [b] pos) (.bool (decide (i = j))) := pv_cmp op_eq back_d ha hb (fun x y H Q hx hy q => by
  rw [hx.intE, hy.intE]
  have e : decide (V.int i = V.int j) = decide (i = j) := by rw [decide_eq_decide]; exact ⟨V.int.inj, congrArg V.int⟩
  exact ⟨rfl, q _ _ (by rw [e]; exact .bl _) (Ext.refl _ _)⟩) hm
theorem pd_eqD {a b : Expr} {d e : PyData} {pos : Pos} (hu : X.A.units + 64 < cLine) (ha : PD X c M Γ a d) (hb : PD X c M Γ b e) (sd : SeqAt.shaped d = true) (se : SeqAt.shaped e = true) (hm : behindInMarks .Eq b = false := by rfl) : PD X c M Γ (.Compare a [.Eq] [b] pos) (.bool (PyData.eqv d e)) :=
  pv_cmp (op_eqD hu) back_d ha hb (fun x y H Q hx hy q => ⟨d, e, hx.dp, hy.dp, sd, se, q _ _ (.bl _) (Ext.refl _ _)⟩) hm
def dNone : PyData → Bool
  | .none => true
  | _ => false
theorem Td.isN {H : Hp} {v : V} {d : PyData} (h : Td M H v d) : decide (v = .non) = dNone d := by
  cases h <;> first | exact decide_eq_true rfl | exact decide_eq_false (by intro z; cases z)
end
end Bw
namespace Bw
open PySem PySem.Spec PyProof.Rows L2 GxR
end Bw
namespace Bw
open PySem PySem.Spec PyProof.Rows L2 GxR
end Bw
namespace Bw
open PySem PySem.Spec PyProof.Rows L2 GxR
def asks : Row → Bool
  | .say .. => true | .iff .. => true | _ => false
end Bw
namespace Bw
open PySem PySem.Spec PyProof.Rows L2 GxR
end Bw
namespace Bw
open PySem PySem.Spec PyProof.Rows L2 GxR
theorem cutTo (xs : List V) (k : Nat) : cutV xs none (some (k : Int)) = xs.take k := by
  unfold cutV
  rw [HT.sIx_nat, HT.sIx_none, List.drop_zero, Nat.sub_zero]
  by_cases h : k ≤ xs.length
  · rw [Nat.min_eq_left h]
  · rw [Nat.min_eq_right (show xs.length ≤ k by omega), List.take_length, List.take_of_length_le (show xs.length ≤ k by omega)]
end Bw
namespace Bw
open PySem PySem.Spec PyProof.Rows L2 GxR
section
variable {X : Cx} {c : Cw} {M : Addr → Prop} {Γ : List Sl}
/-! ### tests -/
def tQ (c : Cw) (M : Addr → Prop) (Γ : List Sl) (b : Bool) : TT := fun σ H Q => Rp c M H σ Γ ∧ ∀ H', Ext c.mx H H' → c.Bx H' → Q b H'
abbrev PQ (X : Cx) (c : Cw) (M : Addr → Prop) (Γ : List Sl) (e : Expr) (b : Bool) : Prop := PT X e (tQ c M Γ b)
abbrev PQw (X : Cx) (c : Cw) (M : Addr → Prop) (Γ : List Sl) (e : Expr) (b : Bool) : Prop := PW X e (tQ c M Γ b)
theorem pq_val {e : Expr} {b : Bool} (h : PD X c M Γ e (.bool b)) (he : ∀ whole, isTrue e X.env whole = (do let v ← whole; standAt e.pos; holding [v] (truthy v)) := by intro _; rfl) : PQ X c M Γ e b :=
  (pt_val h he).mono fun σ H Q ⟨r, q⟩ => ⟨r, fun v H1 hv x1 b1 => ⟨b, hv.blE, q H1 x1 b1⟩⟩
theorem pq_cmp {a b : Expr} {op : CmpOp} {pos : Pos} {da db : PyData} {r : R2} {k : Bool} (ho : OpR X (compareOp op) r) (ha : PD X c M Γ a da) (hb : PD X c M Γ b db)
    (sem : ∀ (x y : V) (H : Hp) (Q : VK), Td M H x da → Td M H y db → (∀ v H', isD M (.bool k) H H' v → Ext no H H' → Q v H') → r x y H Q) (hm : behindInMarks op b = false := by rfl) : PQ X c M Γ (.Compare a [op] [b] pos) k :=
  (pt_cmpR ho ha hb hm).mono fun σ H Q ⟨rp, q⟩ => ⟨rp, fun x H1 hx x1 b1 => ⟨rp.ext x1 b1, fun y H2 hy x2 b2 => sem x y H2 _ (hx.ext x2 rp.sub) hy fun v H' hv x3 =>
    ⟨k, hv.blE, q H' ((x1.trans x2).trans x3.of0) (c.st no _ _ (fun _ z => z.elim) x3 b2)⟩⟩⟩
theorem pq_not {a : Expr} {pos : Pos} {b : Bool} (h : PQ X c M Γ a b) : PQ X c M Γ (.UnaryOp .Not a pos) (!b) := (pt_not h).mono fun σ H Q ⟨r, q⟩ => ⟨r, fun H1 x1 b1 => q H1 x1 b1⟩
theorem pw_when {X : Cx} {e : Expr} {t : TT} {p : Prop} (h : p → PW X e t) : PW X e (fun σ H Q => p ∧ t σ H Q) := ⟨fun w pins s σ H Q I ⟨hp, q⟩ => (h hp).run w pins s σ H Q I q⟩
theorem pe_when {X : Cx} {e : Expr} {t : TE} {p : Prop} (h : p → PE X e t) : PE X e (fun σ H Q => p ∧ t σ H Q) := ⟨fun pins s σ H Q I ⟨hp, q⟩ => (h hp).run pins s σ H Q I q⟩
theorem pss_when {X : Cx} {e : List Stmt} {t : TS} {p : Prop} (h : p → PSs X e t) : PSs X e (fun D σ H => p ∧ t D σ H) := ⟨fun pins s σ H D I ⟨hp, q⟩ => (h hp).run pins s σ H D I q⟩
theorem pqw_or1 {a : Expr} {pos : Pos} {b : Bool} (h : PQ X c M Γ a b) : PQw X c M Γ (.BoolOp .Or [a] pos) b := pw_or1 h
theorem pqw_or {a b : Expr} {rest : List Expr} {pos : Pos} {k l : Bool} (h : PQ X c M Γ a k) (t : k = false → PQw X c M Γ (.BoolOp .Or (b :: rest) pos) l) : PQw X c M Γ (.BoolOp .Or (a :: b :: rest) pos) (k || l) :=
  (pw_or h (pw_when t)).mono fun σ H Q ⟨r, q⟩ => ⟨r, fun H1 x1 b1 => by
    cases k with
    | true => exact iteT (q H1 x1 b1)
    | false => exact iteF ⟨rfl, r.ext x1 b1, fun H2 x2 b2 => q H2 (x1.trans x2) b2⟩⟩
theorem pq_or {a b : Expr} {pos : Pos} {k l : Bool} (h : PQ X c M Γ a k) (t : k = false → PQ X c M Γ b l) : PQ X c M Γ (.BoolOp .Or [a, b] pos) (k || l) := (pqw_or h fun e => pqw_or1 (t e)).pt
/-! and, or, not, if as values -/
theorem pv_if {t a b : Expr} {pos : Pos} {k : Bool} {R : RV} (h : PQ X c M Γ t k) (B : Back R) (ha : k = true → PV X c M Γ a R) (hb : k = false → PV X c M Γ b R) : PV X c M Γ (.IfExp t a b pos) R :=
  (pe_ifExp h (pe_when ha) (pe_when hb)).mono fun σ H Q ⟨r, q⟩ => ⟨r, fun H1 x1 b1 => by
    cases k with
    | true => exact iteT ⟨rfl, r.ext x1 b1, fun v H2 hv x2 b2 => q v H2 (B.back x1 hv) (x1.trans x2) b2⟩
    | false => exact iteF ⟨rfl, r.ext x1 b1, fun v H2 hv x2 b2 => q v H2 (B.back x1 hv) (x1.trans x2) b2⟩⟩
theorem pd_and {a b : Expr} {pos : Pos} {k l : Bool} (h : PD X c M Γ a (.bool k)) (t : k = true → PD X c M Γ b (.bool l)) : PD X c M Γ (.BoolOp .And [a, b] pos) (.bool (k && l)) :=
  (pe_and h (pe_one (pe_when t))).mono fun σ H Q ⟨r, q⟩ => ⟨r, fun v H1 hv x1 b1 => ⟨k, hv.blE, by
    cases k with
    | true => exact iteT ⟨rfl, r.ext x1 b1, fun v H2 hv x2 b2 => q v H2 hv (x1.trans x2) b2⟩
    | false => exact iteF (q _ H1 (.bl false) x1 b1)⟩⟩
theorem pd_and3 {a b e : Expr} {pos : Pos} {k l n : Bool} (h : PD X c M Γ a (.bool k)) (t : k = true → PD X c M Γ b (.bool l)) (u : k = true → l = true → PD X c M Γ e (.bool n)) : PD X c M Γ (.BoolOp .And [a, b, e] pos) (.bool (k && (l && n))) :=
  (pe_and h (pe_when (p := k = true) fun hk => pe_and (t hk) (pe_one (pe_when (p := l = true) fun hl => u hk hl)))).mono fun σ H Q ⟨r, q⟩ => ⟨r, fun v H1 hv x1 b1 => ⟨k, hv.blE, by
    cases k with
    | true =>
      refine iteT ⟨rfl, r.ext x1 b1, fun v H2 hv x2 b2 => ⟨l, hv.blE, ?_⟩⟩
      cases l with
      | true => exact iteT ⟨rfl, (r.ext x1 b1).ext x2 b2, fun v H3 hv x3 b3 => q v H3 hv ((x1.trans x2).trans x3) b3⟩
      | false => exact iteF (q _ H2 (.bl false) (x1.trans x2) b2)
    | false => exact iteF (q _ H1 (.bl false) x1 b1)⟩⟩
theorem pd_not {a : Expr} {pos : Pos} {k : Bool} (h : PD X c M Γ a (.bool k)) : PD X c M Γ (.UnaryOp .Not a pos) (.bool (!k)) :=
  (pe_not h).mono fun σ H Q ⟨r, q⟩ => ⟨r, fun v H1 hv x1 b1 => ⟨k, hv.blE, q _ H1 (.bl _) x1 b1⟩⟩
/-! in, of flat things -/
def flatD : PyData → Bool
  | .none => true
  | .bool _ => true
  | .int _ => true
  | .str _ => true
  | _ => false
theorem Td.flat {H : Hp} {v : V} {d : PyData} (h : Td M H v d) (f : flatD d = true) : flatV v = true := by
  cases h <;> first | rfl | cases f
def flatOf : PyData → V
  | .none => .non
  | .bool b => .bl b
  | .int i => .int i
  | .str s => .str s
  | _ => .non
theorem Td.flatE {H : Hp} {v : V} {d : PyData} (h : Td M H v d) (f : flatD d = true) : v = flatOf d := by
  cases h <;> first | rfl | cases f
theorem TdAll.flatE {H : Hp} : ∀ {vs : List V} {ds : List PyData}, TdAll M H vs ds → ds.all flatD = true → vs = ds.map flatOf
  | _, _, .nil, _ => rfl
  | _, d :: ds, .cons h t, f => by
    simp only [List.all_cons, Bool.and_eq_true] at f
    rw [h.flatE f.1, TdAll.flatE t f.2]
    rfl
theorem flat_all : ∀ {ds : List PyData}, ds.all flatD = true → (ds.map flatOf).all flatV = true
  | [], _ => rfl
  | d :: ds, f => by
    simp only [List.all_cons, Bool.and_eq_true] at f
    have h1 : flatV (flatOf d) = true := by
      obtain ⟨f1, _⟩ := f
      cases d <;> first | rfl | cases f1
    rw [List.map_cons, List.all_cons, h1, flat_all f.2]
    rfl
/-! sums of tuples, of lists -/
theorem pd_catT {a b : Expr} {pos : Pos} {ds es : List PyData} (ha : PD X c M Γ a (.tuple ds)) (hb : PD X c M Γ b (.tuple es)) (few : ds.length + es.length ≤ sizeLine) : PD X c M Γ (.BinOp a .Add b pos) (.tuple (ds ++ es)) :=
  pv_op op_catA back_d ha hb fun x y H Q hx hy q => by
    obtain ⟨p, vs, rfl, hp, all⟩ := hx.tupE
    obtain ⟨p', us, rfl, hp', all'⟩ := hy.tupE
    refine ⟨p, p', vs, us, rfl, rfl, SqT.of hp, SqT.of hp', by rw [all.len, all'.len]; exact few, fun e => ?_, fun e e' => ?_, fun e e' r nr => ?_⟩
    · have : ds = [] := all.nil_iff.mp e
      rw [this] at q
      exact q _ _ hy (Ext.refl _ _)
    · have : es = [] := all'.nil_iff.mp e'
      rw [this, List.append_nil] at q
      exact q _ _ hx (Ext.refl _ _)
    · exact q _ _ (.tup upd_same ((all.app all').ext (m := no) (Ext.new nr) fun _ z => z.elim)) (Ext.new nr)
theorem pn_cat {a b : Expr} {pos : Pos} {ds es : List PyData} (ha : PD X c M Γ a (.list ds)) (hb : PD X c M Γ b (.list es)) (few : ds.length + es.length ≤ sizeLine) : PN X c M Γ (.BinOp a .Add b pos) (ds ++ es) :=
  pv_op op_cat back_n ha hb fun x y H Q hx hy q => by
    obtain ⟨p, vs, rfl, _, hp, all⟩ := hx.lstE
    obtain ⟨p', us, rfl, _, hp', all'⟩ := hy.lstE
    exact ⟨p, p', vs, us, rfl, rfl, hp, hp', by rw [all.len, all'.len]; exact few, fun r nr => q _ _ ⟨r, _, rfl, nr, upd_same, ((all.app all').grow nr).ext (m := no) (Ext.new nr) fun _ z => z.elim⟩ (Ext.new nr)⟩
theorem TdAll.rep {H : Hp} {vs : List V} {ds : List PyData} (h : TdAll M H vs ds) : ∀ n : Nat, TdAll M H (List.replicate n vs).flatten (List.replicate n ds).flatten
  | 0 => .nil
  | n + 1 => h.app (TdAll.rep h n)
theorem pn_rep {a b : Expr} {pos : Pos} {ds : List PyData} {k : Int} (ha : PD X c M Γ a (.list ds)) (hb : PD X c M Γ b (.int k)) (lo : -(2 ^ 63) ≤ k) (hi : k < 2 ^ 63) (few : ds.length * k.toNat ≤ sizeLine) : PN X c M Γ (.BinOp a .Mult b pos) (List.replicate k.toNat ds).flatten :=
  pv_op op_rep back_n ha hb fun x y H Q hx hy q => by
    obtain ⟨p, vs, rfl, _, hp, all⟩ := hx.lstE
    rw [hy.intE]
    exact ⟨p, k, vs, rfl, rfl, hp, lo, hi, by rw [all.len]; exact few, fun r nr => q _ _ ⟨r, _, rfl, nr, upd_same, ((all.rep _).grow nr).ext (m := no) (Ext.new nr) fun _ z => z.elim⟩ (Ext.new nr)⟩
end
end Bw
namespace Bw
open PySem PySem.Spec PyProof.Rows L2 GxR
end Bw
namespace Bw
open PySem PySem.Spec PyProof.Rows L2 GxR
end Bw
namespace Bw
open PySem PySem.Spec PyProof.Rows L2 GxR
end Bw
namespace Bw
open PySem PySem.Spec PyProof.Rows L2 GxR
/-! ### what a program does by boxes -/
def un (odd : List Int) (k : Nat) : Int := at0 odd (k % odd.length)
/-- the n-th box of a group -/
def boxAt (bs : List Nat) (n : Nat) : Nat := (bs[n]?).getD 0
def calls : Row → Bool
  | .call .. => true
  | _ => false
def makes : Row → Bool
  | .say .. => false
  | .iff .. => false
  | .go .. => false
  | .fin => false
  | _ => true
/-- where a place stands among the cells -/
def Pl.cell (f : Fr) (p : Pl) : Nat := if p.box = true then p.n else f.boxes + p.n
end Bw
namespace Bw
open PySem PySem.Spec PyProof.Rows L2 GxR
/-! ### enumerate(tuple) -/
set_option maxHeartbeats 1234000 in
theorem meets_enum1 {v : Value} {o : Obj} {Pz : Heap → Prop} (B : Begins v o Pz) : Meets (Builtin.«enumerate.__new__» ⟨[.type "enumerate", v], []⟩) (fun _ R s => Pz s.heap ∧
    R (.ok (.ret (.ref (s.heap.push o).objs.size))) { s with heap := (s.heap.push o).push { cls := .type "enumerate", data := .fields #[.none, .bool false, .ref s.heap.objs.size, rawInt 0, .none, .none] } }) :=
  .of_wp fun prog w A R s hs => by
    obtain ⟨hp, ge, dr, tk, os⟩ := s
    obtain ⟨at_, fin⟩ := hs
    have itself := sub_enumerate
    have begun : ∀ {A' : Around} {E' : Value → Shared → Prop} {Q' : Value → Shared → Prop}, Q' (.ref hp.objs.size) ⟨hp.push o, ge, dr, tk, os⟩ → wpAny (model prog w) A' (pyIter v) Q' E' ⟨hp, ge, dr, tk, os⟩ := fun z => B.iter prog w _ _ ⟨hp, ge, dr, tk, os⟩ _ at_ z
    wp_walk using begun
    refine wpAny_stack_any fun frames => wpAny_pure ?_
    split
    · rename_i kind _ _ _ _ _
      cases (kind == Value.type "enumerate") <;> (wp_walk using begun; exact ⟨_, rfl, fin⟩)
    · wp_walk using begun
      exact ⟨_, rfl, fin⟩
theorem enum_made {prog : Program} {w : World} {A : Around} {E : Value → Shared → Prop} {s : Shared} {t : Addr} {items : Array Value} {Q : Value → Shared → Prop} (ht : s.heap.IsTuple t items)
    (fin : ∀ h', IsEnum h' (s.heap.objs.size + 1) s.heap.objs.size 0 .none → h'.IsTupleIter s.heap.objs.size t 0 → (∀ b o, s.heap.get? b = some o → h'.get? b = some o) → Q (.ref (s.heap.objs.size + 1)) { s with heap := h' }) :
    wpAny (model prog w) A (call (.type "enumerate") [.ref t]) Q E s := by
  have B := begins_tuple t items
  refine callType_new F.called_enumerate (by decide) (F.typeCall_enumerate_1 _) (F.newCall_enumerate_1 _) (fun ob => F.args_object_init_2 ob _) F.entry_enumerate_new (meets_enum1 B) ⟨ht, ?_⟩
  generalize hI : ({ cls := .type "tuple_iterator", data := .fields #[.ref t, .int 0 0] } : Obj) = oI at B
  have z1 : (s.heap.push oI).objs.size = s.heap.objs.size + 1 := Heap.size_push ..
  have made := Heap.get?_push_size (s.heap.push oI) (o := { cls := .type "enumerate", data := .fields #[.none, .bool false, .ref s.heap.objs.size, rawInt 0, .none, .none] }) rfl
  rw [z1] at made
  show _ ∧ _
  rw [z1]
  refine ⟨⟨_, made, rfl⟩, fin _ made ⟨oI, Heap.get?_push_of_some _ (Heap.get?_push_size _ B.free), by rw [← hI], by rw [← hI]; rfl⟩ fun b o q => ?_⟩
  exact Heap.get?_push_of_some _ (Heap.get?_push_of_some _ q)
theorem wpAny_pyNext_enum_endT {prog : Program} {w : World} {A : Around} {E : Value → Shared → Prop} {s : Shared} {e it t : Addr} {i : Nat} {items : Array Value} {old : Value} {Q : Option Value → Shared → Prop} (hh : A.handled = none) (he : IsEnum s.heap e it i old) (hit : s.heap.IsTupleIter it t i) (ht : s.heap.IsTuple t items)
    (out : items[i]? = none) (fin : ∀ h', Heap.ExtBut it s.heap h' → Q none { s with heap := h' }) : wpAny (model prog w) A (pyNext (.ref e)) Q E s := by
  have kind : s.TypeIs (.ref e) "enumerate" := ⟨_, he, rfl⟩
  unfold pyNext
  refine wpAny_bind (wpAny_attempt (wpAny_callSpecial?_slot (name := Str.ofString "__next__") kind F.slot_enumerate_next (wpAny_call_entry F.slot_enumerate_next kind F.entry_enumerate_next ?_ (F.args_enumerate_next_1 _))))
  refine wpAny_bind (m := field (.ref e) 2) (wpAny_field he rfl (x := .ref it) rfl (wpAny_bind (wpAny_nextOf_tuple_end hh hit ht out fun h' x far ⟨o, oAt, oIs⟩ => ?_)))
  exact wpAny_bind (wpAny_isInstance (T := "StopIteration") (b := true) ⟨o, oAt, oIs⟩ isSubtype_stop (wpAny_pure (fin _ far)))
def IteT (K : PySem.W.Frag) (a : Addr) : It where
  go i H := ∃ (xs : List V) (x : V), SqT K H a xs ∧ xs[i]? = some x
  yld i H v H' := ∃ t x, v = .ref t ∧ H t = none ∧ H' = upd H t (.tup [.int (i : Nat), x]) ∧ ∀ xs, SqT K H a xs → xs[i]? = some x
  stop i H := ∃ xs : List V, SqT K H a xs ∧ xs.length ≤ i
theorem enumT_turn {P : Program} {w : World} {K : PySem.W.Frag} {elts : List Expr} {kk : Nat} {tpos : Pos} (a e it : Addr) (n1 : e ≠ it) (n2 : a ≠ it) (n3 : e ≠ a) :
    Turn P w K (.Tuple elts kk tpos) (IteT K a) [e, it] e (fun i h => (∃ before, IsEnum h e it ((i : Nat) : Int) before) ∧ h.IsTupleIter it a i) where
  mem := by simp
  obj := fun i h st b hb => by
    obtain ⟨⟨_, there⟩, ⟨o, oAt, _, oIs⟩⟩ := st
    rcases List.mem_cons.mp hb with q | q
    · rw [q]
      exact ⟨_, there, fun v no => nomatch no⟩
    · rw [List.mem_singleton.mp q]
      exact ⟨o, oAt, fun v z => by rw [oIs] at z; cases z⟩
  keep := fun i h h' st k => by
    obtain ⟨⟨old, there⟩, iter⟩ := st
    exact ⟨⟨old, k e (by simp) _ there⟩, iter.at fun o z => k it (by simp) o z⟩
  item := by
    rintro X hP hw hK hc i pins s σ H E I hf ⟨⟨_, there⟩, iter⟩ hg
    subst hP hw hK
    obtain ⟨xs, x, isT, isX⟩ := hg
    obtain ⟨its, rv, tup, _⟩ := I.tuple isT
    obtain ⟨u, isU, ru⟩ := rv.get isX
    have isU' : its.toArray[i]? = some u := by simpa using isU
    have e1 : e < s.heap.objs.size := Heap.lt_size there
    have e2 : it < s.heap.objs.size := iter.elim fun _ q => Heap.lt_size q.1
    have apart : e ∉ [it, a] := by simp [n1, n3]
    have Dr := Draws.tuple (prog := X.prog) (w := X.w) (A := X.A.in1) (I.ok.hd hc) it a n2 its.toArray
    refine wpAny_pyNext_enum_itemD Dr there ⟨iter, tup⟩ (Array.getElem?_eq_some_iff.mp isU').1 n1 apart fun y h1 tk isY out next new _ kept => ?_
    obtain rfl : u = y := by
      have z : its.toArray[i]? = some y := isY
      rw [isU'] at z
      exact Option.some.inj z
    refine ⟨_, rfl, wpAny_letOwnedTupleGo_enum (s := { s with heap := h1, toks := tk + 1 }) out fun h2 back same => ?_⟩
    have new2 : h2.get? s.heap.objs.size = some { cls := .type "tuple", data := .seq #[.int i tk, u] } := (same.2 _ (Nat.ne_of_gt e1)).trans new
    have objOk : ObjOk X.prog X.w (upd H s.heap.objs.size (.tup [.int (i : Nat), x])) h2 s.heap.objs.size (.tup [.int (i : Nat), x]) :=
      ⟨show 2 ≤ sizeLine by decide, _, .cons ⟨tk, rfl⟩ (.cons ru .nil), ⟨_, new2, rfl, 0, rfl⟩⟩
    have far : ∀ b ob, b ∉ [e, it] → s.heap.get? b = some ob → h2.get? b = some ob := fun b ob nb q => by
      rw [same.2 b (fun z => nb (by simp [z]))]
      exact kept b ob (fun z => nb (by simp [z])) (fun z => nb (by simp [z])) q
    have J := I.turnedNew (t' := tk + 1) (ch := [e, it]) far hf (Nat.le_refl _) objOk
    refine ⟨.ref s.heap.objs.size, _, J, rfl, ⟨_, x, rfl, I.hok.fresh (Nat.le_refl _), rfl, fun ys isY => by rw [I.tuple_inj isY isT]; exact isX⟩, ⟨⟨u, ?_⟩, next.1.at fun o q => (same.2 it n1.symm).trans q⟩, fun b hb => ?_⟩
    · rw [show ((i + 1 : Nat) : Int) = (i : Int) + 1 by omega]
      exact back
    · have low : b < s.heap.objs.size := by
        rcases List.mem_cons.mp hb with q | q
        · rw [q]; exact e1
        · rw [List.mem_singleton.mp q]; exact e2
      rw [upd_ne (Nat.ne_of_lt low)]
      exact (hf b hb).1
  done := by
    rintro X hP hw hK hc i pins s σ H E I hf ⟨⟨_, there⟩, iter⟩ hg
    subst hP hw hK
    obtain ⟨xs, isT, past⟩ := hg
    obtain ⟨its, rv, tup, _⟩ := I.tuple isT
    have same := rv.length
    have Dr := Draws.tuple (prog := X.prog) (w := X.w) (A := X.A.in1) (I.ok.hd hc) it a n2 its.toArray
    have out : its.toArray[i]? = none := by simp; omega
    refine wpAny_pyNext_enum_endT (I.ok.hd hc) there iter tup out fun h' far => ⟨rfl, ?_⟩
    exact I.turnedL (t' := s.toks) (ch := [e, it]) (fun b o nb q => far b o (fun z => nb (by simp [z])) q) hf
  self := fun A i s Q E st h => st.1.elim fun _ there => wpAny_pyIter_enum there h
def iEnumT (K : PySem.W.Frag) (ta : TA) : TI := fun σ H R => ta σ H fun vs H1 => ∃ a xs, vs = [.ref a] ∧ SqT K H1 a xs ∧ R (IteT K a) H1
theorem pi_enumT {X : Cx} {e : Expr} {ta : TA} {p pos tpos : Pos} {elts : List Expr} {kk : Nat} (hg : Gl X "enumerate") (hm : X.mg "enumerate" = none) (ha : PA X [e] ta) (one : starEach [e] X.env = [(false, eval e X.env)] := by rfl) :
    PI X (.Tuple elts kk tpos) (.Call (.Name "enumerate" p) [e] [] pos) (iEnumT X.K ta) := by
  constructor
  intro pins s σ H R I h
  refine Call_ (ld_blt I hg hm boot_enumerate (PyProof.Rows.callWith_type1 (thn (ha.run pos pins s σ H _ I h) fun us s1 ⟨vs, H1, I1, r1, a, xs, ev, isT, q⟩ => ?_) one rfl))
  subst ev
  obtain ⟨arg, rfl, ru⟩ := vals1 r1
  obtain rfl : arg = Value.ref a := ru
  obtain ⟨its, rv, tup, _⟩ := I1.tuple isT
  have low : a < s1.heap.objs.size := tup.elim fun _ q => Heap.lt_size q.1
  refine enum_made tup fun h' there iter kept => wpAny_pyIter_enum there ?_
  have J : Inv X pins σ H1 { s1 with heap := h' } := I1.kept (t' := s1.toks) kept
  refine ⟨s1.heap.objs.size + 1, [s1.heap.objs.size + 1, s1.heap.objs.size], _, _, H1, rfl, J, enumT_turn a (s1.heap.objs.size + 1) s1.heap.objs.size (Nat.succ_ne_self _) (Nat.ne_of_lt low) (fun z => absurd low (by rw [← z]; exact Nat.not_lt.mpr (Nat.le_succ _))), ⟨⟨.none, there⟩, iter⟩, fun b hb => ?_, q⟩
  have up : s1.heap.objs.size ≤ b := by
    rcases List.mem_cons.mp hb with at1 | at0
    · rw [at1]; exact Nat.le_succ _
    · rw [List.mem_singleton.mp at0]; exact Nat.le_refl _
  exact I1.fpOk up (I1.hok.fresh up)
/-- the walk over enumerate(tuple) -/
theorem for_enumT {K : PySem.W.Frag} {a : Addr} {xs : List V} {g : TG} {tb : TS} {D : Ends} {σ : L2.St} {H : Hp} (Pv : Nat → L2.St → Hp → Prop) (h0 : Pv 0 σ H) (hq : ∀ i σ H, Pv i σ H → SqT K H a xs)
    (hs : ∀ (i : Nat) (x : V) (t : Addr) (σ : L2.St) (H : Hp), xs[i]? = some x → Pv i σ H → H t = none → g (.ref t) σ (upd H t (.tup [.int (i : Nat), x])) fun σ2 H2 => tb { D with nx := Pv (i + 1), ct := Pv (i + 1), bk := D.nx } σ2 H2) (hd : ∀ σ H, Pv xs.length σ H → D.nx σ H) :
    ∃ W : Nat → Nat → L2.St → Hp → Prop, (∃ m, W 0 m σ H) ∧ ∀ i m σ H, W i m σ H → ((IteT K a).stop i H ∧ D.nx σ H) ∨ ((IteT K a).go i H ∧ ∃ N : L2.St → Hp → Prop, (∀ σ' H', N σ' H' → ∃ m', m' < m ∧ W (i + 1) m' σ' H') ∧ ∀ v H', (IteT K a).yld i H v H' → g v σ H' fun σ2 H2 => tb { D with nx := N, ct := N, bk := D.nx } σ2 H2) := by
  refine ⟨fun i m σ H => m = xs.length - i ∧ i ≤ xs.length ∧ Pv i σ H, ⟨_, rfl, Nat.zero_le _, h0⟩, ?_⟩
  rintro i m σ H ⟨rfl, le, here⟩
  have isT := hq i σ H here
  by_cases last : i = xs.length
  · subst last
    exact .inl ⟨⟨xs, isT, Nat.le_refl _⟩, hd σ H here⟩
  · have lt : i < xs.length := by omega
    refine .inr ⟨⟨xs, xs[i], isT, List.getElem?_eq_getElem lt⟩, Pv (i + 1), fun σ' H' n => ⟨xs.length - (i + 1), by omega, rfl, by omega, n⟩, ?_⟩
    rintro v H' ⟨t, x, rfl, nt, rfl, isX⟩
    exact hs i x t σ H (isX xs isT) here nt
end Bw
namespace Bw
open PySem PySem.Spec PyProof.Rows L2 GxR
/-! ### the program: kinds -/
/-- a def whose code object is known -/
structure Dc (K : PySem.W.Frag) (mg : Str → Option Value) (x : Str) (st : Stmt) (ps : List Str) (f : Addr) (fd : FuncData) (c : Addr) : Prop where
  D : Df K mg x st ps f fd
  ex : ∃ (oc : Value) (od : Option Addr) (kV doc pm : Value) (an : Option Addr) (ct : Value) (osl : Array (Option Value)),
    fd = PySem.W.fnOf x x (defArgs st) (defBody st) (defScope st) .none kV doc pm an (.ref c) ct ∧ K.lookup f = some ⟨oc, od, .func fd, osl⟩ ∧ PySem.W.codeIn K (.ref c) x = true
section
variable {base : Heap} {K : PySem.W.Frag} {mg : Str → Option Value} {P : Program} {w : World}
theorem Dc.ok {x : Str} {st : Stmt} {f c : Addr} {fd : FuncData} {N ps : List Str} {k : Nat} {sp : Sp} (F : Dc K mg x st ps f fd c) (S : FnScope N ps (defScope st)) (len : ∀ vs H Q E, sp vs H Q E → vs.length = ps.length)
    (body : ∀ (A : Around) (outer : List Env) (s : Shared) (H : Hp) (vs : List V) (Q : VK) (E : XK), Room k (A.deeper (envOfC x (defScope st) s.heap.objs.size f (.ref c))) → sp vs H Q E →
      ∃ t, PSs (cxOf CX0 P w K mg base N x (defScope st) f (.ref c) A outer s H E).nox (defBody st) t ∧ t { nx := fun _ H' => Q .non H', rt := Q } (start N vs) H) : FnOk P w K mg base CX0 (k + 1) f fd ps sp := by
  obtain ⟨oc, od, kV, doc, pm, an, ct, osl, same, lk, hcd⟩ := F.ex
  subst same
  refine fn_of lk hcd S len fun A outer s H vs Q E room here => ?_
  exact (body A outer s H vs Q E room here).elim fun t z => ⟨t, z.1.nox, z.2⟩
/-- the program's numbers -/
structure Gk (mg : Str → Option Value) : Prop where
  value : ∃ t, mg "VALUE_MOST" = some (.int 999 t)
  names : ∃ t, mg "NAMES_MOST" = some (.int 8 t)
  rows : ∃ t, mg "ROWS_MOST" = some (.int 24 t)
  fuel : ∃ t, mg "FUEL_MOST" = some (.int 1000 t)
  rest : ∃ t, mg "REST_BY" = some (.int 1000 t)
theorem pe_num {X : Cx} {x : Str} {i : Int} {pos : Pos} (h : ∃ t, X.mg x = some (.int i t)) (hg : Gl X x := by rfl) (hd : (x == ("__debug__" : Str)) = false := by decide) : PE X (.Name x pos) (tC (.int i)) :=
  h.elim fun t e => pe_glob hg e ⟨t, rfl⟩ hd
/-! is_number, of an int -/
def spNum : Sp := fun vs H Q _ => ∃ v lo hi : Int, vs = [.int v, .int lo, .int hi] ∧ Q (.bl (decide (lo ≤ v) && decide (v ≤ hi))) H
theorem scNum : FnScope ["value", "low", "high"] ["value", "low", "high"] (defScope s_is_number) := ⟨rfl, rfl, rfl, by decide +kernel, rfl, by decide +kernel, by decide +kernel⟩
theorem ok_num {f : Addr} {fd : FuncData} (D : Df K mg "is_number" s_is_number ["value", "low", "high"] f fd) (B : Bt mg) : FnOk P w K mg base CX0 1 f fd ["value", "low", "high"] spNum := by
  refine D.F.ok scNum (fun vs H Q E h => ?_) (fun cdv A outer s H vs Q E hr h => ?_)
  · obtain ⟨v, lo, hi, rfl, _⟩ := h
    rfl
  · obtain ⟨v, lo, hi, rfl, q⟩ := h
    refine ⟨_, pss_one (ps_ret (pe_and (pe_callB call_isi (by rfl) B.isinstance (by decide +kernel) (pa_cons (pv 0) (pa_cons (pe_bltn (v := .ty "int") (by rfl) B.int (by decide +kernel) rfl) pa_nil)))
      (pe_and (pe_not (pe_callB call_isi (by rfl) B.isinstance (by decide +kernel) (pa_cons (pv 0) (pa_cons (pe_bltn (v := .ty "bool") (by rfl) B.bool (by decide +kernel) rfl) pa_nil))))
      (pe_one (pe_chain op_le op_le (pv 1) (pv 0) (pv 2)))))), ?_⟩
    refine ⟨_, rfl, _, _, _, _, true, rfl, .ty "int", .base (.int v), kit_ty (by decide +kernel), _, rfl, iteT ?_⟩
    refine ⟨_, rfl, _, _, _, _, false, rfl, .ty "bool", .base (.int v), kit_ty (by decide +kernel), _, rfl, _, rfl, iteT ?_⟩
    refine ⟨_, rfl, _, rfl, _, _, rfl, rfl, ⟨decide (lo ≤ v), rfl, ?_⟩⟩
    by_cases e : lo ≤ v
    · rw [decide_eq_true e] at q ⊢
      refine iteT ⟨_, rfl, _, _, rfl, rfl, ?_⟩
      rw [Bool.true_and] at q
      exact q
    · rw [decide_eq_false e] at q ⊢
      exact iteF q
/-! is_tuple_of, of a tuple -/
def spTupOf (K : PySem.W.Frag) : Sp := fun vs H Q _ => ∃ (a : Addr) (xs : List V) (n : Int), vs = [.ref a, .int n] ∧ SqT K H a xs ∧ Q (.bl (decide ((xs.length : Int) = n))) H
theorem scTupOf : FnScope ["value", "many"] ["value", "many"] (defScope s_is_tuple_of) := ⟨rfl, rfl, rfl, by decide +kernel, rfl, by decide +kernel, by decide +kernel⟩
theorem ok_tupOf {f : Addr} {fd : FuncData} (D : Df K mg "is_tuple_of" s_is_tuple_of ["value", "many"] f fd) (B : Bt mg) : FnOk P w K mg base CX0 1 f fd ["value", "many"] (spTupOf K) := by
  refine D.F.ok scTupOf (fun vs H Q E h => ?_) (fun cdv A outer s H vs Q E hr h => ?_)
  · obtain ⟨a, xs, n, rfl, _⟩ := h
    rfl
  · obtain ⟨a, xs, n, rfl, hT, q⟩ := h
    refine ⟨_, pss_one (ps_ret (pe_and (pe_callB call_isi (by rfl) B.isinstance (by decide +kernel) (pa_cons (pv 0) (pa_cons (pe_bltn (v := .ty "tuple") (by rfl) B.tuple (by decide +kernel) rfl) pa_nil)))
      (pe_one (pe_cmpR op_eq (pe_callB call_len_seq (by rfl) B.len PySem.boot_len (pa_cons (pv 0) pa_nil)) (pv 1) (nomark _))))), ?_⟩
    refine ⟨_, rfl, _, _, _, _, true, rfl, .ty "tuple", tyT hT, kit_ty (by decide +kernel), _, rfl, iteT ?_⟩
    refine ⟨_, rfl, a, _, rfl, .inr hT, _, rfl, rfl, ?_⟩
    by_cases e : (xs.length : Int) = n
    · subst e
      rw [decide_eq_true rfl] at q ⊢
      exact q
    · rw [decide_eq_false e] at q
      rw [decide_eq_false (fun z => e (V.int.inj z))]
      exact q
end
end Bw
namespace Bw
open PySem PySem.Spec PyProof.Rows L2 GxR Gx RZ
theorem gx_zipT {K : PySem.W.Frag} {a b : Addr} {xs ys : List V} {g : TG} {tt : TT} {te : TE} {vs : List Nat} {σ : L2.St} {G : GP} {H : Hp} (same : xs.length = ys.length) (Pv : Nat → List V → Hp → Prop) (h0 : Pv 0 [] H) (hl : ∀ i acc H, Pv i acc H → SqT K H a xs ∧ SqT K H b ys)
    (hs : ∀ i x y t acc H, xs[i]? = some x → ys[i]? = some y → Pv i acc H → H t = none → g (.ref t) (wipe σ vs) (upd H t (.tup [x, y])) fun σ2 H2 => wipe σ2 vs = wipe σ vs ∧ tt σ2 H2 fun c H3 => if c = true then te σ2 H3 fun y H4 => G.Yq acc y H4 ∧ (G.Rq y → Pv (i + 1) (acc ++ [y]) H4) else Pv (i + 1) acc H3)
    (hd : ∀ acc H, Pv xs.length acc H → G.En acc H) : ∃ W : Nat → Nat → List V → Hp → Prop, (∃ m, W 0 m [] H) ∧ GxW (ItzT K a b) g tt te vs σ G W := by
  refine ⟨fun i m acc H => m = xs.length - i ∧ i ≤ xs.length ∧ Pv i acc H, ⟨_, rfl, Nat.zero_le _, h0⟩, ?_⟩
  rintro i m acc H ⟨rfl, le, here⟩
  obtain ⟨isT, isU⟩ := hl i acc H here
  by_cases last : i = xs.length
  · subst last
    exact .inl ⟨⟨xs, ys, isT, isU, .inl (Nat.le_refl _)⟩, hd acc H here⟩
  · have lt : i < xs.length := by omega
    have lt2 : i < ys.length := by omega
    refine .inr ⟨⟨xs, ys, xs[i], ys[i], isT, isU, List.getElem?_eq_getElem lt, List.getElem?_eq_getElem lt2⟩, Pv (i + 1), fun acc' H' n => ⟨xs.length - (i + 1), by omega, rfl, by omega, n⟩, ?_⟩
    rintro v H' ⟨t, x, y, rfl, nt, rfl, isX, isY⟩
    exact hs i x y t acc H (isX xs isT) (isY ys isU) here nt
section
variable {base : Heap} {K : PySem.W.Frag} {mg : Str → Option Value} {P : Program} {w : World}
theorem Ext.sqT {m : Addr → Prop} {H H' : Hp} (e : Ext m H H') {a : Addr} {xs : List V} (n : ¬ m a) (h : SqT K H a xs) : SqT K H' a xs := by
  rcases h with (h | ⟨locked, h⟩) | h
  · exact .inl (.inl (e.tup _ _ h))
  · exact .inl (.inr ⟨locked, e.oth a _ n (fun _ z => by cases z) h⟩)
  · exact .inr h
end
end Bw
namespace Bw
open PySem PySem.Spec PyProof.Rows L2 GxR Gx RZ
mutual
theorem Td.growP {M M' : Addr → Prop} {H : Hp} (n : ∀ a, M' a → M a ∨ H a = none) : ∀ {v : V} {d : PyData}, Td M H v d → Td M' H v d
  | _, _, .non => .non
  | _, _, .bl b => .bl b
  | _, _, .int i => .int i
  | _, _, .str z => .str z
  | _, _, .tup h all => .tup h (TdAll.growP n all)
  | _, _, .lst k h all => .lst (fun z => (n _ z).elim k fun e => by rw [e] at h; cases h) h (TdAll.growP n all)
theorem TdAll.growP {M M' : Addr → Prop} {H : Hp} (n : ∀ a, M' a → M a ∨ H a = none) : ∀ {vs : List V} {ds : List PyData}, TdAll M H vs ds → TdAll M' H vs ds
  | _, _, .nil => .nil
  | _, _, .cons h t => .cons (Td.growP n h) (TdAll.growP n t)
end
/-! ### targets -/
def Tgt (c : Cw) (M : Addr → Prop) (g : TG) (own : List Nat) (d : PyData) (Γ Γ' : List Sl) : Prop :=
  ∀ (x : V) (σ : L2.St) (H : Hp) (Q : L2.St → Hp → Prop), Rp c M H σ Γ → Td M H x d → (∀ σ', Rp c M H σ' Γ' → σ'.length = σ.length → (∀ j, j ∉ own → σ'[j]? = σ[j]?) → Q σ' H) → g x σ H Q
theorem set_other {α : Type} {l : List α} {i j : Nat} {a : α} (h : j ≠ i) : (l.set i a)[j]? = l[j]? := List.getElem?_set_ne (Ne.symm h)
theorem Rp.setD {c : Cw} {M : Addr → Prop} {H : Hp} {σ : L2.St} {Γ : List Sl} (i : Nat) {v : V} {d : PyData} (h : Rp c M H σ Γ) (k : Td M H v d) : Rp c M H (σ.set i (some v)) (Γ.set i (.d d)) := h.set (s := .d d) i ⟨v, rfl, k⟩
section
variable {c : Cw} {M : Addr → Prop} {Γ : List Sl} {K : PySem.W.Frag}
theorem tg_name (i : Nat) {d : PyData} : Tgt c M (gName i) [i] d Γ (Γ.set i (.d d)) := fun x σ H Q r t q =>
  q _ (r.setD i t) (List.length_set ..) fun j hj => set_other fun z => hj (by rw [z]; exact List.mem_cons_self ..)
theorem TdAll.two {H : Hp} {vs : List V} {d e : PyData} (h : TdAll M H vs [d, e]) : ∃ v u, vs = [v, u] ∧ Td M H v d ∧ Td M H u e := by
  cases h with
  | cons a t => cases t with
    | cons b t => cases t; exact ⟨_, _, rfl, a, b⟩
theorem TdAll.three {H : Hp} {vs : List V} {d e f : PyData} (h : TdAll M H vs [d, e, f]) : ∃ v u w, vs = [v, u, w] ∧ Td M H v d ∧ Td M H u e ∧ Td M H w f := by
  cases h with
  | cons a t => cases t with
    | cons b t => cases t with
      | cons z t => cases t; exact ⟨_, _, _, rfl, a, b, z⟩
theorem tg_two (i j : Nat) {d e : PyData} : Tgt c M (gTup K 2 (gCons (gName i) (gCons (gName j) gNil))) [i, j] (.tuple [d, e]) Γ ((Γ.set i (.d d)).set j (.d e)) := fun x σ H Q r t q => by
  obtain ⟨a, vs, rfl, ha, all⟩ := t.tupE
  obtain ⟨v, u, rfl, tv, tu⟩ := all.two
  refine ⟨a, _, rfl, SqT.of ha, rfl, v, [u], rfl, u, [], rfl, rfl, q _ ((r.setD i tv).setD j tu) (by rw [List.length_set, List.length_set]) fun k hk => ?_⟩
  rw [set_other fun z => hk (by simp [z]), set_other fun z => hk (by simp [z])]
theorem tg_three (i j k : Nat) {d e f : PyData} : Tgt c M (gTup K 3 (gCons (gName i) (gCons (gName j) (gCons (gName k) gNil)))) [i, j, k] (.tuple [d, e, f]) Γ (((Γ.set i (.d d)).set j (.d e)).set k (.d f)) := fun x σ H Q r t q => by
  obtain ⟨a, vs, rfl, ha, all⟩ := t.tupE
  obtain ⟨v, u, w, rfl, tv, tu, tw⟩ := all.three
  refine ⟨a, _, rfl, SqT.of ha, rfl, v, [u, w], rfl, u, [w], rfl, w, [], rfl, rfl, q _ (((r.setD i tv).setD j tu).setD k tw) (by rw [List.length_set, List.length_set, List.length_set]) fun n hn => ?_⟩
  rw [set_other fun z => hn (by simp [z]), set_other fun z => hn (by simp [z]), set_other fun z => hn (by simp [z])]
end
/-! the comprehension's own slots -/
def wipeG (Γ : List Sl) : List Nat → List Sl
  | [] => Γ
  | v :: vs => (wipeG Γ vs).set v .any
theorem Rp.wipe {c : Cw} {M : Addr → Prop} {H : Hp} {σ : L2.St} {Γ : List Sl} (h : Rp c M H σ Γ) : ∀ vs : List Nat, Rp c M H (L2.wipe σ vs) (wipeG Γ vs)
  | [] => h
  | v :: vs => (Rp.wipe h vs).set v trivial
theorem wipe_get (σ : L2.St) : ∀ (vs : List Nat) (j : Nat), j ∉ vs → (L2.wipe σ vs)[j]? = σ[j]?
  | [], _, _ => rfl
  | v :: vs, j, h => by
    show ((L2.wipe σ vs).set v none)[j]? = _
    rw [set_other fun z => h (by simp [z])]
    exact wipe_get σ vs j fun z => h (List.mem_cons_of_mem _ z)
theorem wipe_in (σ : L2.St) : ∀ (vs : List Nat) (j : Nat), j ∈ vs → j < σ.length → (L2.wipe σ vs)[j]? = some none
  | [], _, h, _ => by cases h
  | v :: vs, j, h, lt => by
    show ((L2.wipe σ vs).set v none)[j]? = _
    by_cases e : j = v
    · subst e
      rw [List.getElem?_set_self (by rw [wipe_length]; exact lt)]
    · rw [set_other e]
      exact wipe_in σ vs j ((List.mem_cons.mp h).resolve_left e) lt
theorem wipe_eq {σ σ' : L2.St} {vs : List Nat} (len : σ'.length = σ.length) (h : ∀ j, j ∉ vs → σ'[j]? = (L2.wipe σ vs)[j]?) : L2.wipe σ' vs = L2.wipe σ vs := by
  apply List.ext_getElem?
  intro j
  by_cases m : j ∈ vs
  · by_cases lt : j < σ.length
    · rw [wipe_in σ' vs j m (by rw [len]; exact lt), wipe_in σ vs j m lt]
    · rw [List.getElem?_eq_none (by rw [wipe_length, len]; omega), List.getElem?_eq_none (by rw [wipe_length]; omega)]
  · rw [wipe_get σ' vs j m, h j m]
/-! ### what is walked -/
structure Wd (m M : Addr → Prop) (J : It) (H1 : Hp) (ds : List PyData) : Prop where
  go : ∀ (M' : Addr → Prop) (i : Nat) (H : Hp) (d : PyData), (∀ a, M a → M' a) → (∀ a, M' a → M a ∨ H1 a = none) → Ext m H1 H → ds[i]? = some d → J.go i H ∧ ∀ x H', J.yld i H x H' → Td M' H' x d ∧ Ext no H H'
  stop : ∀ (i : Nat) (H : Hp), Ext m H1 H → ds.length ≤ i → J.stop i H
def tIt (c : Cw) (M m : Addr → Prop) (Γ : List Sl) (ds : List PyData) : TI := fun σ H R => Rp c M H σ Γ ∧ ∀ J H', Wd m M J H' ds → Ext c.mx H H' → c.Bx H' → R J H'
abbrev PIt (X : Cx) (c : Cw) (M m : Addr → Prop) (Γ : List Sl) (tg iter : Expr) (ds : List PyData) : Prop := PI X tg iter (tIt c M m Γ ds)
section
variable {X : Cx} {c : Cw} {M m : Addr → Prop} {Γ : List Sl} {tg : Expr}
theorem wk_tup {K : PySem.W.Frag} {H : Hp} {a : Addr} {vs : List V} {ds : List PyData} (s : ∀ x, m x → M x) (ha : H a = some (.tup vs)) (all : TdAll M H vs ds) : Wd m M (Itt K a) H ds :=
  ⟨fun M' i H1 d up new x hd => by
    obtain ⟨v, ev, tv⟩ := ((all.growP new).ext x fun a z => up a (s a z)).get hd
    refine ⟨⟨vs, v, SqT.of (x.tup _ _ ha), ev⟩, fun y H' ⟨e, h⟩ => ?_⟩
    subst e
    obtain rfl : y = v := Option.some.inj ((h vs (SqT.of (x.tup _ _ ha))).symm.trans ev)
    exact ⟨tv, Ext.refl _ _⟩,
   fun i H1 x le => ⟨vs, SqT.of (x.tup _ _ ha), by rw [all.len]; exact le⟩⟩
theorem wk_lst {K : PySem.W.Frag} {H : Hp} {a : Addr} {vs : List V} {ds : List PyData} (s : ∀ x, m x → M x) (na : ¬ m a) (ha : H a = some (.lst vs)) (all : TdAll M H vs ds) : Wd m M (Itl K a) H ds :=
  ⟨fun M' i H1 d up new x hd => by
    obtain ⟨v, ev, tv⟩ := ((all.growP new).ext x fun a z => up a (s a z)).get hd
    refine ⟨⟨vs, v, SqL.of (x.lst na ha), ev⟩, fun y H' ⟨e, h⟩ => ?_⟩
    subst e
    obtain rfl : y = v := Option.some.inj ((h vs (SqL.of (x.lst na ha))).symm.trans ev)
    exact ⟨tv, Ext.refl _ _⟩,
   fun i H1 x le => ⟨vs, SqL.of (x.lst na ha), by rw [all.len]; exact le⟩⟩
abbrev intsFrom (lo : Int) (n : Nat) : List PyData := (List.range n).map fun (i : Nat) => PyData.int (lo + (i : Int))
theorem wk_rng {H : Hp} (lo : Int) (n : Nat) : Wd m M (Itr lo n) H (intsFrom lo n) :=
  ⟨fun M' i H1 d up new x hd => by
    rw [List.getElem?_map] at hd
    have lt : i < n := by
      by_cases h : i < n
      · exact h
      · rw [List.getElem?_eq_none (by rw [List.length_range]; omega)] at hd
        cases hd
    rw [List.getElem?_range lt] at hd
    cases hd
    refine ⟨lt, fun y H' ⟨e, h⟩ => ?_⟩
    subst e
    subst h
    exact ⟨.int _, Ext.refl _ _⟩,
   fun i H1 x le => by
    rw [List.length_map, List.length_range] at le
    exact le⟩
theorem it_tup {e : Expr} {ds : List PyData} (s : ∀ x, m x → M x) (h : PD X c M Γ e (.tuple ds)) : PIt X c M m Γ tg e ds := (pi_tup h).mono fun σ H R ⟨r, q⟩ => ⟨r, fun v H1 hv x1 b1 => by
  obtain ⟨a, vs, rfl, ha, all⟩ := hv.tupE
  exact ⟨a, rfl, ⟨vs, SqT.of ha⟩, q _ _ (wk_tup s ha all) x1 b1⟩⟩
theorem it_lst {e : Expr} {ds : List PyData} (s : ∀ x, m x → M x) (h : PD X c M Γ e (.list ds)) : PIt X c M m Γ tg e ds := (pi_list h).mono fun σ H R ⟨r, q⟩ => ⟨r, fun v H1 hv x1 b1 => by
  obtain ⟨a, vs, rfl, na, ha, all⟩ := hv.lstE
  exact ⟨a, rfl, ⟨vs, SqL.of ha⟩, q _ _ (wk_lst s (fun z => na (s _ z)) ha all) x1 b1⟩⟩
theorem it_range {e : Expr} {n : Nat} {p pos : Pos} (hm : X.mg "range" = none) (h : PD X c M Γ e (.int n)) (few : n < 2 ^ 60) (he : starEach [e] X.env = (false, eval e X.env) :: starEach [] X.env := by rfl) (hg : Gl X "range" := by rfl) : PIt X c M m Γ tg (.Call (.Name "range" p) [e] [] pos) (intsFrom 0 n) :=
  PI.mono (pi_range1 hg hm (ar_d h ar_nil he) (by rw [he]; rfl)) fun σ H R ⟨r, q⟩ => ⟨r, fun vs H1 hvs x1 b1 => by
    obtain ⟨v, rfl, t⟩ := hvs.one_d
    rw [t.intE]
    refine ⟨n, rfl, by omega, by omega, ?_⟩
    have := q (Itr 0 n) H1 (wk_rng 0 n) x1 b1
    rwa [show ((n : Int)).toNat = n from Int.toNat_natCast n]⟩
abbrev enumD (ds : List PyData) : List PyData := ds.zipIdx.map fun p => PyData.tuple [.int (p.2 : Nat), p.1]
theorem enumD_get {ds : List PyData} {i : Nat} {d : PyData} (h : (enumD ds)[i]? = some d) : ∃ e, ds[i]? = some e ∧ d = .tuple [.int (i : Nat), e] := by
  rw [List.getElem?_map, List.getElem?_zipIdx] at h
  cases e : ds[i]? with
  | none => simp [e] at h
  | some x => rw [e] at h; cases h; exact ⟨x, rfl, by simp⟩
theorem wk_enumT {K : PySem.W.Frag} {H : Hp} {a : Addr} {vs : List V} {ds : List PyData} (s : ∀ x, m x → M x) (ha : H a = some (.tup vs)) (all : TdAll M H vs ds) : Wd m M (IteT K a) H (enumD ds) :=
  ⟨fun M' i H1 d up new x hd => by
    have ha1 := SqT.of (K := K) (x.tup _ _ ha)
    obtain ⟨e, e1, rfl⟩ := enumD_get hd
    obtain ⟨v, ev, tv⟩ := ((all.growP new).ext x fun a z => up a (s a z)).get e1
    refine ⟨⟨vs, v, ha1, ev⟩, fun y H' ⟨T, x', e, nT, eH, k1⟩ => ?_⟩
    subst e
    subst eH
    obtain rfl : x' = v := Option.some.inj ((k1 _ ha1).symm.trans ev)
    have xn : Ext no H1 (upd H1 T (.tup [.int (i : Nat), x'])) := Ext.new nT
    exact ⟨.tup upd_same (.cons (.int _) (.cons (tv.ext xn fun _ z => z.elim) .nil)), xn⟩,
   fun i H1 x le => ⟨vs, SqT.of (x.tup _ _ ha), by rw [all.len]; simpa using le⟩⟩
theorem it_enumT {e : Expr} {ds : List PyData} {p pos tpos : Pos} {elts : List Expr} {kk : Nat} (s : ∀ x, m x → M x) (hm : X.mg "enumerate" = none) (h : PD X c M Γ e (.tuple ds)) (he : starEach [e] X.env = (false, eval e X.env) :: starEach [] X.env := by rfl) (hs : starEach [e] X.env = [(false, eval e X.env)] := by rfl) (hg : Gl X "enumerate" := by rfl) :
    PIt X c M m Γ (.Tuple elts kk tpos) (.Call (.Name "enumerate" p) [e] [] pos) (enumD ds) := PI.mono (pi_enumT hg hm (ar_d h ar_nil he) hs) fun σ H R ⟨r, q⟩ => ⟨r, fun vs H1 hvs x1 b1 => by
    obtain ⟨v, rfl, t⟩ := hvs.one_d
    obtain ⟨a, vs, rfl, ha, all⟩ := t.tupE
    exact ⟨a, vs, rfl, SqT.of ha, q _ _ (wk_enumT s ha all) x1 b1⟩⟩
end
end Bw
namespace Bw
open PySem PySem.Spec PyProof.Rows L2 GxR Gx RZ
/-! ### comprehensions over things -/
abbrev kept (p : PyData → Bool) (f : PyData → PyData) (ds : List PyData) : List PyData := (ds.filter p).map f
theorem kept_step {p : PyData → Bool} {f : PyData → PyData} {ds : List PyData} {i : Nat} {d : PyData} (h : ds[i]? = some d) : kept p f (ds.take (i + 1)) = if p d = true then kept p f (ds.take i) ++ [f d] else kept p f (ds.take i) := by
  unfold kept
  rw [List.take_add_one, h]
  rw [List.filter_append]
  by_cases e : p d = true
  · rw [if_pos e]
    simp [List.filter, e]
  · rw [if_neg e]
    simp [List.filter, e]
theorem kept_len {p : PyData → Bool} {f : PyData → PyData} {ds : List PyData} (i : Nat) : (kept p f (ds.take i)).length ≤ ds.length := by
  unfold kept
  rw [List.length_map]
  exact Nat.le_trans (List.length_filter_le ..) (by rw [List.length_take]; omega)
section
variable {X : Cx} {c : Cw} {M : Addr → Prop} {Γ : List Sl}
/-- the reading of [elt for tg in iter if ..] -/
theorem lc_read {own : List (Str × Nat)} {g : TG} {ds : List PyData} {p : PyData → Bool} {f : PyData → PyData} {Γ' : PyData → List Sl} (tgt : ∀ M', ∀ d ∈ ds, Tgt c M' g (own.map (·.2)) d Γ (Γ' d)) (few : ds.length < sizeLine) (hw : wipeG Γ (own.map (·.2)) = Γ) (σ : L2.St) (H : Hp) (Q : VK)
    (h : tV c M Γ (isN M (kept p f ds)) σ H Q) : tLc (tIt c M c.mx Γ ds) g (fun σ H Q => ∃ q : (Addr → Prop) × PyData, ((∀ a, M a → q.1 a) ∧ q.2 ∈ ds) ∧ tQ c q.1 (Γ' q.2) (p q.2) σ H Q)
      (fun σ H Q => ∃ q : (Addr → Prop) × PyData, ((∀ a, M a → q.1 a) ∧ q.2 ∈ ds ∧ p q.2 = true) ∧ tV c q.1 (Γ' q.2) (isD q.1 (f q.2)) σ H Q) (own.map (·.2)) σ H Q := by
  obtain ⟨r, q⟩ := h
  refine ⟨r, fun J H1 wk x1 b1 => fun D nD => ?_⟩
  have nmx : ¬ c.mx D := fun z => r.al D (r.sub D z) (x1.dom D nD)
  have r1 : Rp c (plus M D) (upd H1 D (.lst [])) σ Γ := (r.ext x1 b1).plus nD
  have nl : ∀ a xs k, Sl.l a xs k ∈ Γ → ¬ a = D := fun a xs k h z => r.al a (r.sl.out a xs k h).2 (x1.dom a (by rw [z]; exact nD))
  have up : ∀ a, M a → plus M D a := fun a z => .inl z
  refine ⟨fun i mm H2 => mm = ds.length - i ∧ i ≤ ds.length ∧ Rp c (plus M D) H2 σ Γ ∧ Ext c.mx H1 H2 ∧ ∃ vs, H2 D = some (.lst vs) ∧ TdAll (plus M D) H2 vs (kept p f (ds.take i)), ⟨_, rfl, Nat.zero_le _, r1, Ext.new nD, [], upd_same, .nil⟩, ?_⟩
  rintro i mm H2 ⟨rfl, hi2, r2, x2, vs, hD, all⟩
  by_cases last : i = ds.length
  · subst last
    rw [List.take_length] at all
    exact .inl ⟨wk.stop _ _ x2 (Nat.le_refl _), q _ _ ⟨D, vs, rfl, x1.dom D nD, hD, all⟩ (x1.trans x2) r2.bx⟩
  · have lt : i < ds.length := by omega
    have ed : ds[i]? = some ds[i] := List.getElem?_eq_getElem lt
    have md : ds[i] ∈ ds := List.getElem_mem lt
    generalize ds[i] = d at ed md
    obtain ⟨go, yl⟩ := wk.go (plus M D) i H2 d up (fun a z => z.imp_right fun e => by rw [e]; exact nD) x2 ed
    refine .inr ⟨go, fun H' => i + 1 ≤ ds.length ∧ Rp c (plus M D) H' σ Γ ∧ Ext c.mx H1 H' ∧ ∃ vs, H' D = some (.lst vs) ∧ TdAll (plus M D) H' vs (kept p f (ds.take (i + 1))), fun H' z => ⟨_, by omega, rfl, z⟩, fun x H3 y => ?_⟩
    obtain ⟨tx, x3⟩ := yl x H3 y
    have r3 := r2.ext0 x3
    have rw3 : Rp c (plus M D) H3 (L2.wipe σ (own.map (·.2))) Γ := by
      have := r3.wipe (own.map (·.2))
      rwa [hw] at this
    refine tgt _ d md x _ H3 _ rw3 tx fun σ' r' len same => ⟨wipe_eq (len.trans (wipe_length _ _)) same, (plus M D, d), ⟨up, md⟩, r', fun H4 x4 b4 => ?_⟩
    have hD4 := x4.lst nmx (x3.lst (fun z => z) hD)
    have all4 := (all.ext x3 (fun _ z => z.elim)).ext x4 r2.sub
    have X4 : Ext c.mx H1 H4 := (x2.trans x3.of0).trans x4
    rw [kept_step ed]
    by_cases e : p d = true
    · show if p d = true then _ else _
      rw [if_pos e, if_pos e]
      refine ⟨(plus M D, d), ⟨up, md, e⟩, r'.ext x4 b4, fun v H5 hv x5 b5 => ?_⟩
      have hD5 := x5.lst nmx hD4
      have xp : Ext (fun a => a = D) H5 (upd H5 D (.lst (vs ++ [v]))) := Ext.put hD5 rfl (fun _ z => by cases z) (fun _ z => by cases z)
      have inM : ∀ a, a = D → plus M D a := fun a z => .inr z
      refine ⟨vs, hD5, by rw [all.len]; exact Nat.lt_of_le_of_lt (kept_len i) few, lt, ((r3.ext x4 b4).ext x5 b5).extM xp inM nl (fun a z => by rw [z]; exact nmx), (X4.trans x5).own nD, _, upd_same, ?_⟩
      exact ((all4.ext x5 r2.sub).app (.cons hv .nil)).ext xp inM
    · show if p d = true then _ else _
      rw [if_neg e, if_neg e]
      exact ⟨lt, r3.ext x4 b4, X4, vs, hD4, all4⟩
/-- [elt for tg in iter if ..] -/
theorem pn_lc {elt tg iter : Expr} {ifs : List Expr} {scope : Scope} {own : List (Str × Nat)} {pos : Pos} {g : TG} {ds : List PyData} {p : PyData → Bool} {f : PyData → PyData} {Γ' : PyData → List Sl} (hc : X.calm = true) (hN : X.N.Nodup) (hi : PIt X c M c.mx Γ tg iter ds) (ok : BlkOk X.N X.env.scope scope own)
    (hg : ∀ (s : Shared) (H : Hp) (C : Addr) (cl : List (Str × Addr)) (fp : List Addr), PG (X.blk s H scope (compEnvC scope cl C X.env) fp) tg g) (tgt : ∀ M', ∀ d ∈ ds, Tgt c M' g (own.map (·.2)) d Γ (Γ' d))
    (ht : ∀ (s : Shared) (H : Hp) (C : Addr) (cl : List (Str × Addr)) (fp : List Addr), ∀ M', (∀ a, M a → M' a) → ∀ d ∈ ds, PTs (X.blk s H scope (compEnvC scope cl C X.env) fp) ifs (tQ c M' (Γ' d) (p d)))
    (he : ∀ (s : Shared) (H : Hp) (C : Addr) (cl : List (Str × Addr)) (fp : List Addr), ∀ M', (∀ a, M a → M' a) → ∀ d ∈ ds, p d = true → PD (X.blk s H scope (compEnvC scope cl C X.env) fp) c M' (Γ' d) elt (f d))
    (few : ds.length < sizeLine) (hw : wipeG Γ (own.map (·.2)) = Γ := by rfl) (hs : ∀ x, foldedSetIterable iter X.env x = pure x := by intro _; rfl) : PN X c M Γ (.ListComp elt [⟨tg, iter, ifs, 0⟩] scope pos) (kept p f ds) := 
  (pe_lc (g := g) hc hN hi ok hg (fun s H C cl fp => PTs.ex (C := fun q : (Addr → Prop) × PyData => (∀ a, M a → q.1 a) ∧ q.2 ∈ ds) fun q hq => ht s H C cl fp q.1 hq.1 q.2 hq.2)
    (fun s H C cl fp => PE.ex (C := fun q : (Addr → Prop) × PyData => (∀ a, M a → q.1 a) ∧ q.2 ∈ ds ∧ p q.2 = true) fun q hq => he s H C cl fp q.1 hq.1 q.2 hq.2.1 hq.2.2) hs).mono fun σ H Q h => lc_read tgt few hw σ H Q h
end
end Bw
namespace Nx
open L2 PyProof.Rows PySem PySem.Spec PySem.W
end Nx
set_option maxHeartbeats 3000000
namespace Gx
open PySem PySem.Spec PyProof.Rows L2 GxR GenW
theorem strs_of : ∀ {ws : List Str} {us : List Value}, Vals (ws.map V.str) us → ∃ l : List (Str × Tok), strValues l = us ∧ l.map (·.1) = ws
  | [], _, .nil => ⟨[], rfl, rfl⟩
  | w :: ws, _, .cons r rs => by
    obtain ⟨t, rfl⟩ := (show ∃ t, _ = Value.str w t from r)
    obtain ⟨l, h1, h2⟩ := strs_of rs
    exact ⟨(w, t) :: l, by rw [← h1]; rfl, by rw [← h2]; rfl⟩
theorem glue_gives (x : Str) (l : List (Str × Tok)) (hok : Builtin.Str.tooLong ((l.map (·.1)).toArray.foldl (· + ·.length + x.length) 0) = false) : Gives (joinTail x (strValues l)) (joinMade x l) := by
  have z := gives_joinTail x l hok
  rcases l with _ | ⟨p, _ | ⟨q, r⟩⟩ <;> exact z
section
variable {X : Cx}
/-- sep.join(elt for tg in iter if ..), texts -/
def tJoinGx (P : Addr) (to : TE) (wi : TI) (g : TG) (tt : TT) (te : TE) (vs : List Nat) : TE := fun σ H Q => to σ H fun v H0 => ∃ sep : Str, v = .str sep ∧ wi σ H0 fun J H1 => TabG H1 P ∧ ∀ H1', Tabbed P H1 H1' →
  ∃ W : Nat → Nat → List V → Hp → Prop, (∃ m, W 0 m [] H1') ∧ GxW J g tt te vs σ (gTupG 0 (fun ys H => ∃ ws : List Str, ys = ws.map V.str ∧ JoinOk sep ws = true ∧ Q (.str (Txt.join sep ws)) H)) W
theorem pe_joinGx {c P : Addr} {o elt tg iter : Expr} {ifs : List Expr} {scope : Scope} {own : List (Str × Nat)} {gpos apos cpos : Pos} {to : TE} {wi : TI} {g : TG} {tt : TT} {te : TE} {k : Nat}
    (hr : Room (k + 2) X.A) (TB : TabB X.base X.mg c P) (hcode : X.env.code = .ref c) (hN : X.N.Nodup) (ho : PE X o to) (hi : PI X tg iter wi) (ok : BlkOk X.N X.env.scope scope own)
    (hg : ∀ (A : Around) (s : Shared) (H : Hp) (C : Addr) (cl : List (Str × Addr)) (code : Value) (fp : List Addr) (pn : List (Addr × Obj)), Room k A → PG (gxC X A s H (genEnv scope cl C code builtinsNs X.env) fp pn) tg g)
    (ht : ∀ (A : Around) (s : Shared) (H : Hp) (C : Addr) (cl : List (Str × Addr)) (code : Value) (fp : List Addr) (pn : List (Addr × Obj)), Room k A → PTs (gxC X A s H (genEnv scope cl C code builtinsNs X.env) fp pn) ifs tt)
    (he : ∀ (A : Around) (s : Shared) (H : Hp) (C : Addr) (cl : List (Str × Addr)) (code : Value) (fp : List Addr) (pn : List (Addr × Obj)), Room k A → PE (gxC X A s H (genEnv scope cl C code builtinsNs X.env) fp pn) elt te)
    (hcell : ∀ y ∈ scope.names, y.2 ≠ .cell := by decide) (h0 : scope.names.lookup (".0" : Str) = some NameKind.local := by rfl) (hco : scope.isCoroutine = false := by rfl) (hs : ∀ v, genFold iter X.env v = pure v := by intro _; rfl)
    (hbase : attributeBase o "join" X.env (eval o X.env) = eval o X.env := by rfl)
    (hfew : ((backTo cpos (starEach [.GeneratorExp elt [⟨tg, iter, ifs, 0⟩] scope gpos] X.env)).all (fun x => !x.1) && (backToKw cpos (keywordEach [] X.env)).all (fun x => x.1.isSome)
      && decide (([.GeneratorExp elt [⟨tg, iter, ifs, 0⟩] scope gpos] : List Expr).length + ([] : List Keyword).length + (if ([] : List Keyword).isEmpty then 0 else 1) < 30)) = true := by rfl)
    (sameRow : (apos.endLine == cpos.line) = true := by rfl)
    (hst : starEach [.GeneratorExp elt [⟨tg, iter, ifs, 0⟩] scope gpos] X.env = (false, eval (.GeneratorExp elt [⟨tg, iter, ifs, 0⟩] scope gpos) X.env) :: starEach [] X.env := by rfl)
    (noStar : (backTo cpos (starEach [] X.env)).any (·.1) = false := by rfl) :
    PE X (.Call (.Attribute o "join" apos) [.GeneratorExp elt [⟨tg, iter, ifs, 0⟩] scope gpos] [] cpos) (tJoinGx P to wi g tt te (own.map (·.2))) := by
  constructor
  intro pins s σ H Q I h
  refine wpAny_Call_method_late hbase hfew sameRow rfl (thn (ho.run pins s σ H _ I h) fun v s1 ⟨z, H1, I1, rz, sep, ez, q1⟩ => ?_)
  subst ez
  have ⟨tk, ev⟩ : ∃ t, v = Value.str sep t := rz
  subst ev
  refine ⟨_, _, PySem.F.plainAttrs_str, PySem.F.slot_str_join, PySem.F.type_str_join, typeIs_str _ _ _, nofun, ?_⟩
  rw [hst]
  refine Calls.callWith_builtin (show (false || (backTo cpos (starEach [] X.env)).any (·.1)) = false by rw [noStar]; rfl) (Calls.evalArgs_plain ?_)
  show wpAny _ _ (spliced ((false, eval (.GeneratorExp elt [⟨tg, iter, ifs, 0⟩] scope gpos) X.env) :: backTo cpos (starEach [] X.env))) _ _ s1
  refine Calls.spliced_cons (gx_eval hr TB hcode ok hcell h0 hco hi hs I1 q1 fun J H4 s4 it fp tn code a gi go s5 hR M => ?_)
  refine Calls.spliced_nil ?_
  obtain ⟨W, ⟨m0, w0⟩, turn⟩ := hR
  have lim5 : s5.heap.NoLimit := M.inv.nolimit.keeps M.kp
  have isG : s5.TypeIs (.ref a) "generator" := (M.gen _ M.obj).typeIs
  apply wpAny_call; refine codeAny_call_builtin F.slot_str_join.plain F.entry_str_join (F.slot_str_join.check _ _ _ _ _ _ _ _ (typeIs_str _ _ _) (F.args_str_join_2 _ _) ?_)
  show wpAny (model X.prog X.w) X.A.in1 (Builtin.«str.join» ⟨[.str sep tk, .ref a], []⟩) _ _ s5
  rw [join_tree_other]
  refine wpAny_bind (wpAny_typeOf isG ?_)
  show wpAny _ X.A.in1 ((pyIter (.ref a)).tryCatch _ >>= fun it => collect it >>= fun items => joinTail sep items) _ _ s5
  refine wpAny_bind (wpAny_tryCatch (wpAny_pyIter_gen (M.gen _ M.obj) ?_))
  refine wpAny_bind (m := collect (.ref a)) (collect_gx (X := X) (A := X.A.in1) (n := m0 + 1) (En := fun ys H => ∃ ws : List Str, ys = ws.map V.str ∧ JoinOk sep ws = true ∧ Q (.str (Txt.join sep ws)) H) (fp := fp) (H4 := H4) (s4 := s4) hr.hd hr.depth (M.gen _ M.obj) lim5 M.gs M.bare (fun s6 hS6 hk6 hos6 hb6 => ?_) fun s' its H' ys r hos hb un hok en => ?_)
  · have hSa : s5.heap.objs.size ≠ a := Nat.ne_of_gt M.hi
    obtain ⟨cS, eS⟩ := hS6
    refine gx_run (G := gTupG s5.heap.objs.size (fun ys H => ∃ ws : List Str, ys = ws.map V.str ∧ JoinOk sep ws = true ∧ Q (.str (Txt.join sep ws)) H)) ok hcell hco hN M hg ht he w0 turn (A := X.A.in1.in1.in1) (s6 := s6) ?_ M.inv.ok.frames (fun S hs => ?_) ⟨_, _, eS, .nil⟩ hos6 hb6 hk6
    · exact ⟨hr.hd, by have := hr.dp; show X.A.depth + 3 * (k + 1) + 5 < _; omega, by have := hr.un; show X.A.units + 1 + 1 + 1 + 16 * (k + 1) + 200 < _; omega⟩
    · rw [List.mem_singleton.mp hs]
      exact ⟨Nat.lt_trans M.lo M.hi, hSa, _, eS, fun v z => by cases z⟩
  · obtain ⟨ws, rfl, jok, q⟩ := en
    have I7 : Inv X pins σ H' s' := M.inv.call' (ch := fp) hos un hok hb fun b hb => ⟨(M.fpo b hb).1.2.2.2.1, (M.fpo b hb).1.2.1, (M.fpo b hb).1.2.2.2.2.1, (M.fpo b hb).1.2.2.2.2.2⟩
    obtain ⟨l, hl, hw⟩ := strs_of r
    rw [← hl]
    rw [← hw] at jok q
    unfold JoinOk at jok
    rw [Bool.not_eq_true'] at jok
    have gv := glue_gives sep l jok
    exact gv X.prog X.w X.A (wants (fun v s => EP X pins σ Q v s) X.xe) s' (post_join l ⟨joinFit_length jok, fun t' k' => ⟨.str _, H', I7.tok k', ⟨t', rfl⟩, q⟩⟩)
end
end Gx
namespace Bw
open PySem PySem.Spec PyProof.Rows L2 GxR Gx RZ
/-! ### statements -/
def tHB (A : L2.St → Hp → Prop) (D : Ends) : TS := fun D' σ H => A σ H ∧ (∀ σ H, D.nx σ H → D'.nx σ H) ∧ (∀ v H, D.rt v H → D'.rt v H) ∧ (∀ σ H, D.bk σ H → D'.bk σ H) ∧ (∀ σ H, D.ct σ H → D'.ct σ H)
abbrev HB (X : Cx) (ss : List Stmt) (A : L2.St → Hp → Prop) (D : Ends) : Prop := PSs X ss (tHB A D)
abbrev HS (X : Cx) (s : Stmt) (A : L2.St → Hp → Prop) (D : Ends) : Prop := PS X s (tHB A D)
def As (c : Cw) (H0 : Hp) (m M : Addr → Prop) (Γ : List Sl) : L2.St → Hp → Prop := fun σ H => Rp c M H σ Γ ∧ Ext m H0 H
section
variable {X : Cx} {A B : L2.St → Hp → Prop} {D : Ends}
theorem hb_nil (h : ∀ σ H, A σ H → D.nx σ H) : HB X [] A D := pss_nil.mono fun D' σ H ⟨a, n, _⟩ => n σ H (h σ H a)
theorem hb_cons {s : Stmt} {ss : List Stmt} (h : HS X s A { D with nx := B }) (t : HB X ss B D) : HB X (s :: ss) A D :=
  (pss_cons h t).mono fun D' σ H ⟨a, n, r, b, k⟩ => ⟨a, fun σ H z => ⟨z, n, r, b, k⟩, r, b, k⟩
theorem hb_one {s : Stmt} (h : HS X s A D) : HB X [s] A D := pss_one h
theorem hb_pre {ss : List Stmt} (i : ∀ σ H, A σ H → B σ H) (h : HB X ss B D) : HB X ss A D := h.mono fun D' σ H ⟨a, r⟩ => ⟨i σ H a, r⟩
theorem hb_ex {α : Sort _} {C : α → Prop} {F : α → L2.St → Hp → Prop} {ss : List Stmt} (h : ∀ a, C a → HB X ss (F a) D) : HB X ss (fun σ H => ∃ a, C a ∧ F a σ H) D := (PSs.ex h).mono fun D' σ H ⟨⟨a, ca, fa⟩, r⟩ => ⟨a, ca, fa, r⟩
end
section
variable {X : Cx} {c : Cw} {H0 : Hp} {m M : Addr → Prop} {Γ : List Sl} {D : Ends}
/-- x = e, a thing -/
theorem hs_set (i : Nat) {x : Str} {e : Expr} {d : PyData} {pos pos' : Pos} (cm : ∀ a, c.mx a → m a) (hN : X.N.Nodup) (he : PD X c M Γ e d) (hi : X.N[i]? = some x := by rfl) (hx : Loc X.env.scope x := by first | exact Or.inl rfl | exact Or.inr rfl) (hs : swapsWith e (some (.Name x pos')) pos.line X.env = pure false := by rfl)
    (hf : X.fn x = true ∨ X.env.scope.names.lookup x = some .local := by first | exact Or.inr rfl | exact Or.inl rfl) : HS X (.Assign [.Name x pos'] e pos) (As c H0 m M Γ) { D with nx := As c H0 m M (Γ.set i (.d d)) } :=
  (ps_set (i := i) hN hi hx he hs hf).mono fun D' σ H ⟨⟨r, x0⟩, n, _⟩ => ⟨r, fun v H1 hv x1 b1 => n _ _ ⟨(r.ext x1 b1).setD i hv, x0.trans (x1.mono cm)⟩⟩
/-- what is known of a list of one's own -/
abbrev Fresh (H0 : Hp) (M : Addr → Prop) (a : Addr) : Prop := H0 a = none ∧ ¬ M a
/-- a, b, .. = e -/
theorem hs_asg {tg e : Expr} {g : TG} {own : List Nat} {d : PyData} {Γ' : List Sl} {pos : Pos} (cm : ∀ a, c.mx a → m a) (he : PD X c M Γ e d) (hg : PG X tg g) (tgt : Tgt c M g own d Γ Γ') (h : PE X e (tV c M Γ (isD M d)) → PG X tg g → PS X (.Assign [tg] e pos) (tAsg (tV c M Γ (isD M d)) g)) : HS X (.Assign [tg] e pos) (As c H0 m M Γ) { D with nx := As c H0 m M Γ' } :=
  (h he hg).mono fun D' σ H ⟨⟨r, x0⟩, n, _⟩ => ⟨r, fun v H1 hv x1 b1 => tgt v σ H1 _ (r.ext x1 b1) hv fun σ' r' _ _ => n _ _ ⟨r', x0.trans (x1.mono cm)⟩⟩
theorem hs_if {t : Expr} {b : Bool} {th el : List Stmt} {pos : Pos} (cm : ∀ a, c.mx a → m a) (ht : PQ X c M Γ t b) (h1 : b = true → HB X th (As c H0 m M Γ) D) (h2 : b = false → HB X el (As c H0 m M Γ) D) : HS X (.If t th el pos) (As c H0 m M Γ) D :=
  (ps_if ht (pss_when h1) (pss_when h2)).mono fun D' σ H ⟨⟨r, x0⟩, rest⟩ => ⟨r, fun H1 x1 b1 => by
    cases b with
    | true => exact iteT ⟨rfl, ⟨r.ext x1 b1, x0.trans (x1.mono cm)⟩, rest⟩
    | false => exact iteF ⟨rfl, ⟨r.ext x1 b1, x0.trans (x1.mono cm)⟩, rest⟩⟩
theorem hs_retV {e : Expr} {R : RV} {pos : Pos} (he : PV X c M Γ e R) (q : ∀ (σ : L2.St) (H : Hp) (v : V) (H' : Hp), As c H0 m M Γ σ H → R H H' v → Ext c.mx H H' → c.Bx H' → D.rt v H') : HS X (.Return (some e) pos) (As c H0 m M Γ) D :=
  (ps_ret he).mono fun D' σ H ⟨a, _, rt, _⟩ => ⟨a.1, fun v H' hv x1 b1 => rt _ _ (q σ H v H' a hv x1 b1)⟩
theorem hs_ret {e : Expr} {d : PyData} {pos : Pos} (cm : ∀ a, c.mx a → m a) (he : PD X c M Γ e d) (q : ∀ (v : V) (H' : Hp), Td M H' v d → Ext m H0 H' → c.Bx H' → D.rt v H') : HS X (.Return (some e) pos) (As c H0 m M Γ) D :=
  hs_retV he fun σ H v H' a hv x1 b1 => q v H' hv (a.2.trans (x1.mono cm)) b1
/-! lists that are changed -/
def putO (k : Mk) (a : Addr) (xs : List PyData) : List Sl → List Sl
  | [] => []
  | .l b ys k' :: Γ => (if b = a then .l b xs k else .l b ys k') :: putO k a xs Γ
  | s :: Γ => s :: putO k a xs Γ
theorem Reps.putO {k : Mk} {H : Hp} {a : Addr} {xs : List PyData} {vs : List V} (x : Ext (fun b => b = a) H (upd H a (k.f vs))) (ma : M a) (na : ¬ c.mx a) (all : TdAll M (upd H a (k.f vs)) vs xs) : ∀ {σ : List (Option V)} {Γ : List Sl}, Reps c M H σ Γ → Reps c M (upd H a (k.f vs)) σ (Bw.putO k a xs Γ)
  | _, _, .nil => .nil
  | _, _, .cons (s := .any) h t => .cons trivial (Reps.putO x ma na all t)
  | _, _, .cons (s := .d y) h t => .cons (SlOk.ext (s := .d y) h x (fun b z => by rw [z]; exact ma) fun _ _ _ z => by cases z) (Reps.putO x ma na all t)
  | _, _, .cons (s := .r b) h t => .cons h (Reps.putO x ma na all t)
  | _, _, .cons (s := .l b ys k') h t => by
    refine .cons ?_ (Reps.putO x ma na all t)
    by_cases e : b = a
    · subst e
      rw [if_pos rfl]
      exact ⟨h.1, h.2.1, h.2.2.1, vs, upd_same, all⟩
    · rw [if_neg e]
      exact SlOk.ext (s := .l b ys k') h x (fun b z => by rw [z]; exact ma) fun a' _ _ z => by cases z; exact e
/-- behind a change of one's own object -/
theorem As.putO {k : Mk} {o : HO} {σ : L2.St} {H : Hp} {a : Addr} {vs : List V} {xs : List PyData} (h : As c H0 m M Γ σ H) (own : m a ∨ H0 a = none) (ma : M a) (na : ¬ c.mx a) (ha : H a = some o) (nT : ∀ xs, o ≠ .tup xs) (nB : ∀ ps, o ≠ .tbl ps) (all : TdAll M H vs xs) (nC : ∀ d q, o ≠ LamX.CodeO d q := by exact code_ne fun _ z => by cases z) : As c H0 m M (Bw.putO k a xs Γ) σ (upd H a (k.f vs)) := by
  have x : Ext (fun b => b = a) H (upd H a (k.f vs)) := Ext.put ha rfl nT nB nC
  have sub : ∀ b, b = a → M b := fun b z => by rw [z]; exact ma
  refine ⟨⟨h.1.sl.putO x ma na (all.ext x sub), fun T t => x.tab T (h.1.tb T t), c.st _ _ _ (fun b z => by rw [z]; exact na) x h.1.bx, h.1.sub, fun b mb z => h.1.al b mb (x.dom b z)⟩, h.2.transF x fun b z => by rw [z]; exact own⟩
/-! loops -/
theorem hs_for {α : Type} {tg iter : Expr} {g : TG} {own : List Nat} {body : List Stmt} {pos : Pos} {ds : List PyData} {mw : Addr → Prop} (P : Nat → α → Prop) (G : α → List Sl) (G' : Nat → α → List Sl) (s0 : α) (N : L2.St → Hp → Prop) (hp : PassesOwn (model X.prog X.w) X.A X.env X.xe) (hc : X.calm = true) (cm : ∀ a, c.mx a → m a) (cw : ∀ a, c.mx a → mw a)
    (sw : ∀ a, mw a → m a ∨ H0 a = none) (hi : PIt X c M mw Γ tg iter ds) (hg : PG X tg g) (h0 : P 0 s0) (g0 : G s0 = Γ) (tgt : ∀ i d s, ds[i]? = some d → P i s → Tgt c M g own d (G s) (G' i s))
    (hb : ∀ H1, Ext m H0 H1 → (∀ a, M a → H1 a ≠ none) → ∀ i d s, ds[i]? = some d → P i s → HB X body (As c H1 mw M (G' i s)) { D with nx := fun σ H => ∃ s', P (i + 1) s' ∧ As c H1 mw M (G s') σ H, ct := fun σ H => ∃ s', P (i + 1) s' ∧ As c H1 mw M (G s') σ H, bk := N })
    (done : ∀ s σ H, P ds.length s → As c H0 m M (G s) σ H → N σ H) (hs : ∀ x, foldedSetIterable iter X.env x = pure x := by intro _; rfl) : HS X (.For tg iter body [] pos) (As c H0 m M Γ) { D with nx := N } := by
  have hbe : PSs X body (fun D' σ H => ∃ q : Hp × Nat × PyData × α, (Ext m H0 q.1 ∧ (∀ a, M a → q.1 a ≠ none) ∧ ds[q.2.1]? = some q.2.2.1 ∧ P q.2.1 q.2.2.2) ∧ tHB (As c q.1 mw M (G' q.2.1 q.2.2.2)) { D with nx := fun σ H => ∃ s', P (q.2.1 + 1) s' ∧ As c q.1 mw M (G s') σ H, ct := fun σ H => ∃ s', P (q.2.1 + 1) s' ∧ As c q.1 mw M (G s') σ H, bk := N } D' σ H) :=
    PSs.ex fun q hq => hb q.1 hq.1 hq.2.1 q.2.1 q.2.2.1 q.2.2.2 hq.2.2.1 hq.2.2.2
  refine (ps_for hp hc hi hg hbe hs).mono fun D' σ H ⟨⟨r, x0⟩, nx, rt, _, _⟩ => ⟨r, fun J H1 wk x1 b1 => ?_⟩
  have x01 := x0.trans (x1.mono cm)
  have r1 := r.ext x1 b1
  have sub : ∀ a, c.mx a → M a := r.sub
  refine ⟨fun i mm σ2 H2 => mm = ds.length - i ∧ i ≤ ds.length ∧ ∃ s, P i s ∧ As c H1 mw M (G s) σ2 H2, ⟨_, rfl, Nat.zero_le _, s0, h0, by rw [g0]; exact r1, Ext.refl _ _⟩, ?_⟩
  rintro i mm σ2 H2 ⟨rfl, le, s, ps, r2, x2⟩
  by_cases last : i = ds.length
  · subst last
    exact .inl ⟨wk.stop _ _ x2 (Nat.le_refl _), nx _ _ (done s _ _ ps ⟨r2, x01.transF x2 sw⟩)⟩
  · have lt : i < ds.length := by omega
    have ed : ds[i]? = some ds[i] := List.getElem?_eq_getElem lt
    generalize ds[i] = d at ed
    obtain ⟨go, yl⟩ := wk.go M i H2 d (fun _ z => z) (fun a z => .inl z) x2 ed
    refine .inr ⟨go, fun σ' H' => i + 1 ≤ ds.length ∧ ∃ s', P (i + 1) s' ∧ As c H1 mw M (G s') σ' H', fun σ' H' z => ⟨_, by omega, rfl, z⟩, fun x H3 y => ?_⟩
    obtain ⟨tx, x3⟩ := yl x H3 y
    refine tgt i d s ed ps x σ2 H3 _ (r2.ext0 x3) tx fun σ' r' _ _ => ⟨(H1, i, d, s), ⟨x01, r1.al, ed, ps⟩, ⟨r', x2.trans (x3.of0)⟩, fun σ H z => ⟨lt, z⟩, rt, fun σ H z => nx σ H z, fun σ H z => ⟨lt, z⟩⟩
end
end Bw
namespace Bw
open PySem PySem.Spec PyProof.Rows L2 GxR Gx RZ
/-! ### defs over things: what they are handed and what they hand back, as data -/
theorem Reps.apps {c : Cw} {M : Addr → Prop} {H : Hp} : ∀ {σ σ' : List (Option V)} {Γ Γ' : List Sl}, Reps c M H σ Γ → Reps c M H σ' Γ' → Reps c M H (σ ++ σ') (Γ ++ Γ')
  | _, _, _, _, .nil, u => u
  | _, _, _, _, .cons h t, u => .cons h (Reps.apps t u)
theorem Reps.anys {c : Cw} {M : Addr → Prop} {H : Hp} : ∀ n : Nat, Reps c M H (List.replicate n none) (List.replicate n .any)
  | 0 => .nil
  | n + 1 => .cons trivial (Reps.anys n)
/-- all slots at the entry of a def -/
abbrev ent (N : List Str) (ds : List PyData) : List Sl := ofD ds ++ List.replicate (N.length - ds.length) .any
theorem ent_reps {c : Cw} {M : Addr → Prop} {H : Hp} {N : List Str} {vs : List V} {ds : List PyData} (h : TdAll M H vs ds) : Reps c M H (L2.start N vs) (ent N ds) := by
  unfold L2.start ent
  rw [h.len]
  exact (Reps.ofData h).apps (Reps.anys _)
def spFun (Ts : List Addr) (P : List PyData → PyData → Prop) : Sp := fun vs H Q _ => ∃ (M : Addr → Prop) (ds : List PyData) (d : PyData), TdAll M H vs ds ∧ (∀ a, M a → H a ≠ none) ∧ (∀ T ∈ Ts, TabG H T) ∧ P ds d ∧ ∀ v H', Td M H' v d → Ext no H H' → Q v H'
theorem ent_as {Ts : List Addr} {M : Addr → Prop} {H : Hp} {N : List Str} {vs : List V} {ds : List PyData} (h : TdAll M H vs ds) (al : ∀ a, M a → H a ≠ none) (tabs : ∀ T ∈ Ts, TabG H T) : As (cw0 Ts) H no M (ent N ds) (L2.start N vs) H :=
  ⟨⟨ent_reps h, tabs, trivial, fun _ z => z.elim, al⟩, Ext.refl _ _⟩
section
variable {base : Heap} {K : PySem.W.Frag} {mg : Str → Option Value} {P : Program} {w : World}
/-- what a def of things must show: rt is what it hands back -/
abbrev DRt (M : Addr → Prop) (H : Hp) (d : PyData) : Ends := { nx := fun _ _ => False, rt := fun v H' => Td M H' v d ∧ Ext no H H' }
abbrev DRn (M : Addr → Prop) (H : Hp) (xs : List PyData) : Ends := { nx := fun _ _ => False, rt := fun v H' => ∃ a us, v = .ref a ∧ H a = none ∧ H' a = some (.lst us) ∧ TdAll (plus M a) H' us xs ∧ Ext no H H' }
theorem fn_data {x : Str} {st : Stmt} {f : Addr} {fd : FuncData} {N ps : List Str} {k : Nat} {Ts : List Addr} {R : List PyData → PyData → Prop} (D : Df K mg x st ps f fd) (S : FnScope N ps (defScope st)) (len : ∀ ds d, R ds d → ds.length = ps.length)
    (body : ∀ (cdv : Value) (A : Around) (outer : List Env) (s : Shared) (H : Hp) (E : XK) (M : Addr → Prop) (ds : List PyData) (d : PyData), Room k (A.deeper (envOfC x (defScope st) s.heap.objs.size f cdv)) → R ds d →
      HB (cxOf CX0 P w K mg base N x (defScope st) f cdv A outer s H E).nox (defBody st) (As (cw0 Ts) H no M (ent N ds)) (DRt M H d)) : FnOk P w K mg base CX0 (k + 1) f fd ps (spFun Ts R) := by
  refine D.F.ok S (fun vs H Q E h => ?_) (fun cdv A outer s H vs Q E hr h => ?_)
  · obtain ⟨M, ds, d, all, _, _, r, _⟩ := h
    rw [all.len]
    exact len ds d r
  · obtain ⟨M, ds, d, all, al, tabs, r, q⟩ := h
    exact ⟨_, body cdv A outer s H E M ds d hr r, ent_as all al tabs, fun _ _ z => z.elim, fun v H' z => q v H' z.1 z.2, fun _ _ z => z.elim, fun _ _ z => z.elim⟩
theorem fn_dataC {x : Str} {st : Stmt} {f c0 : Addr} {fd : FuncData} {N ps : List Str} {k : Nat} {Ts : List Addr} {R : List PyData → PyData → Prop} (D : Dc K mg x st ps f fd c0) (S : FnScope N ps (defScope st)) (len : ∀ ds d, R ds d → ds.length = ps.length)
    (body : ∀ (A : Around) (outer : List Env) (s : Shared) (H : Hp) (E : XK) (M : Addr → Prop) (ds : List PyData) (d : PyData), Room k (A.deeper (envOfC x (defScope st) s.heap.objs.size f (.ref c0))) → R ds d →
      HB (cxOf CX0 P w K mg base N x (defScope st) f (.ref c0) A outer s H E).nox (defBody st) (As (cw0 Ts) H no M (ent N ds)) (DRt M H d)) : FnOk P w K mg base CX0 (k + 1) f fd ps (spFun Ts R) := by
  refine D.ok S (fun vs H Q E h => ?_) (fun A outer s H vs Q E hr h => ?_)
  · obtain ⟨M, ds, d, all, _, _, r, _⟩ := h
    rw [all.len]
    exact len ds d r
  · obtain ⟨M, ds, d, all, al, tabs, r, q⟩ := h
    exact ⟨_, body A outer s H E M ds d hr r, ent_as all al tabs, fun _ _ z => z.elim, fun v H' z => q v H' z.1 z.2, fun _ _ z => z.elim, fun _ _ z => z.elim⟩
end
/-! calls of such defs -/
section
variable {X : Cx} {c : Cw} {M : Addr → Prop} {Γ : List Sl}
theorem pd_call {x : Str} {st : Stmt} {ps : List Str} {f : Addr} {fd : FuncData} {k : Nat} {Ts : List Addr} {R : List PyData → PyData → Prop} {e : Expr} {es : List Expr} {p pos : Pos} {ds : List PyData} {d : PyData} (D : Df X.K X.mg x st ps f fd) (G : FnOk X.prog X.w X.K X.mg X.base CX0 k f fd ps (spFun Ts R)) (hr : Room k X.A) (ha : PAr X c M Γ (e :: es) (ofD ds)) (r : R ds d)
    (ts : ∀ T ∈ Ts, T ∈ c.Ts := by simp) (hg : Gl X x := by rfl) (hdb : (x == ("__debug__" : Str)) = false := by decide) (he : starEach (e :: es) X.env = (false, eval e X.env) :: starEach es X.env := by rfl) (hpl : (backTo pos (starEach es X.env)).any (·.1) = false := by rfl) :
    PD X c M Γ (.Call (.Name x p) (e :: es) [] pos) d :=
  (pcall D G hr ha hg hdb he hpl).mono fun σ H Q ⟨rp, q⟩ => ⟨rp, fun vs H1 hvs x1 b1 => by
    show spFun Ts R (vs ++ []) H1 Q E0
    rw [List.append_nil]
    have r1 := rp.ext x1 b1
    exact ⟨M, ds, d, hvs.data, r1.al, fun T t => r1.tb T (ts T t), r, fun v H2 tv x2 => q v H2 tv (x1.trans x2.of0) (c.st no _ _ (fun _ z => z.elim) x2 b1)⟩⟩
end
end Bw
namespace Bw
open PySem PySem.Spec PyProof.Rows L2 GxR Gx RZ
/-! ### comprehensions over lists whose items are known by more than their data -/
theorem kept_of {α : Type} {F : α → PyData} {B : PyData → α} {p : α → Bool} {f : α → PyData} : ∀ {l : List α}, (∀ x ∈ l, B (F x) = x) → kept (fun d => p (B d)) (fun d => f (B d)) (l.map F) = (l.filter p).map f
  | [], _ => rfl
  | x :: l, h => by
    have i := kept_of (F := F) (B := B) (p := p) (f := f) (l := l) fun y hy => h y (List.mem_cons_of_mem _ hy)
    unfold kept at i ⊢
    rw [List.map_cons, List.filter_cons, List.filter_cons, h x (List.mem_cons_self ..)]
    by_cases e : p x = true
    · rw [if_pos e, if_pos e, List.map_cons, List.map_cons, i, h x (List.mem_cons_self ..)]
    · rw [if_neg e, if_neg e, i]
section
variable {X : Cx} {c : Cw} {M : Addr → Prop} {Γ : List Sl}
theorem pn_lcm {α : Type} {l : List α} {F : α → PyData} (B : PyData → α) {elt tg iter : Expr} {ifs : List Expr} {scope : Scope} {own : List (Str × Nat)} {pos : Pos} {g : TG} {p : α → Bool} {f : α → PyData} {Γ' : α → List Sl} (hB : ∀ x ∈ l, B (F x) = x) (hc : X.calm = true) (hN : X.N.Nodup) (hi : PIt X c M c.mx Γ tg iter (l.map F)) (ok : BlkOk X.N X.env.scope scope own)
    (hg : ∀ (s : Shared) (H : Hp) (C : Addr) (cl : List (Str × Addr)) (fp : List Addr), PG (X.blk s H scope (compEnvC scope cl C X.env) fp) tg g) (tgt : ∀ M', ∀ x ∈ l, Tgt c M' g (own.map (·.2)) (F x) Γ (Γ' x))
    (ht : ∀ (s : Shared) (H : Hp) (C : Addr) (cl : List (Str × Addr)) (fp : List Addr), ∀ M', (∀ a, M a → M' a) → ∀ x ∈ l, PTs (X.blk s H scope (compEnvC scope cl C X.env) fp) ifs (tQ c M' (Γ' x) (p x)))
    (he : ∀ (s : Shared) (H : Hp) (C : Addr) (cl : List (Str × Addr)) (fp : List Addr), ∀ M', (∀ a, M a → M' a) → ∀ x ∈ l, p x = true → PD (X.blk s H scope (compEnvC scope cl C X.env) fp) c M' (Γ' x) elt (f x))
    (few : l.length < sizeLine) (hw : wipeG Γ (own.map (·.2)) = Γ := by rfl) (hs : ∀ x, foldedSetIterable iter X.env x = pure x := by intro _; rfl) : PN X c M Γ (.ListComp elt [⟨tg, iter, ifs, 0⟩] scope pos) ((l.filter p).map f) := by
  have both : ∀ d ∈ l.map F, ∃ x ∈ l, d = F x ∧ B d = x := fun d hd => by
    obtain ⟨x, hx, rfl⟩ := List.mem_map.mp hd
    exact ⟨x, hx, rfl, hB x hx⟩
  rw [← kept_of hB]
  refine pn_lc (g := g) (Γ' := fun d => Γ' (B d)) hc hN hi ok hg (fun M' d hd => ?_) (fun s H C cl fp M' up d hd => ?_) (fun s H C cl fp M' up d hd e => ?_) (by rw [List.length_map]; exact few) hw hs
  · obtain ⟨x, hx, e1, e2⟩ := both d hd
    rw [e2, e1]
    exact tgt M' x hx
  · obtain ⟨x, hx, e1, e2⟩ := both d hd
    rw [e2]
    exact ht s H C cl fp M' up x hx
  · obtain ⟨x, hx, e1, e2⟩ := both d hd
    rw [e2] at e ⊢
    exact he s H C cl fp M' up x hx e
theorem pq_neI {a b : Expr} {i j : Int} {pos : Pos} (ha : PD X c M Γ a (.int i)) (hb : PD X c M Γ b (.int j)) (hm : behindInMarks .NotEq b = false := by rfl) : PQ X c M Γ (.Compare a [.NotEq] [b] pos) (!decide (i = j)) := pq_cmp op_ne ha hb (fun x y H Q hx hy q => by
  rw [hx.intE, hy.intE]
  have e : decide (V.int i = V.int j) = decide (i = j) := by rw [decide_eq_decide]; exact ⟨V.int.inj, congrArg V.int⟩
  exact ⟨rfl, q _ _ (by rw [e]; exact .bl _) (Ext.refl _ _)⟩) hm
theorem pq_eqI {a b : Expr} {i j : Int} {pos : Pos} (ha : PD X c M Γ a (.int i)) (hb : PD X c M Γ b (.int j)) (hm : behindInMarks .Eq b = false := by rfl) : PQ X c M Γ (.Compare a [.Eq] [b] pos) (decide (i = j)) := pq_cmp op_eq ha hb (fun x y H Q hx hy q => by
  rw [hx.intE, hy.intE]
  have e : decide (V.int i = V.int j) = decide (i = j) := by rw [decide_eq_decide]; exact ⟨V.int.inj, congrArg V.int⟩
  exact ⟨rfl, q _ _ (by rw [e]; exact .bl _) (Ext.refl _ _)⟩) hm
theorem pq_ltI {a b : Expr} {i j : Int} {pos : Pos} (ha : PD X c M Γ a (.int i)) (hb : PD X c M Γ b (.int j)) (hm : behindInMarks .Lt b = false := by rfl) : PQ X c M Γ (.Compare a [.Lt] [b] pos) (decide (i < j)) := pq_cmp op_lt ha hb (fun x y H Q hx hy q => by
  rw [hx.intE, hy.intE]
  exact ⟨i, j, rfl, rfl, q _ _ (.bl _) (Ext.refl _ _)⟩) hm
theorem pq_inT {a b : Expr} {pos : Pos} {d : PyData} {ds : List PyData} (ha : PD X c M Γ a d) (hb : PD X c M Γ b (.tuple ds)) (fd : flatD d = true) (fs : ds.all flatD = true) (hm : behindInMarks .In b = false := by rfl) : PQ X c M Γ (.Compare a [.In] [b] pos) (inV (flatOf d) (ds.map flatOf)) :=
  pq_cmp op_in_seq ha hb (fun x y H Q hx hy q => by
    obtain ⟨p, vs, rfl, hp, all⟩ := hy.tupE
    obtain rfl := all.flatE fs
    obtain rfl := hx.flatE fd
    exact ⟨p, _, rfl, .inr (SqT.of hp), hx.flat fd, flat_all fs, q _ _ (.bl _) (Ext.refl _ _)⟩) hm
end
end Bw
namespace Bw
open PySem PySem.Spec PyProof.Rows L2 GxR Gx RZ
/-! ### layouts.py: the names of a cell -/
abbrev nI (x : Nat) : PyData := .int (x : Int)
def unI : PyData → Nat
  | .int i => i.toNat
  | _ => 0
theorem unI_nI (x : Nat) : unI (nI x) = x := Int.toNat_natCast x
section
variable {base : Heap} {K : PySem.W.Frag} {mg : Str → Option Value} {P : Program} {w : World}
def outOf (l : List Nat) (n : Nat) : List Nat := l.filter fun x => !decide ((x : Int) = (n : Int))
end
end Bw
namespace Bw
open PySem PySem.Spec PyProof.Rows L2 GxR Gx RZ Nx
theorem TdAll.strE {M : Addr → Prop} {H : Hp} : ∀ {vs : List V} {ws : List Str}, TdAll M H vs (ws.map PyData.str) → vs = ws.map V.str
  | _, [], .nil => rfl
  | _, w :: ws, .cons h t => by
    rw [h.strE, TdAll.strE t]
    rfl
section
variable {X : Cx} {c : Cw} {M : Addr → Prop} {Γ : List Sl}
/-- str(e), e a number -/
theorem pd_strI {e : Expr} {i : Int} {p pos : Pos} (hm : X.mg "str" = none) (h : PD X c M Γ e (.int i)) (small : i.natAbs.log2 < 1920) (he : starEach [e] X.env = (false, eval e X.env) :: starEach [] X.env := by rfl) (hg : Gl X "str" := by rfl) : PD X c M Γ (.Call (.Name "str" p) [e] [] pos) (.str (Str.ofString (toString i))) :=
  pv_callTy call_str_int hm (by decide +kernel) back_d (ar_d h ar_nil he) (fun vs H Q r q => by
    obtain ⟨v, rfl, t⟩ := r.sl.one_d
    rw [t.intE]
    exact ⟨i, rfl, small, q _ H (.str _) (Ext.refl _ _)⟩) hg (by decide) (by decide) he
/-- str(e), e a text -/
theorem pd_strS {e : Expr} {s : Str} {p pos : Pos} (hm : X.mg "str" = none) (h : PD X c M Γ e (.str s)) (he : starEach [e] X.env = (false, eval e X.env) :: starEach [] X.env := by rfl) (hg : Gl X "str" := by rfl) : PD X c M Γ (.Call (.Name "str" p) [e] [] pos) (.str s) :=
  pv_callTy SkE.call_str_str hm (by decide +kernel) back_d (ar_d h ar_nil he) (fun vs H Q r q => by
    obtain ⟨v, rfl, t⟩ := r.sl.one_d
    rw [t.strE]
    exact ⟨s, rfl, q _ H (.str _) (Ext.refl _ _)⟩) hg (by decide) (by decide) he
/-- sep.join(e), e a list of texts -/
theorem pd_joinD {o e : Expr} {sep : Str} {ws : List Str} {apos pos : Pos} (ho : PD X c M Γ o (.str sep)) (h : PD X c M Γ e (.list (ws.map PyData.str))) (few : (ws.map (·.length)).sum + ws.length * sep.length ≤ 16777216)
    (hp : PE X o (tV c M Γ (isD M (.str sep))) → PE X e (tV c M Γ (isD M (.list (ws.map PyData.str)))) → PE X (.Call (.Attribute o "join" apos) [e] [] pos) (tM1 (fun x xs H Q => ∃ a p, ∃ ys : List Str, x = .str a ∧ xs = [.ref p] ∧ (SqL X.K H p (ys.map V.str) ∨ SqT X.K H p (ys.map V.str)) ∧ (ys.map (·.length)).sum + ys.length * a.length ≤ 16777216 ∧ Q (.str (Txt.join a ys)) H) (tV c M Γ (isD M (.str sep))) (tV c M Γ (isD M (.list (ws.map PyData.str))))) := by exact fun a b => pe_join a b) :
    PD X c M Γ (.Call (.Attribute o "join" apos) [e] [] pos) (.str (Txt.join sep ws)) :=
  (hp ho h).mono fun σ H Q ⟨r, q⟩ => ⟨r, fun v H1 hv x1 b1 => ⟨⟨sep, hv.strE⟩, r.ext x1 b1, fun u H2 hu x2 b2 => by
    obtain ⟨p, us, rfl, np, hp, all⟩ := hu.lstE
    rw [hv.strE]
    exact ⟨sep, p, ws, rfl, rfl, .inl (SqL.of (by rw [← all.strE]; exact hp)), few, q _ H2 (.str _) (x1.trans x2) b2⟩⟩⟩
end
end Bw
namespace Bw
open PySem PySem.Spec PyProof.Rows TL
/-! ### numbers as texts -/
abbrev nmS (n : Nat) : Str := Str.ofString (toString ((n : Nat) : Int))
theorem tl_nmS (n : Nat) : tl (nmS n) = numL n := tl_num n
theorem len_nmS (n : Nat) : (nmS n).length = (numL n).length := by rw [len_tl, tl_nmS]
end Bw
namespace Bw
open PySem PySem.Spec PyProof.Rows L2 GxR
/-- a mark: the program's number, the law's text -/
abbrev Mark := Int × Str
/-! ### moves, of whatever lies in the cells -/
section
variable {α β : Type}
def atG (d : α) (c : List α) (n : Nat) : α := (c[n]?).getD d
def mvG (d : α) (f : Fr) : Mv → List α → List α
  | .copy a b, c => c.set a (atG d c b)
  | .swap a b, c => (c.set a (atG d c b)).set b (atG d c a)
  | .store s b, c => c.set (f.boxes + s) (atG d c b)
  | .load b s, c => c.set b (atG d c (f.boxes + s))
def mvsG (d : α) (f : Fr) (ms : List Mv) (c : List α) : List α := ms.foldl (fun c m => mvG d f m c) c
end
end Bw
namespace Bw
open PySem PySem.Spec PyProof.Rows L2 GxR Gx RZ
/-! ### the program: rows that can be -/
def partsOf : Row → List V
  | .put .. => [.str "name", .str "number"]
  | .copy .. => [.str "name", .str "name"]
  | .add .. => [.str "name", .str "name", .str "name"]
  | .take .. => [.str "name", .str "name", .str "name"]
  | .less .. => [.str "name", .str "name", .str "name"]
  | .call .. => [.str "name", .str "name"]
  | .say .. => [.str "name"]
  | .iff .. => [.str "name", .str "row"]
  | .go .. => [.str "row"]
  | .fin => []
/-- the dict of the parts -/
structure Parts (K : PySem.W.Frag) (w : World) (mg : Str → Option Value) (d : Addr) (es : Array DictEntry) (n : Nat) : Prop where
  g : mg "PARTS" = some (.ref d)
  kd : KDict K w d es n
  ex : ∀ row : Row, ∃ a, PySem.W.nsIn K d (wordOf row) = some (some (.ref a)) ∧ ∀ H, SqT K H a (partsOf row)
def highs (names many : Nat) : List (Key × V) := [(Sum.inr "name", .int ((names : Int) - 1)), (Sum.inr "number", .int 999), (Sum.inr "row", .int ((many : Int) - 1))]
theorem parts_len (row : Row) : (partsOf row).length = ((rowV row).drop 1).length := by cases row <;> rfl
theorem high_name (names many : Nat) : valV (mergeK [] (highs names many)) (Sum.inr "name") = some (.int ((names : Int) - 1)) := by
  simp only [mergeK, highs, List.foldl_cons, List.foldl_nil, valV_put]
  rw [if_neg (by decide), if_neg (by decide)]
  exact if_pos trivial
theorem high_number (names many : Nat) : valV (mergeK [] (highs names many)) (Sum.inr "number") = some (.int 999) := by
  simp only [mergeK, highs, List.foldl_cons, List.foldl_nil, valV_put]
  rw [if_neg (by decide)]
  exact if_pos trivial
theorem high_row (names many : Nat) : valV (mergeK [] (highs names many)) (Sum.inr "row") = some (.int ((many : Int) - 1)) := by
  simp only [mergeK, highs, List.foldl_cons, List.foldl_nil, valV_put]
  exact if_pos trivial
/-- a part, what is told for it, and what it may be at most -/
def FitAt (names many : Nat) (x y : V) : Prop := ∃ (s : Str) (z hi : Int), x = .str s ∧ y = .int z ∧ valV (mergeK [] (highs names many)) (Sum.inr s) = some (.int hi) ∧ 0 ≤ z ∧ z ≤ hi
theorem fit_name {names many n : Nat} (h : n < names) : FitAt names many (.str "name") (.int n) := ⟨_, _, _, rfl, rfl, high_name names many, by omega, by omega⟩
theorem fit_row {names many n : Nat} (h : n < many) : FitAt names many (.str "row") (.int n) := ⟨_, _, _, rfl, rfl, high_row names many, by omega, by omega⟩
theorem fit_number {names many : Nat} {v : Int} (h : 0 ≤ v ∧ v < 1000) : FitAt names many (.str "number") (.int v) := ⟨_, _, _, rfl, rfl, high_number names many, h.1, by omega⟩
theorem two {R : V → V → Prop} {a b c d x y : V} {i : Nat} (h1 : R a c) (h2 : R b d) (e1 : [a, b][i]? = some x) (e2 : [c, d][i]? = some y) : R x y := by
  match i, e1, e2 with
  | 0, e1, e2 => cases e1; cases e2; exact h1
  | 1, e1, e2 => cases e1; cases e2; exact h2
  | _ + 2, e1, _ => simp at e1
theorem one {R : V → V → Prop} {a c x y : V} {i : Nat} (h1 : R a c) (e1 : [a][i]? = some x) (e2 : [c][i]? = some y) : R x y := by
  match i, e1, e2 with
  | 0, e1, e2 => cases e1; cases e2; exact h1
  | _ + 1, e1, _ => simp at e1
theorem three {R : V → V → Prop} {a b c d e f x y : V} {i : Nat} (h1 : R a d) (h2 : R b e) (h3 : R c f) (e1 : [a, b, c][i]? = some x) (e2 : [d, e, f][i]? = some y) : R x y := by
  match i, e1, e2 with
  | 0, e1, e2 => cases e1; cases e2; exact h1
  | 1, e1, e2 => cases e1; cases e2; exact h2
  | 2, e1, e2 => cases e1; cases e2; exact h3
  | _ + 3, e1, _ => simp at e1
theorem fit {names many : Nat} {row : Row} (ok : RowOk names many row) {i : Nat} {x y : V} (e1 : (partsOf row)[i]? = some x) (e2 : ((rowV row).drop 1)[i]? = some y) : FitAt names many x y := by
  cases row with
  | put n v => exact two (fit_name ok.1) (fit_number ok.2) e1 e2
  | copy n o => exact two (fit_name ok.1) (fit_name ok.2) e1 e2
  | add n a b => exact three (fit_name ok.1) (fit_name ok.2.1) (fit_name ok.2.2) e1 e2
  | take n a b => exact three (fit_name ok.1) (fit_name ok.2.1) (fit_name ok.2.2) e1 e2
  | less n a b => exact three (fit_name ok.1) (fit_name ok.2.1) (fit_name ok.2.2) e1 e2
  | call n o => exact two (fit_name ok.1) (fit_name ok.2) e1 e2
  | say n => exact one (fit_name ok) e1 e2
  | iff n r => exact two (fit_name ok.1) (fit_row ok.2) e1 e2
  | go r => exact one (fit_row ok) e1 e2
  | fin => simp [partsOf] at e1
section
variable {base : Heap} {K : PySem.W.Frag} {mg : Str → Option Value} {P : Program} {w : World}
def spRowCan (T : Addr) : Sp := fun vs H Q _ => ∃ (r : Addr) (row : Row) (names many : Nat), vs = [.ref r, .int names, .int many] ∧ H r = some (.tup (rowV row)) ∧ RowOk names many row ∧ TabG H T ∧ ∀ H', Ext no H H' → Q (.bl true) H'
abbrev nRowCan : List Str := ["row", "names", "many", "parts", "highest", "part", "told"]
theorem scRowCan : FnScope nRowCan ["row", "names", "many"] (defScope s_row_can_be) := ⟨rfl, rfl, rfl, by decide +kernel, rfl, by decide +kernel, by decide +kernel⟩
theorem ok_rowCan {f c T fN d : Addr} {fd fdN : FuncData} {es : Array DictEntry} {n0 : Nat} (D : Dc K mg "row_can_be" s_row_can_be ["row", "names", "many"] f fd c) (TB : TabB base mg c T) (DN : Df K mg "is_number" s_is_number ["value", "low", "high"] fN fdN)
    (PT0 : Parts K w mg d es n0) (B : Bt mg) (G : Gk mg) : FnOk P w K mg base CX0 4 f fd ["row", "names", "many"] (spRowCan T) := by
  have GN : FnOk P w K mg base CX0 1 fN fdN ["value", "low", "high"] spNum := ok_num DN B
  refine D.ok scRowCan (fun vs H Q E h => ?_) (fun A outer s H vs Q E hr h => ?_)
  · obtain ⟨r, row, names, many, rfl, _⟩ := h
    rfl
  · obtain ⟨r, row, names, many, rfl, hrow, ok, tab, q⟩ := h
    have hu := hu_of hr
    refine ⟨_, pss_cons (ps_if (PW.pt (pw_or (pt_not (pt_val (pe_callB call_isi (by rfl) B.isinstance (by decide +kernel) (pa_cons (pv 0) (pa_cons (pe_bltn (v := .ty "tuple") (by rfl) B.tuple (by decide +kernel) rfl) pa_nil)))))
        (pw_or (pt_not (pt_truth (pv 0) (fun _ => rfl))) (pw_or1 (pt_not (pt_val (pe_callB call_isi (by rfl) B.isinstance (by decide +kernel) (pa_cons (pe_ix ix_tup (pv 0) pe_int (fun _ _ => rfl)) (pa_cons (pe_bltn (v := .ty "str") (by rfl) B.str (by decide +kernel) rfl) pa_nil)))))))))
        (pss_one (ps_ret pe_bl)) pss_nil)
      (pss_cons (ps_if (pt_cmpR (op_notIn_kd PT0.kd) (pe_ix ix_tup (pv 0) pe_int (fun _ _ => rfl)) (pe_glob (v := .ref d) (by rfl) PT0.g rfl) (by rfl)) (pss_one (ps_ret pe_bl)) pss_nil)
      (pss_cons (ps_set (i := 3) scRowCan.nd rfl (.inl rfl) (pe_ix ix_kdict (pe_glob (v := .ref d) (by rfl) PT0.g rfl) (pe_ix ix_tup (pv 0) pe_int (fun _ _ => rfl)) (fun _ _ => rfl)))
      (pss_cons (ps_set (i := 4) scRowCan.nd rfl (.inr rfl) (pe_disp (pps_cons pe_str (pe_op op_sub (pv 1) pe_int) (pps_cons pe_str (pe_num G.value) (pps_cons pe_str (pe_op op_sub (pv 2) pe_int) pps_nil))) rfl rfl (by simp) (by decide)))
      (pss_cons (ps_if (pt_cmpR op_ne (pe_callB call_len_seq (by rfl) B.len PySem.boot_len (pa_cons (pv 0) pa_nil)) (pe_op op_add (pe_callB call_len_seq (by rfl) B.len PySem.boot_len (pa_cons (pv 3) pa_nil)) pe_int) (nomark _)) (pss_one (ps_ret pe_bl)) pss_nil)
      (pss_one (ps_ret (pe_allG (P := T) (own := [("part", 5), ("told", 6)]) (k := 1) (g := gTup K 2 (gCons (gName 5) (gCons (gName 6) gNil))) (tt := tYes) hr (by rfl) B.all TB rfl scRowCan.nd (pi_zipA (by rfl) B.zip (pa_cons (pv 3) (pa_cons (pe_slice sl_tup (pv 0) (po_some pe_int) po_none) pa_nil)))
        (blkOk_by (N := nRowCan) (sc := defScope s_row_can_be) (by decide +kernel))
        (fun _ _ _ _ _ _ _ _ _ => pg_tup rfl (pgs_cons (pg_name (i := 5) scRowCan.nd rfl (Or.inl rfl)) (pgs_cons (pg_name (i := 6) scRowCan.nd rfl (Or.inl rfl)) pgs_nil))) (fun _ _ _ _ _ _ _ _ _ => pts_nil)
        (fun _ _ _ _ _ _ _ _ hA => pcall DN GN hA (pa_cons (pv 6) (pa_cons pe_int (pa_cons (pe_dget (hu_of hA) (pv 4) (pv 5) (fun _ _ => rfl)) pa_nil))))))))))), ?_⟩
    have hT := SqT.of (K := K) hrow
    obtain ⟨rest, word⟩ := rowV_word row
    have first : atI (rowV row) 0 = some (.str (wordOf row)) := by rw [word]; exact atI_nat (j := 0) rfl
    obtain ⟨pa, isP, tupP⟩ := PT0.ex row
    refine ⟨_, rfl, _, _, _, _, true, rfl, .ty "tuple", tyT hT, kit_ty (by decide +kernel), _, rfl, iteF ?_⟩
    refine ⟨_, rfl, true, .inr (.inl ⟨_, hT, by rw [word]; rfl⟩), iteF ?_⟩
    refine ⟨_, rfl, r, _, 0, _, rfl, rfl, hT, first, _, _, _, _, true, rfl, .ty "str", .base (.str _), kit_ty (by decide +kernel), _, rfl, iteF ?_⟩
    -- row[0] not in PARTS
    refine ⟨_, rfl, r, _, 0, _, rfl, rfl, hT, first, _, _, rfl, rfl, isP, _, rfl, iteF ?_⟩
    -- parts = PARTS[row[0]]
    refine ⟨_, rfl, r, _, 0, _, rfl, rfl, hT, first, d, _, .ref pa, rfl, rfl, ⟨_, _, _, PT0.kd.at_, PT0.kd.lit, isP, rfl⟩, ?_⟩
    -- highest
    refine fun p np => ⟨_, rfl, _, _, rfl, rfl, _, rfl, _, _, rfl, rfl, ?_⟩
    refine ⟨upd_same, highs names many, rfl, by show 3 ≤ 15; decide, ?_⟩
    generalize hH1 : upd (upd H p (.dK [])) p (.dK (mergeK [] (highs names many))) = H1
    have hp1 : H1 p = some (.dK (mergeK [] (highs names many))) := by rw [← hH1]; exact upd_same
    have x1 : Ext no H H1 := by rw [← hH1]; exact (Ext.new np).own np
    -- len(row) != len(parts) + 1
    refine ⟨_, rfl, r, _, rfl, .inr (x1.sqT (fun z => z) hT), _, rfl, pa, _, rfl, .inr (tupP H1), _, _, rfl, rfl, rfl, _, rfl, iteNS ?_ ?_⟩
    · rw [word, parts_len, word]
      rfl
    -- all(..)
    refine ⟨_, rfl, _, rfl, 1, rfl, r, _, rfl, x1.sqT (fun z => z) hT, notAll (k := 1) (by decide) (by rw [word]; exact Nat.zero_lt_succ _), fun sl nsl => ?_⟩
    have cut1 : cutV (rowV row) (some 1) none = (rowV row).drop 1 := cutFrom (rowV row) 1
    generalize hH2 : upd H1 sl (.tup (cutV (rowV row) (some 1) none)) = H2
    have hs2 : H2 sl = some (.tup ((rowV row).drop 1)) := by rw [← hH2, upd_same, cut1]
    have x2 : Ext no H1 H2 := by rw [← hH2]; exact Ext.new nsl
    refine ⟨pa, sl, _, _, rfl, .inr ⟨tupP H2, SqT.of hs2, (x1.trans x2).tab T tab, fun H3 t3 => ?_⟩⟩
    have x3 : Ext no H2 H3 := Ext.tbd ((x1.trans x2).tab T tab) t3
    refine gx_zipT (xs := partsOf row) (ys := (rowV row).drop 1) (parts_len row) (fun i acc H4 => Ext no H3 H4) (Ext.refl _ _) (fun i acc H4 x4 => ⟨tupP H4, SqT.of (x4.tup _ _ (x3.tup _ _ hs2))⟩) ?_ ?_
    · intro i x y t acc H4 isX isY x4 nt
      obtain ⟨sx, z, hi, rfl, rfl, hv, z0, z1⟩ := fit ok isX isY
      have x5 : Ext no H1 (upd H4 t (.tup [.str sx, .int z])) := ((x2.trans x3).trans x4).trans (Ext.new nt)
      have hp5 := x5.oth p _ (fun z => z) (fun _ z => by cases z) hp1
      refine ⟨t, _, rfl, SqT.of upd_same, rfl, _, _, rfl, _, _, rfl, rfl, ?_⟩
      refine ⟨rfl, ?_⟩
      refine ⟨_, rfl, _, rfl, _, rfl, p, _, rfl, .inl ⟨_, Sum.inr sx, .inl hp5, rfl, hv.symm⟩, z, 0, hi, rfl, ?_⟩
      rw [decide_eq_true z0, decide_eq_true z1]
      exact ⟨⟨true, rfl, fun z => by cases z⟩, fun _ => x4.trans (Ext.new nt)⟩
    · intro acc H4 x4
      exact q _ (((x1.trans x2).trans x3).trans x4)
end
end Bw
namespace Bw
open PySem PySem.Spec PyProof.Rows L2 GxR Gx RZ
/-! ### the program: a row's names -/
def namesOf : Row → List Nat
  | .put n _ => [n]
  | .copy n o => [n, o]
  | .add n a b => [n, a, b]
  | .take n a b => [n, a, b]
  | .less n a b => [n, a, b]
  | .call n o => [n, o]
  | .say n => [n]
  | .iff n _ => [n]
  | _ => []
abbrev told (row : Row) : List (V × V) := (partsOf row).zip ((rowV row).drop 1)
section
variable {base : Heap} {K : PySem.W.Frag} {mg : Str → Option Value} {P : Program} {w : World}
/-! ### the program: programs that can be -/
def spHead : Sp := fun vs H Q _ => ∃ (a : Addr) (p : Prog), vs = [.ref a] ∧ ProgAt H a p ∧ p.Ok ∧ Q (.bl true) H
abbrev nHead : List Str := ["program", "params", "names", "rows"]
theorem scHead : FnScope nHead ["program"] (defScope s_head_can_be) := ⟨rfl, rfl, rfl, by decide +kernel, rfl, by decide +kernel, by decide +kernel⟩
theorem ok_head {f fN fT : Addr} {fd fdN fdT : FuncData} (D : Df K mg "head_can_be" s_head_can_be ["program"] f fd) (DN : Df K mg "is_number" s_is_number ["value", "low", "high"] fN fdN) (DT : Df K mg "is_tuple_of" s_is_tuple_of ["value", "many"] fT fdT)
    (B : Bt mg) (G : Gk mg) : FnOk P w K mg base CX0 2 f fd ["program"] spHead := by
  have GN : FnOk P w K mg base CX0 1 fN fdN ["value", "low", "high"] spNum := ok_num DN B
  have GT : FnOk P w K mg base CX0 1 fT fdT ["value", "many"] (spTupOf K) := ok_tupOf DT B
  refine D.F.ok scHead (fun vs H Q E h => ?_) (fun cdv A outer s H vs Q E hr h => ?_)
  · obtain ⟨a, p, rfl, _⟩ := h
    rfl
  · obtain ⟨a, p, rfl, hp, ok, q⟩ := h
    refine ⟨_, pss_cons (ps_if (pt_not (pt_val (pcall DT GT hr (pa_cons (pv 0) (pa_cons pe_int pa_nil))))) (pss_one (ps_ret pe_bl)) pss_nil)
      (pss_cons (ps_asg (pv 0) (pg_tup rfl (pgs_cons (pg_name (i := 1) scHead.nd rfl (Or.inl rfl)) (pgs_cons (pg_name (i := 2) scHead.nd rfl (Or.inl rfl)) (pgs_cons (pg_name (i := 3) scHead.nd rfl (Or.inl rfl)) pgs_nil)))))
      (pss_cons (ps_if (PW.pt (pw_or (pt_not (pt_val (pcall DN GN hr (pa_cons (pv 2) (pa_cons pe_int (pa_cons (pe_num G.names) pa_nil)))))) (pw_or1 (pt_not (pt_val (pcall DN GN hr (pa_cons (pv 1) (pa_cons pe_int (pa_cons (pv 2) pa_nil)))))))))
        (pss_one (ps_ret pe_bl)) pss_nil)
      (pss_one (ps_ret (pe_and (pe_callB call_isi (by rfl) B.isinstance (by decide +kernel) (pa_cons (pv 3) (pa_cons (pe_bltn (v := .ty "tuple") (by rfl) B.tuple (by decide +kernel) rfl) pa_nil)))
        (pe_one (pe_cmpR op_gt (pe_callB call_len_seq (by rfl) B.len PySem.boot_len (pa_cons (pv 3) pa_nil)) pe_int (nomark _)))))))), ?_⟩
    obtain ⟨rs, as, ha, hrs, hrows⟩ := hp.ex
    refine ⟨_, rfl, a, _, 3, rfl, SqT.of ha, _, rfl, iteF ?_⟩
    refine ⟨_, rfl, a, _, rfl, SqT.of ha, rfl, _, _, rfl, _, _, rfl, _, _, rfl, rfl, ?_⟩
    have n0 := ok.n0
    have n1 := ok.n1
    have pn := ok.pn
    refine ⟨_, rfl, p.names, 1, 8, rfl, _, rfl, ?_⟩
    rw [decide_eq_true (show (1 : Int) ≤ p.names by omega), decide_eq_true (show (p.names : Int) ≤ 8 by omega)]
    refine iteF ⟨_, rfl, _, rfl, p.params, 0, p.names, rfl, _, rfl, ?_⟩
    rw [decide_eq_true (show (0 : Int) ≤ p.params by omega), decide_eq_true (show (p.params : Int) ≤ p.names by omega)]
    refine iteF ?_
    have hT : SqT K H rs (as.map V.ref) := SqT.of hrs
    refine ⟨_, rfl, _, _, _, _, true, rfl, .ty "tuple", tyT hT, kit_ty (by decide +kernel), _, rfl, iteT ?_⟩
    refine ⟨_, rfl, rs, _, rfl, .inr hT, _, _, rfl, rfl, ?_⟩
    have r0 := ok.r0
    show Q (.bl (decide ((0 : Int) < ((as.map V.ref).length : Int)))) H
    rw [decide_eq_true (show (0 : Int) < ((as.map V.ref).length : Int) by rw [List.length_map, hrows.len]; omega)]
    exact q
end
end Bw
namespace Bw
open PySem PySem.Spec PyProof.Rows L2 GxR
def m0 : Mark := (0, "")
def isCopy : Row → Bool
  | .copy .. => true
  | _ => false
def isIf : Row → Bool
  | .iff .. => true
  | _ => false
def tells : Row → Bool
  | .say .. => true
  | .iff .. => true
  | _ => false
def firstName : Row → Nat
  | .put n _ => n | .copy n _ => n | .add n _ _ => n | .take n _ _ => n | .less n _ _ => n | .call n _ => n | .say n => n | .iff n _ => n | .go _ => 0 | .fin => 0
def otherName : Row → Nat
  | .copy _ o => o
  | _ => 0
def eatenBy (f : Fr) (row : Row) : List Nat := if calls row = true then f.eaten else []
end Bw
namespace Bw
open PySem PySem.Spec PyProof.Rows L2 GxR
end Bw
namespace Bw
open PySem PySem.Spec PyProof.Rows L2 GxR
end Bw
namespace Bw
open PySem PySem.Spec PyProof.Rows L2 GxR Gx RZ
section
variable {X : Cx} {c : Cw} {M : Addr → Prop} {Γ : List Sl}
/-- no test -/
theorem pq_nil : PTs X [] (tQ c M Γ true) := PTs.mono pts_nil fun σ H Q ⟨r, q⟩ => q H (Ext.refl _ _) r.bx
end
section
variable {base : Heap} {K : PySem.W.Frag} {mg : Str → Option Value} {P : Program} {w : World}
/-! with_copied -/
def copyOf (l : List Nat) (n o : Nat) : List Nat := if o ∈ l then (outOf l n ++ [n]).mergeSort (fun a b => decide (a ≤ b)) else outOf l n
end
end Bw
namespace Bw
open PySem PySem.Spec PyProof.Rows L2 GxR Gx RZ
section
variable {base : Heap} {K : PySem.W.Frag} {mg : Str → Option Value} {P : Program} {w : World}
def spCheck (T : Addr) : Sp := fun vs H Q _ => ∃ (a : Addr) (p : Prog), vs = [.ref a] ∧ ProgAt H a p ∧ p.Ok ∧ TabG H T ∧ ∀ H', Ext no H H' → Q .non H'
abbrev nCheck : List Str := ["program", "names", "rows", "many", "at", "row"]
theorem scCheck : FnScope nCheck ["program"] (defScope s_check_program) := ⟨rfl, rfl, rfl, by decide +kernel, rfl, by decide +kernel, by decide +kernel⟩
theorem ok_check {f fH fR c T fN fT d : Addr} {fd fdH fdR fdN fdT : FuncData} {es : Array DictEntry} {n0 : Nat} (D : Df K mg "check_program" s_check_program ["program"] f fd) (DH : Df K mg "head_can_be" s_head_can_be ["program"] fH fdH)
    (DR : Dc K mg "row_can_be" s_row_can_be ["row", "names", "many"] fR fdR c) (TB : TabB base mg c T) (DN : Df K mg "is_number" s_is_number ["value", "low", "high"] fN fdN) (DT : Df K mg "is_tuple_of" s_is_tuple_of ["value", "many"] fT fdT)
    (PT0 : Parts K w mg d es n0) (B : Bt mg) (G : Gk mg) : FnOk P w K mg base CX0 5 f fd ["program"] (spCheck T) := by
  have GH : FnOk P w K mg base CX0 2 fH fdH ["program"] spHead := ok_head DH DN DT B G
  have GR : FnOk P w K mg base CX0 4 fR fdR ["row", "names", "many"] (spRowCan T) := ok_rowCan DR TB DN PT0 B G
  refine D.F.ok scCheck (fun vs H Q E h => ?_) (fun cdv A outer s H vs Q E hr h => ?_)
  · obtain ⟨a, p, rfl, _⟩ := h
    rfl
  · obtain ⟨a, p, rfl, hp, ok, tab, q⟩ := h
    refine ⟨_, pss_cons (ps_if (pt_not (pt_val (pcall DH GH (hr.mono (show 2 ≤ 4 by decide)) (pa_cons (pv 0) pa_nil)))) (pss_one ps_never) pss_nil)
      (pss_cons (ps_set (i := 1) scCheck.nd rfl (.inl rfl) (pe_ix ix_tup (pv 0) pe_int (fun _ _ => rfl)))
      (pss_cons (ps_set (i := 2) scCheck.nd rfl (.inl rfl) (pe_ix ix_tup (pv 0) pe_int (fun _ _ => rfl)))
      (pss_cons (ps_set (i := 3) scCheck.nd rfl (.inl rfl) (pe_callB (call_min2 rfl) (by rfl) B.min (by decide +kernel) (pa_cons (pe_callB call_len_seq (by rfl) B.len PySem.boot_len (pa_cons (pv 2) pa_nil)) (pa_cons (pe_num G.rows) pa_nil))))
      (pss_one (ps_for PassesOwn.never rfl (pi_enumT (by rfl) B.enumerate (pa_cons (pv 2) pa_nil)) (pg_tup rfl (pgs_cons (pg_name (i := 4) scCheck.nd rfl (.inl rfl)) (pgs_cons (pg_name (i := 5) scCheck.nd rfl (.inl rfl)) pgs_nil)))
        (pss_one (ps_if (PW.pt (pw_or (pt_cmpR op_eq (pv 4) (pe_num G.rows) (nomark _)) (pw_or1 (pt_not (pt_val (pcall DR.D GR hr (pa_cons (pv 5) (pa_cons (pv 1) (pa_cons (pv 3) pa_nil)))))))))
          (pss_one ps_never) pss_nil))))))), ?_⟩
    obtain ⟨rs, as, ha, hrs, hrows⟩ := hp.ex
    refine ⟨_, rfl, a, p, rfl, hp, ok, _, rfl, iteF ?_⟩
    refine ⟨_, rfl, a, _, 1, _, rfl, rfl, SqT.of ha, atI_nat (j := 1) rfl, ?_⟩
    refine ⟨_, rfl, a, _, 2, _, rfl, rfl, SqT.of ha, atI_nat (j := 2) rfl, ?_⟩
    have hrl : (as.map V.ref).length = p.rows.length := by rw [List.length_map, hrows.len]
    have r24 := ok.r1
    refine ⟨_, rfl, rs, _, rfl, .inr (SqT.of hrs), _, _, rfl, ?_⟩
    rw [hrl, if_neg (show ¬ (24 : Int) < ((p.rows.length : Nat) : Int) by omega)]
    refine ⟨_, rfl, rs, _, rfl, SqT.of hrs, for_enumT (xs := as.map V.ref) (fun i σ H2 => (∃ v3 v4, σ = [some (.ref a), some (.int p.names), some (.ref rs), some (.int p.rows.length), v3, v4]) ∧ Ext no H H2) ⟨⟨none, none, rfl⟩, Ext.refl _ _⟩ (fun i σ H2 x2 => SqT.of (x2.2.tup _ _ hrs)) ?_ ?_⟩
    · rintro i x t σ H2 isX ⟨⟨v3, v4, rfl⟩, x2⟩ nt
      rw [List.getElem?_map] at isX
      obtain ⟨r, hr0, rfl⟩ : ∃ r, as[i]? = some r ∧ x = V.ref r := by
        cases e : as[i]? with
        | none => rw [e] at isX; cases isX
        | some r => rw [e] at isX; exact ⟨r, rfl, (Option.some.inj isX).symm⟩
      have hi : i < p.rows.length := by
        rw [← hrows.len]
        exact (List.getElem?_eq_some_iff.mp hr0).1
      have hrow := x2.tup _ _ (hrows.at_ i r _ hr0 (List.getElem?_eq_getElem hi))
      have x3 : Ext no H2 (upd H2 t (.tup [.int i, .ref r])) := Ext.new nt
      refine ⟨t, _, rfl, SqT.of upd_same, rfl, _, _, rfl, _, _, rfl, rfl, ?_⟩
      refine ⟨_, rfl, rfl, ⟨_, rfl, ?_⟩⟩
      rw [decide_eq_false (fun z : V.int i = V.int 24 => by have := V.int.inj z; omega)]
      refine iteF ⟨_, rfl, _, rfl, _, rfl, ?_⟩
      refine ⟨r, p.rows[i], p.names, p.rows.length, rfl, x3.tup _ _ hrow, ok.ok _ (List.getElem_mem hi), x3.tab T (x2.tab T tab), fun H4 x4 => ⟨_, rfl, iteF ⟨⟨_, _, rfl⟩, (x2.trans x3).trans x4⟩⟩⟩
    · rintro σ H2 ⟨_, x2⟩
      exact q _ x2
end
end Bw
namespace Bw
open PySem PySem.Spec PyProof.Rows L2 GxR Gx RZ
def isMaker : Row → Bool
  | .put .. => true
  | .copy .. => true
  | .add .. => true
  | .take .. => true
  | .less .. => true
  | .call .. => true
  | _ => false
/-- the number of the row behind a row -/
def behind (row : Row) (i : Nat) (j : Bool) : Nat := match row with
  | .go r => r
  | .iff _ r => if j = true then r else i + 1
  | _ => i + 1
end Bw
namespace Bw
open PySem PySem.Spec PyProof.Rows L2 GxR Gx RZ
/-! ### words of rows; what a row is handed (for walks and for papers) -/
section
variable {base : Heap} {K : PySem.W.Frag} {mg : Str → Option Value} {P : Program} {w : World}
/-- of the row's boxes those that it is handed -/
def handG (row : Row) (bs : List Nat) : List Nat := if isMaker row = true then bs.drop 1 else bs
end
end Bw
namespace Bw
open PySem PySem.Spec PyProof.Rows L2 GxR Gx RZ
end Bw
namespace Bw
open PySem PySem.Spec PyProof.Rows L2 GxR Gx RZ
end Bw
namespace Bw
open PySem PySem.Spec PyProof.Rows L2 GxR Gx RZ
/-! ### the program: moves that can be -/
end Bw
namespace Bw
open PySem PySem.Spec PyProof.Rows L2 GxR Gx RZ
end Bw
namespace Bw
open PySem PySem.Spec PyProof.Rows L2 GxR Gx RZ
/-! ### the program: choices that can be (given places_can_be) -/
end Bw
namespace Bw
open PySem PySem.Spec PyProof.Rows L2 GxR Gx RZ
end Bw
namespace Bw
open PySem PySem.Spec PyProof.Rows L2 GxR Gx RZ
end Bw
/-! a set of tuples of numbers and texts, few of them: only how many there are is wanted -/
namespace Sx
open L2 PyProof.Rows PySem PySem.Spec
abbrev En := Addr × List Key
abbrev hk (P : Program) (w : World) (k : List Key) : Int := tupleKeyHash (mixKind P w) k
def cell (P : Program) (w : World) (e : En) : Int × Value := (hk P w e.2, .ref e.1)
end Sx
namespace Sx
open L2 PyProof.Rows PySem PySem.Spec
end Sx
namespace Sx
open L2 PyProof.Rows PySem PySem.Spec
end Sx
namespace Bw
open PySem PySem.Spec PyProof.Rows L2 GxR Gx RZ
end Bw
namespace Bw
open PySem PySem.Spec PyProof.Rows L2 GxR Gx RZ
/-! ### programs, frames, choices as data -/
mutual
def onlyT : PyData → Bool
  | .int _ => true
  | .str _ => true
  | .tuple ds => onlyTs ds
  | _ => false
def onlyTs : List PyData → Bool
  | [] => true
  | d :: ds => onlyT d && onlyTs ds
end
mutual
theorem Td.tp {M : Addr → Prop} {H : Hp} : ∀ {v : V} {d : PyData}, Td M H v d → onlyT d = true → Tp H v d
  | _, _, .int i, _ => .int i
  | _, _, .str z, _ => .str z
  | _, _, .tup h all, e => .tup h (TdAll.tp all (by rw [onlyT] at e; exact e))
  | _, _, .non, e => by simp [onlyT] at e
  | _, _, .bl _, e => by simp [onlyT] at e
  | _, _, .lst _ _ _, e => by simp [onlyT] at e
theorem TdAll.tp {M : Addr → Prop} {H : Hp} : ∀ {vs : List V} {ds : List PyData}, TdAll M H vs ds → onlyTs ds = true → TpAll H vs ds
  | _, _, .nil, _ => .nil
  | _, _, .cons h t, e => by
    rw [onlyTs, Bool.and_eq_true] at e
    exact .cons (Td.tp h e.1) (TdAll.tp t e.2)
end
def vD : V → PyData
  | .int i => .int i
  | .str s => .str s
  | _ => .none
def rowD (row : Row) : PyData := .tuple ((rowV row).map vD)
def progD (p : Prog) : PyData := .tuple [nI p.params, nI p.names, .tuple (p.rows.map rowD)]
theorem rowV_flat {M : Addr → Prop} {H : Hp} (row : Row) : TdAll M H (rowV row) ((rowV row).map vD) := by
  cases row <;> simp only [rowV, List.map_cons, List.map_nil, vD] <;> repeat (first | exact .nil | exact .cons (.int _) .nil | exact .cons (.str _) .nil | refine .cons (.str _) ?_ | refine .cons (.int _) ?_)
theorem Td.ofRow {M : Addr → Prop} {H : Hp} {r : Addr} {row : Row} (h : H r = some (.tup (rowV row))) : Td M H (.ref r) (rowD row) := .tup h (rowV_flat row)
theorem rowV_back {M : Addr → Prop} {H : Hp} {vs : List V} (row : Row) (h : TdAll M H vs ((rowV row).map vD)) : vs = rowV row := by
  have f : ((rowV row).map vD).all flatD = true := by cases row <;> rfl
  have e := h.flatE f
  rw [e]
  cases row <;> rfl
theorem Td.rowE {M : Addr → Prop} {H : Hp} {v : V} {row : Row} (h : Td M H v (rowD row)) : ∃ r, v = .ref r ∧ H r = some (.tup (rowV row)) := by
  obtain ⟨a, vs, e, ha, all⟩ := h.tupE
  exact ⟨a, e, by rw [ha, rowV_back row all]⟩
theorem rows_td {M : Addr → Prop} {H : Hp} : ∀ {as : List Addr} {rows : List Row}, RowsAt H as rows → TdAll M H (as.map V.ref) (rows.map rowD)
  | [], [], _ => .nil
  | [], _ :: _, h => absurd h.len (by simp)
  | _ :: _, [], h => absurd h.len (by simp)
  | a :: as, r :: rows, h => .cons (.ofRow (h.at_ 0 a r rfl rfl)) (rows_td (as := as) (rows := rows) ⟨by simpa using h.len, fun i b u e1 e2 => h.at_ (i + 1) b u (by simpa using e1) (by simpa using e2)⟩)
theorem rows_back {M : Addr → Prop} {H : Hp} : ∀ {rows : List Row} {vs : List V}, TdAll M H vs (rows.map rowD) → ∃ as, vs = as.map V.ref ∧ RowsAt H as rows
  | [], _, h => by
    cases h
    exact ⟨[], rfl, rfl, fun i a r e => by cases e⟩
  | r :: rows, _, h => by
    cases h with
    | cons a t =>
      obtain ⟨ra, rfl, hr⟩ := a.rowE
      obtain ⟨as, rfl, ha⟩ := rows_back t
      refine ⟨ra :: as, rfl, by simp [ha.len], fun i b u e1 e2 => ?_⟩
      cases i with
      | zero =>
        cases e1
        cases e2
        exact hr
      | succ i => exact ha.at_ i b u (by simpa using e1) (by simpa using e2)
theorem ProgAt.td {M : Addr → Prop} {H : Hp} {a : Addr} {p : Prog} (h : ProgAt H a p) : Td M H (.ref a) (progD p) := by
  obtain ⟨rs, as, h1, h2, h3⟩ := h.ex
  exact .tup h1 (.cons (.int _) (.cons (.int _) (.cons (.tup h2 (rows_td h3)) .nil)))
theorem Td.progE {M : Addr → Prop} {H : Hp} {v : V} {p : Prog} (h : Td M H v (progD p)) : ∃ a, v = .ref a ∧ ProgAt H a p := by
  obtain ⟨a, vs, e, ha, all⟩ := h.tupE
  cases all with
  | cons h1 t1 =>
    cases t1 with
    | cons h2 t2 =>
      cases t2 with
      | cons h3 t3 =>
        cases t3
        obtain ⟨b, us, eb, hb, allr⟩ := h3.tupE
        obtain ⟨as, rfl, hrows⟩ := rows_back allr
        rw [h1.intE, h2.intE, eb] at ha
        exact ⟨a, e, b, as, ha, hb, hrows⟩
end Bw
namespace Bw
open PySem PySem.Spec PyProof.Rows L2 GxR Gx RZ
theorem Reps.any {c : Cw} {M : Addr → Prop} {H : Hp} : ∀ {σ : List (Option V)} {Γ : List Sl} (i : Nat), Reps c M H σ Γ → Reps c M H σ (Γ.set i .any)
  | _, _, _, .nil => .nil
  | _, _, 0, .cons _ t => .cons trivial t
  | _, _, i + 1, .cons h t => .cons h (Reps.any i t)
theorem As.any {c : Cw} {H0 : Hp} {m M : Addr → Prop} {Γ : List Sl} {σ : L2.St} {H : Hp} (i : Nat) (h : As c H0 m M Γ σ H) : As c H0 m M (Γ.set i .any) σ H := ⟨⟨h.1.sl.any i, h.1.tb, h.1.bx, h.1.sub, h.1.al⟩, h.2⟩
section
variable {X : Cx} {A : L2.St → Hp → Prop} {D : Ends}
theorem hs_post {s : Stmt} {N : L2.St → Hp → Prop} (h : HS X s A { D with nx := N }) (i : ∀ σ H, N σ H → D.nx σ H) : HS X s A D := h.mono fun D' σ H ⟨a, n, r⟩ => ⟨a, fun σ H z => n σ H (i σ H z), r⟩
end
section
variable {X : Cx} {c : Cw} {M : Addr → Prop} {Γ : List Sl}
theorem pq_isN {a : Expr} {d : PyData} {j pos pos'} (ha : PD X c M Γ a d) : PQ X c M Γ (.Compare a [.Is] [.Constant .none j pos'] pos) (dNone d) :=
  pq_cmp op_isN ha (pd_non (X := X)) (fun x y H Q hx hy q => by
    rw [hy.nonE]
    exact ⟨rfl, q _ _ (by rw [hx.isN]; exact .bl _) (Ext.refl _ _)⟩)
theorem pq_notN {a : Expr} {d : PyData} {j pos pos'} (ha : PD X c M Γ a d) : PQ X c M Γ (.Compare a [.IsNot] [.Constant .none j pos'] pos) (!dNone d) :=
  pq_cmp op_notN ha (pd_non (X := X)) (fun x y H Q hx hy q => by
    rw [hy.nonE]
    exact ⟨rfl, q _ _ (by rw [hx.isN]; exact .bl _) (Ext.refl _ _)⟩)
end
section
variable {base : Heap} {K : PySem.W.Frag} {mg : Str → Option Value} {P : Program} {w : World}
/-! first_layout -/
def layIn (f : Fr) : List Pl → Nat → List (List Nat) → List (List Nat)
  | [], _, L => L
  | q :: qs, k, L => layIn f qs (k + 1) (L.set (q.cell f) [k])
def firstL (f : Fr) (ps : List Pl) : List (List Nat) := layIn f ps 0 (List.replicate (f.boxes + f.slots) [])
end
end Bw
namespace Bw
open PySem PySem.Spec PyProof.Rows L2 GxR Gx RZ
def waysOf (row : Row) : List (List Bool) := if isIf row = true then [[false], [true]] else [[]]
def stepAt (rows : List Row) (i : Nat) (row : Row) : List (List Bool × Nat) := ((waysOf row).map fun t => (t, behind row i (decide (t = [true])))).filter fun q => decide ((q.2 : Int) < (rows.length : Int))
def stepsOf (rows : List Row) (i : Nat) : List (List Bool × Nat) := match rows[i]? with
  | some row => if atEnd rows i = true then [] else stepAt rows i row
  | none => []
theorem hb_when {X : Cx} {ss : List Stmt} {A : L2.St → Hp → Prop} {D : Ends} {p : Prop} (h : p → HB X ss A D) : HB X ss (fun σ H => p ∧ A σ H) D := (pss_when h).mono fun D' σ H ⟨⟨hp, a⟩, r⟩ => ⟨hp, a, r⟩
end Bw
namespace Bw
open PySem PySem.Spec PyProof.Rows L2 GxR Gx RZ
end Bw
namespace Bw
open PySem PySem.Spec PyProof.Rows L2 GxR Gx RZ
end Bw
namespace Bw
open PySem PySem.Spec PyProof.Rows L2 GxR Gx RZ
/-! ### passed -/
def sameL (row : Row) (bs : List Nat) (L : List (List Nat)) : Bool := ((handG row (namesOf row)).zip (handG row bs)).all fun q => decide (q.1 ∈ atG [] L q.2)
def eatL : List Nat → List (List Nat) → List (List Nat)
  | [], L => L
  | b :: bs, L => eatL bs (L.set b [])
def coreL (f : Fr) (row : Row) (bs : List Nat) (same : Bool) (L : List (List Nat)) : List (List Nat) :=
  if isCopy row = true then (L.set (boxAt bs 0) (atG [] L (boxAt bs 1))).map fun l => copyOf l (firstName row) (otherName row)
  else if makes row = true then (eatL (eatenBy f row) (L.map fun l => outOf l (firstName row))).set (boxAt bs 0) (if same = true then [firstName row] else [])
  else L
def passL (f : Fr) (row : Row) (g : Grp) (L : List (List Nat)) : Bool × List (List Nat) :=
  (sameL row g.boxes (mvsG [] f g.ahead L), mvsG [] f g.behind (coreL f row g.boxes (sameL row g.boxes (mvsG [] f g.ahead L)) (mvsG [] f g.ahead L)))
end Bw
namespace Bw
open PySem
/-! ### what lies where behind a row hangs on pairs ahead of it, all of which must hold -/
abbrev has (L : List (List Nat)) (c n : Nat) : Prop := n ∈ atG [] L c
end Bw
namespace Bw
open PySem
section
variable {p : Prog} {f : Fr} {ch : Ch}
open Classical in
open Classical in
end
end Bw
namespace Bw
open PySem
/-! ### tables on their way down to what lies on all ways -/
abbrev Tab := List (Option (List (List Nat)))
def Sub (m : Nat) (A B : List (List Nat)) : Prop := ∀ c, c < m → ∀ n, has A c n → has B c n
def passAt (p : Prog) (f : Fr) (ch : Ch) (i : Nat) (A : List (List Nat)) : List (List Nat) := match p.rows[i]?, ch.groups[i]? with
  | some row, some g => (passL f row g A).2
  | _, _ => A
end Bw
namespace Bw
open PySem PySem.Spec PyProof.Rows L2 GxR Gx RZ
/-! ### ways of so many rows -/
inductive Goes (p : Prog) (f : Fr) (ch : Ch) : Nat → List Bool → Nat → List (List Nat) → Prop where
  | start : Goes p f ch 0 [] 0 (firstL f ch.places)
  | step {n : Nat} {ways : List Bool} {i : Nat} {L : List (List Nat)} {q : List Bool × Nat} (h : Goes p f ch n ways i L) (hq : q ∈ stepsOf p.rows i) : Goes p f ch (n + 1) (ways ++ q.1) q.2 (passAt p f ch i L)
/-! ### lacks, one by one -/
abbrev Lack := Option (Nat × Nat)
abbrev Spot := Nat × Lack
end Bw
namespace Bw
open PySem PySem.Spec PyProof.Rows L2 GxR Gx RZ
/-! ### pairs by keys -/
/-! ### a row's spots, from those of the rows ahead -/
abbrev Fro := List (Spot × List Bool)
end Bw
namespace Bw
open PySem PySem.Spec PyProof.Rows L2 GxR Gx RZ
theorem TdAll.dropLast {M : Addr → Prop} {H : Hp} {vs : List V} {ds : List PyData} (h : TdAll M H vs ds) : TdAll M H vs.dropLast ds.dropLast := by
  rw [List.dropLast_eq_take, List.dropLast_eq_take, h.len]
  exact h.take _
section
variable {X : Cx} {c : Cw} {H0 : Hp} {m M : Addr → Prop} {Γ : List Sl} {D : Ends}
theorem pq_neD {a b : Expr} {d e : PyData} {pos : Pos} (hu : X.A.units + 64 < cLine) (ha : PD X c M Γ a d) (hb : PD X c M Γ b e) (sd : SeqAt.shaped d = true) (se : SeqAt.shaped e = true) (hm : behindInMarks .NotEq b = false := by rfl) : PQ X c M Γ (.Compare a [.NotEq] [b] pos) (!PyData.eqv d e) :=
  pq_cmp (op_neD hu) ha hb (fun x y H Q hx hy q => ⟨d, e, hx.dp, hy.dp, sd, se, q _ _ (.bl _) (Ext.refl _ _)⟩) hm
theorem pq_eqD {a b : Expr} {d e : PyData} {pos : Pos} (hu : X.A.units + 64 < cLine) (ha : PD X c M Γ a d) (hb : PD X c M Γ b e) (sd : SeqAt.shaped d = true) (se : SeqAt.shaped e = true) (hm : behindInMarks .Eq b = false := by rfl) : PQ X c M Γ (.Compare a [.Eq] [b] pos) (PyData.eqv d e) :=
  pq_cmp (op_eqD hu) ha hb (fun x y H Q hx hy q => ⟨d, e, hx.dp, hy.dp, sd, se, q _ _ (.bl _) (Ext.refl _ _)⟩) hm
end
theorem lay_nats : ∀ l : List Nat, PyData.canLayAll0 (l.map nI) = true
  | [] => rfl
  | _ :: l => by rw [List.map_cons, PyData.canLayAll0, lay_nats l]; rfl
theorem deep_nats : ∀ l : List Nat, PyData.depthAll (l.map nI) = 0
  | [] => rfl
  | _ :: l => by rw [List.map_cons, PyData.depthAll, deep_nats l]; rfl
end Bw
namespace Bw
open PySem PySem.Spec PyProof.Rows L2 GxR Gx RZ
section
variable {X : Cx} {c : Cw} {H0 : Hp} {m M : Addr → Prop} {Γ : List Sl} {D : Ends}
/-- a for within whatever -/
theorem hs_forD {α : Type} {tg iter : Expr} {g : TG} {own : List Nat} {body : List Stmt} {pos : Pos} {ds : List PyData} {mw : Addr → Prop} (P : Nat → α → Prop) (G : α → List Sl) (G' : Nat → α → List Sl) (s0 : α) (hp : PassesOwn (model X.prog X.w) X.A X.env X.xe) (hc : X.calm = true) (cm : ∀ a, c.mx a → m a) (cw : ∀ a, c.mx a → mw a)
    (sw : ∀ a, mw a → m a ∨ H0 a = none) (hi : PIt X c M mw Γ tg iter ds) (hg : PG X tg g) (h0 : P 0 s0) (g0 : G s0 = Γ) (tgt : ∀ i d s, ds[i]? = some d → P i s → Tgt c M g own d (G s) (G' i s))
    (hb : ∀ H1, Ext m H0 H1 → (∀ a, M a → H1 a ≠ none) → ∀ i d s, ds[i]? = some d → P i s → HB X body (As c H1 mw M (G' i s)) { D with nx := fun σ H => ∃ s', P (i + 1) s' ∧ As c H1 mw M (G s') σ H, ct := fun σ H => ∃ s', P (i + 1) s' ∧ As c H1 mw M (G s') σ H, bk := D.nx })
    (done : ∀ s σ H, P ds.length s → As c H0 m M (G s) σ H → D.nx σ H) (hs : ∀ x, foldedSetIterable iter X.env x = pure x := by intro _; rfl) : HS X (.For tg iter body [] pos) (As c H0 m M Γ) D :=
  hs_for (D := D) P G G' s0 D.nx hp hc cm cw sw hi hg h0 g0 tgt hb done hs
end
end Bw
namespace Bw
open PySem PySem.Spec PyProof.Rows L2 GxR Gx RZ
section
variable {X : Cx} {c : Cw} {H0 : Hp} {m M : Addr → Prop} {Γ : List Sl} {D : Ends}
theorem hs_expr {e : Expr} {d : PyData} {pos : Pos} (cm : ∀ a, c.mx a → m a) (he : PD X c M Γ e d) (hs : swapsWith e none pos.line X.env = pure false := by rfl) : HS X (.Expr e pos) (As c H0 m M Γ) { D with nx := As c H0 m M Γ } :=
  (ps_expr he hs).mono fun D' σ H ⟨⟨r, x0⟩, n, _⟩ => ⟨r, fun v H1 hv x1 b1 => n _ _ ⟨r.ext x1 b1, x0.trans (x1.mono cm)⟩⟩
end
end Bw
namespace Bw
open PySem PySem.Spec PyProof.Rows L2 GxR Gx RZ
/-! ### draws: a box that is held, values that are only known to be among some -/
def cwB (Ts : List Addr) (b l : Addr) : Cw := ⟨Ts, bx b l, fun H => BoxAt H b l, fun m H H' off x h => h.ext x (fun z => off b z (.inl rfl)) (fun z => off l z (.inr rfl))⟩
def isS (M : Addr → Prop) (S : PyData → Prop) : RV := fun _ H v => ∃ d, S d ∧ Td M H v d
abbrev PX (X : Cx) (c : Cw) (M : Addr → Prop) (Γ : List Sl) (e : Expr) (S : PyData → Prop) : Prop := PV X c M Γ e (isS M S)
theorem back_s {M : Addr → Prop} {S : PyData → Prop} : Back (isS M S) := ⟨fun _ h => h⟩
/-- a number below n -/
def below (n : Nat) : PyData → Prop := fun d => ∃ k : Nat, k < n ∧ d = nI k
inductive Fits : List (PyData → Prop) → List PyData → Prop where
  | nil : Fits [] []
  | cons {S : PyData → Prop} {Ss : List (PyData → Prop)} {d : PyData} {ds : List PyData} (h : S d) (t : Fits Ss ds) : Fits (S :: Ss) (d :: ds)
theorem Fits.rep {S : PyData → Prop} : ∀ {n : Nat} {ds : List PyData}, Fits (List.replicate n S) ds → ds.length = n ∧ ∀ d ∈ ds, S d
  | 0, _, h => by cases h; exact ⟨rfl, fun _ z => by cases z⟩
  | n + 1, _, h => by
    cases h with
    | cons h t =>
      obtain ⟨e, all⟩ := Fits.rep t
      refine ⟨by rw [List.length_cons, e], fun d hd => ?_⟩
      rcases List.mem_cons.mp hd with rfl | z
      · exact h
      · exact all d z
theorem Fits.len : ∀ {Ss : List (PyData → Prop)} {ds : List PyData}, Fits Ss ds → ds.length = Ss.length
  | _, _, .nil => rfl
  | _, _, .cons _ t => congrArg Nat.succ (Fits.len t)
def tArX (c : Cw) (M : Addr → Prop) (Γ : List Sl) (Ss : List (PyData → Prop)) : TA := fun σ H Q => Rp c M H σ Γ ∧ ∀ vs ds H', TdAll M H' vs ds → Fits Ss ds → Ext c.mx H H' → c.Bx H' → Q vs H'
abbrev PAX (X : Cx) (c : Cw) (M : Addr → Prop) (Γ : List Sl) (es : List Expr) (Ss : List (PyData → Prop)) : Prop := PA X es (tArX c M Γ Ss)
section
variable {X : Cx} {c : Cw} {M : Addr → Prop} {Γ : List Sl}
theorem PV.among {e : Expr} {d : PyData} {S : PyData → Prop} (h : PD X c M Γ e d) (s : S d) : PX X c M Γ e S := PE.mono h fun σ H Q ⟨r, q⟩ => ⟨r, fun v H' tv x b => q v H' ⟨d, s, tv⟩ x b⟩
theorem PV.wider {e : Expr} {S S' : PyData → Prop} (h : PX X c M Γ e S) (w : ∀ d, S d → S' d) : PX X c M Γ e S' := PE.mono h fun σ H Q ⟨r, q⟩ => ⟨r, fun v H' ⟨d, s, tv⟩ x b => q v H' ⟨d, w d s, tv⟩ x b⟩
theorem arx_nil : PAX X c M Γ [] [] := PA.mono pa_nil fun σ H Q ⟨r, q⟩ => q [] [] H .nil .nil (Ext.refl _ _) r.bx
theorem arx {e : Expr} {es : List Expr} {S : PyData → Prop} {Ss : List (PyData → Prop)} (h : PX X c M Γ e S) (t : PAX X c M Γ es Ss) (hs : starEach (e :: es) X.env = (false, eval e X.env) :: starEach es X.env := by rfl) : PAX X c M Γ (e :: es) (S :: Ss) :=
  (pa_cons h t hs).mono fun σ H Q ⟨r, q⟩ => ⟨r, fun v H1 ⟨d, sd, hv⟩ x1 b1 => ⟨r.ext x1 b1, fun vs ds H2 all fit x2 b2 => q (v :: vs) (d :: ds) H2 (.cons (hv.ext x2 r.sub) all) (.cons sd fit) (x1.trans x2) b2⟩⟩
theorem px_two {a b e : Expr} {Sa Sb : PyData → Prop} {R : RV} {r : R2} (hp : PE X a (tV c M Γ (isS M Sa)) → PE X b (tV c M Γ (isS M Sb)) → PE X e (tOp r (tV c M Γ (isS M Sa)) (tV c M Γ (isS M Sb)))) (B : Back R) (ha : PX X c M Γ a Sa) (hb : PX X c M Γ b Sb)
    (sem : ∀ (x y : V) (H : Hp) (Q : VK) (da db : PyData), Sa da → Sb db → Td M H x da → Td M H y db → (∀ v H', R H H' v → Ext no H H' → Q v H') → r x y H Q) : PV X c M Γ e R :=
  (hp ha hb).mono fun σ H Q ⟨rp, q⟩ => ⟨rp, fun x H1 ⟨da, sa, hx⟩ x1 b1 => ⟨rp.ext x1 b1, fun y H2 ⟨db, sb, hy⟩ x2 b2 => sem x y H2 _ da db sa sb (hx.ext x2 rp.sub) hy fun v H' hv x3 =>
    q v H' (B.back (x1.trans x2) hv) ((x1.trans x2).trans x3.of0) (c.st no _ _ (fun _ z => z.elim) x3 b2)⟩⟩
theorem px_lst {es : List Expr} {Ss : List (PyData → Prop)} {pos : Pos} (h : PAX X c M Γ es Ss) (few : Ss.length ≤ sizeLine) : PX X c M Γ (.List es pos) (fun d => ∃ ds, Fits Ss ds ∧ d = .list ds) :=
  (pe_lst h).mono fun σ H Q ⟨r, q⟩ => ⟨r, fun vs ds H1 all fit x1 b1 => ⟨by rw [all.len, fit.len]; exact few, fun p np => by
    have xn : Ext no H1 (upd H1 p (.lst vs)) := Ext.new np
    exact q _ _ ⟨.list ds, ⟨ds, fit, rfl⟩, .lst (fun z => r.al p z (x1.dom p np)) upd_same (all.ext xn fun _ z => z.elim)⟩ (x1.trans xn.of0) (c.st no _ _ (fun _ z => z.elim) xn b1)⟩⟩
theorem px_tup {es : List Expr} {Ss : List (PyData → Prop)} {x1} {pos : Pos} (h : PAX X c M Γ es Ss) (few : Ss.length ≤ sizeLine) : PX X c M Γ (.Tuple es x1 pos) (fun d => ∃ ds, Fits Ss ds ∧ d = .tuple ds) :=
  (pe_tup h).mono fun σ H Q ⟨r, q⟩ => ⟨r, fun vs ds H1 all fit x1 b1 => ⟨by rw [all.len, fit.len]; exact few, fun p np => by
    have xn : Ext no H1 (upd H1 p (.tup vs)) := Ext.new np
    exact q _ _ ⟨.tuple ds, ⟨ds, fit, rfl⟩, .tup upd_same (all.ext xn fun _ z => z.elim)⟩ (x1.trans xn.of0) (c.st no _ _ (fun _ z => z.elim) xn b1)⟩⟩
/-- [e, ..][t]: one of them -/
theorem px_pick {es : List Expr} {t : Expr} {pos pos' : Pos} {n : Nat} {S : PyData → Prop} (h : PAX X c M Γ es (List.replicate n S)) (few : n ≤ sizeLine) (ht : PX X c M Γ t (below n)) (plain : PlainIx t := by exact fun _ _ => rfl) : PX X c M Γ (.Subscript (.List es pos) t pos') S :=
  px_two (Sa := fun d => ∃ ds, Fits (List.replicate n S) ds ∧ d = .list ds) (fun h1 h2 => pe_ix ix_list h1 h2 plain) back_s (px_lst h (by rw [List.length_replicate]; exact few)) ht fun x y H Q da db ⟨ds, fit, e1⟩ ⟨k, kn, e2⟩ hx hy q => by
    subst e1 e2
    obtain ⟨p, vs, rfl, _, hp, all⟩ := hx.lstE
    obtain ⟨len, each⟩ := fit.rep
    have kl : k < ds.length := by omega
    obtain ⟨v, ev, tv⟩ := all.get (List.getElem?_eq_getElem kl)
    rw [hy.intE]
    exact ⟨p, vs, _, v, rfl, rfl, SqL.of hp, atI_nat ev, q _ _ ⟨_, each _ (List.getElem_mem kl), tv⟩ (Ext.refl _ _)⟩
/-! slices -/
theorem pd_cutTo {a e : Expr} {pos p2 : Pos} {ds : List PyData} {k : Nat} (ha : PD X c M Γ a (.tuple ds)) (he : PD X c M Γ e (nI k)) : PD X c M Γ (.Subscript a (.Slice none (some e) none p2) pos) (.tuple (ds.take k)) :=
  (pe_slice sl_tupA ha po_none (po_some he)).mono fun σ H Q ⟨r, q⟩ => ⟨r, fun v H1 hv x1 b1 => ⟨r.ext x1 b1, fun u H2 hu x2 b2 => ⟨_, hu.intE, by
    obtain ⟨p, vs, rfl, hp, all⟩ := (hv.ext x2 r.sub).tupE
    refine ⟨p, vs, rfl, SqT.of hp, fun w => ?_, fun _ z nz => ?_⟩
    · have hl : vs.length ≤ k := by
        have := w.2
        rw [HT.sIx_nat] at this
        omega
      rw [List.take_of_length_le (by rw [← all.len]; exact hl)] at q
      exact q _ _ (.tup hp all) (x1.trans x2) b2
    · have xn : Ext no H2 (upd H2 z (.tup (cutV vs none (some (k : Int))))) := Ext.new nz
      rw [cutTo] at xn ⊢
      exact q _ _ (.tup upd_same ((all.take k).ext xn fun _ z => z.elim)) ((x1.trans x2).trans xn.of0) (c.st no _ _ (fun _ z => z.elim) xn b2)⟩⟩⟩
theorem pd_cutFrom {a e : Expr} {pos p2 : Pos} {ds : List PyData} {k : Nat} (ha : PD X c M Γ a (.tuple ds)) (he : PD X c M Γ e (nI k)) : PD X c M Γ (.Subscript a (.Slice (some e) none none p2) pos) (.tuple (ds.drop k)) :=
  (pe_slice sl_tupA ha (po_some he) po_none).mono fun σ H Q ⟨r, q⟩ => ⟨r, fun v H1 hv x1 b1 => ⟨r.ext x1 b1, fun u H2 hu x2 b2 => ⟨_, hu.intE, by
    obtain ⟨p, vs, rfl, hp, all⟩ := (hv.ext x2 r.sub).tupE
    refine ⟨p, vs, rfl, SqT.of hp, fun w => ?_, fun _ z nz => ?_⟩
    · have hl : k = 0 ∨ vs.length = 0 := by
        have := w.1
        rw [HT.sIx_nat] at this
        omega
      have e : ds.drop k = ds := by
        rcases hl with z | z
        · rw [z]; rfl
        · rw [List.eq_nil_of_length_eq_zero (l := ds) (by rw [← all.len]; exact z), List.drop_nil]
      rw [e] at q
      exact q _ _ (.tup hp all) (x1.trans x2) b2
    · have xn : Ext no H2 (upd H2 z (.tup (cutV vs (some (k : Int)) none))) := Ext.new nz
      rw [cutFrom] at xn ⊢
      exact q _ _ (.tup upd_same ((all.drop k).ext xn fun _ z => z.elim)) ((x1.trans x2).trans xn.of0) (c.st no _ _ (fun _ z => z.elim) xn b2)⟩⟩⟩
end
/-! calls that draw -/
section
variable {X : Cx} {M : Addr → Prop} {Γ : List Sl} {Ts : List Addr} {b l : Addr}
theorem px_take {f : Addr} {fd : FuncData} (i : Nat) {x : Str} {p0 p pos : Pos} {e : Expr} {n : Nat} (DT : Df X.K X.mg "_law_take" s_take ["_law_box", "_law_many"] f fd) (GT : FnOk X.prog X.w X.K X.mg X.base CX0 1 f fd ["_law_box", "_law_many"] spTake) (hr : Room 1 X.A) (hx : PE X (.Name x p0) (tVar i)) (g : Γ[i]? = some (.r b)) (he : PD X (cwB Ts b l) M Γ e (nI n)) (n0 : 0 < n) (n1 : n ≤ 1000000)
    (hg : Gl X "_law_take" := by rfl) (he1 : starEach [(.Name x p0 : Expr), e] X.env = (false, eval (.Name x p0) X.env) :: starEach [e] X.env := by rfl) (he2 : starEach [e] X.env = (false, eval e X.env) :: starEach [] X.env := by rfl) (hpl : (backTo pos (starEach [e] X.env)).any (·.1) = false := by rfl) : PX X (cwB Ts b l) M Γ (.Call (.Name "_law_take" p) [.Name x p0, e] [] pos) (below n) :=
  (pcall DT GT hr (pa_cons hx (pa_cons he pa_nil he2) he1) hg (by decide) he1 hpl).mono fun σ H Q ⟨r, q⟩ => by
    obtain ⟨o, e1, e2⟩ := r.sl.get g
    subst e2
    refine ⟨_, e1, r, fun v H1 hv x1 b1 => ?_⟩
    rw [hv.intE]
    refine ⟨b, l, n, rfl, b1, by omega, by omega, fun H2 k k0 k1 bo x2 => q _ H2 ⟨nI k.toNat, ⟨k.toNat, by omega, rfl⟩, ?_⟩ (x1.trans x2) bo⟩
    have ek : k = ((k.toNat : Nat) : Int) := (Int.toNat_of_nonneg k0).symm
    rw [ek]
    exact .int _
end
/-! statements -/
section
variable {X : Cx} {c : Cw} {H0 : Hp} {m M : Addr → Prop} {Γ : List Sl} {D : Ends}
theorem hs_setX (i : Nat) {x : Str} {e : Expr} {S : PyData → Prop} {pos pos' : Pos} (cm : ∀ a, c.mx a → m a) (hN : X.N.Nodup) (he : PX X c M Γ e S) (hi : X.N[i]? = some x := by rfl) (hx : Loc X.env.scope x := by first | exact Or.inl rfl | exact Or.inr rfl) (hs : swapsWith e (some (.Name x pos')) pos.line X.env = pure false := by rfl)
    (hf : X.fn x = true ∨ X.env.scope.names.lookup x = some .local := by first | exact Or.inr rfl | exact Or.inl rfl) : HS X (.Assign [.Name x pos'] e pos) (As c H0 m M Γ) { D with nx := fun σ H => ∃ d, S d ∧ As c H0 m M (Γ.set i (.d d)) σ H } :=
  (ps_set (i := i) hN hi hx he hs hf).mono fun D' σ H ⟨⟨r, x0⟩, n, _⟩ => ⟨r, fun v H1 ⟨d, sd, hv⟩ x1 b1 => n _ _ ⟨d, sd, (r.ext x1 b1).setD i hv, x0.trans (x1.mono cm)⟩⟩
theorem hs_retX {e : Expr} {S : PyData → Prop} {pos : Pos} (cm : ∀ a, c.mx a → m a) (he : PX X c M Γ e S) (q : ∀ (d : PyData) (v : V) (H' : Hp), S d → Td M H' v d → Ext m H0 H' → c.Bx H' → D.rt v H') : HS X (.Return (some e) pos) (As c H0 m M Γ) D :=
  hs_retV he fun σ H v H' a ⟨d, sd, hv⟩ x1 b1 => q d v H' sd hv (a.2.trans (x1.mono cm)) b1
/-- a for over range(e), e only known to be below n -/
theorem hs_forX {tg e : Expr} {g : TG} {own : List Nat} {body : List Stmt} {pos p p1 : Pos} {mw : Addr → Prop} {n : Nat} (S : PyData → Prop) (G : PyData → List Sl) (G' : Nat → PyData → List Sl) (s0 : PyData) (hp : PassesOwn (model X.prog X.w) X.A X.env X.xe) (hc : X.calm = true) (hm : X.mg "range" = none) (cm : ∀ a, c.mx a → m a) (cw : ∀ a, c.mx a → mw a)
    (sw : ∀ a, mw a → m a ∨ H0 a = none) (hi : PX X c M Γ e (below n)) (few : n ≤ 1000000) (hg : PG X tg g) (h0 : S s0) (g0 : G s0 = Γ) (tgt : ∀ i s, S s → Tgt c M g own (nI i) (G s) (G' i s))
    (hb : ∀ H1, Ext m H0 H1 → (∀ a, M a → H1 a ≠ none) → ∀ i s, S s → HB X body (As c H1 mw M (G' i s)) { D with nx := fun σ H => ∃ s', S s' ∧ As c H1 mw M (G s') σ H, ct := fun σ H => ∃ s', S s' ∧ As c H1 mw M (G s') σ H, bk := D.nx })
    (done : ∀ s σ H, S s → As c H0 m M (G s) σ H → D.nx σ H) (hs : ∀ x, foldedSetIterable (.Call (.Name "range" p) [e] [] p1) X.env x = pure x := by intro _; rfl) (he : starEach [e] X.env = (false, eval e X.env) :: starEach [] X.env := by rfl) (hgl : Gl X "range" := by rfl) : HS X (.For tg (.Call (.Name "range" p) [e] [] p1) body [] pos) (As c H0 m M Γ) D := by
  have hbe : PSs X body (fun D' σ H => ∃ q : Hp × Nat × PyData, (Ext m H0 q.1 ∧ (∀ a, M a → q.1 a ≠ none) ∧ S q.2.2) ∧ tHB (As c q.1 mw M (G' q.2.1 q.2.2)) { D with nx := fun σ H => ∃ s', S s' ∧ As c q.1 mw M (G s') σ H, ct := fun σ H => ∃ s', S s' ∧ As c q.1 mw M (G s') σ H, bk := D.nx } D' σ H) :=
    PSs.ex fun q hq => hb q.1 hq.1 hq.2.1 q.2.1 q.2.2 hq.2.2
  have hit : PI X tg (.Call (.Name "range" p) [e] [] p1) (fun σ H R => Rp c M H σ Γ ∧ ∀ (k : Nat) J H', Wd mw M J H' ((List.range k).map nI) → Ext c.mx H H' → c.Bx H' → R J H') :=
    PI.mono (pi_range1 hgl hm (pa_cons hi pa_nil he) (by rw [he]; rfl)) fun σ H R ⟨r, q⟩ => ⟨r, fun v H1 ⟨d, ⟨k, kn, ed⟩, hv⟩ x1 b1 => by
      subst ed
      rw [hv.intE]
      refine ⟨k, rfl, by omega, by omega, ?_⟩
      have em : intsFrom 0 k = (List.range k).map nI := List.map_congr_left fun j _ => by show PyData.int (0 + (j : Int)) = _; rw [Int.zero_add]
      have := q k (Itr 0 k) H1 (by rw [← em]; exact wk_rng 0 k) x1 b1
      rwa [show ((k : Int)).toNat = k from Int.toNat_natCast k]⟩
  refine (ps_for hp hc hit hg hbe hs).mono fun D' σ H ⟨⟨r, x0⟩, nx, rt, _, _⟩ => ⟨r, fun k J H1 wk x1 b1 => ?_⟩
  have x01 := x0.trans (x1.mono cm)
  have r1 := r.ext x1 b1
  have len : ((List.range k).map nI).length = k := by rw [List.length_map, List.length_range]
  refine ⟨fun i mm σ2 H2 => mm = k - i ∧ i ≤ k ∧ ∃ s, S s ∧ As c H1 mw M (G s) σ2 H2, ⟨_, rfl, Nat.zero_le _, s0, h0, by rw [g0]; exact r1, Ext.refl _ _⟩, ?_⟩
  rintro i mm σ2 H2 ⟨rfl, le, s, ps, r2, x2⟩
  by_cases last : i = k
  · subst last
    exact .inl ⟨wk.stop _ _ x2 (by rw [len]; exact Nat.le_refl _), nx _ _ (done s _ _ ps ⟨r2, x01.transF x2 sw⟩)⟩
  · have lt : i < k := by omega
    have ed : ((List.range k).map nI)[i]? = some (nI i) := by rw [List.getElem?_map, List.getElem?_range lt]; rfl
    obtain ⟨go, yl⟩ := wk.go M i H2 (nI i) (fun _ z => z) (fun a z => .inl z) x2 ed
    refine .inr ⟨go, fun σ' H' => i + 1 ≤ k ∧ ∃ s', S s' ∧ As c H1 mw M (G s') σ' H', fun σ' H' z => ⟨_, by omega, rfl, z⟩, fun x H3 y => ?_⟩
    obtain ⟨tx, x3⟩ := yl x H3 y
    refine tgt i s ps x σ2 H3 _ (r2.ext0 x3) tx fun σ' r' _ _ => ⟨(H1, i, s), ⟨x01, r1.al, ps⟩, ⟨r', x2.trans (x3.of0)⟩, fun σ H z => ⟨lt, z⟩, rt, fun σ H z => nx σ H z, fun σ H z => ⟨lt, z⟩⟩
end
/-! defs that draw: the box is the first that they are handed -/
def spBx (Ts : List Addr) (Pre : List PyData → Prop) (R : List PyData → PyData → Prop) : Sp := fun vs H Q _ => ∃ (M : Addr → Prop) (b l : Addr) (us : List V) (ds : List PyData), vs = .ref b :: us ∧ TdAll M H us ds ∧ BoxAt H b l ∧ M b ∧ M l ∧ (∀ a, M a → H a ≠ none) ∧ (∀ T ∈ Ts, TabG H T) ∧ Pre ds ∧ ∀ d v H', R ds d → Td M H' v d → BoxAt H' b l → Ext (bx b l) H H' → Q v H'
section
variable {base : Heap} {K : PySem.W.Frag} {mg : Str → Option Value} {P : Program} {w : World}
theorem fn_bx {x : Str} {st : Stmt} {f : Addr} {fd : FuncData} {N ps : List Str} {k : Nat} {Ts : List Addr} {Pre : List PyData → Prop} {R : List PyData → PyData → Prop} (D : Df K mg x st ps f fd) (S : FnScope N ps (defScope st)) (len : ∀ ds, Pre ds → ds.length + 1 = ps.length)
    (body : ∀ (cdv : Value) (A : Around) (outer : List Env) (s : Shared) (H : Hp) (E : XK) (M : Addr → Prop) (b l : Addr) (ds : List PyData), (∀ a, bx b l a → M a) → Room k (A.deeper (envOfC x (defScope st) s.heap.objs.size f cdv)) → Pre ds →
      HB (cxOf CX0 P w K mg base N x (defScope st) f cdv A outer s H E).nox (defBody st) (As (cwB Ts b l) H (bx b l) M (.r b :: (ofD ds ++ List.replicate (N.length - (ds.length + 1)) .any))) { nx := fun _ _ => False, rt := fun v H' => ∃ d, R ds d ∧ Td M H' v d ∧ BoxAt H' b l ∧ Ext (bx b l) H H' }) : FnOk P w K mg base CX0 (k + 1) f fd ps (spBx Ts Pre R) := by
  refine D.F.ok S (fun vs H Q E h => ?_) (fun cdv A outer s H vs Q E hr h => ?_)
  · obtain ⟨M, b, l, us, ds, rfl, all, _, _, _, _, _, pre, _⟩ := h
    rw [List.length_cons, all.len]
    exact len ds pre
  · obtain ⟨M, b, l, us, ds, rfl, all, bo, mb, ml, al, tabs, pre, q⟩ := h
    have sub : ∀ a, bx b l a → M a := fun a z => z.elim (fun e => by rw [e]; exact mb) fun e => by rw [e]; exact ml
    refine ⟨_, body cdv A outer s H E M b l ds sub hr pre, ⟨⟨?_, tabs, bo, sub, al⟩, Ext.refl _ _⟩, fun _ _ z => z.elim, fun v H' ⟨d, rd, tv, bo', x'⟩ => q d v H' rd tv bo' x', fun _ _ z => z.elim, fun _ _ z => z.elim⟩
    unfold L2.start
    rw [List.length_cons, all.len]
    exact .cons rfl ((Reps.ofData all).apps (Reps.anys _))
end
section
variable {X : Cx} {M : Addr → Prop} {Γ : List Sl} {Ts : List Addr} {b l : Addr}
theorem px_bx {y : Str} {st : Stmt} {ps : List Str} {f : Addr} {fd : FuncData} {k : Nat} {T1 : List Addr} {Pre : List PyData → Prop} {R : List PyData → PyData → Prop} {ds : List PyData} (i : Nat) {x : Str} {p0 p pos : Pos} {es : List Expr} (D : Df X.K X.mg y st ps f fd) (G : FnOk X.prog X.w X.K X.mg X.base CX0 k f fd ps (spBx T1 Pre R)) (hr : Room k X.A) (hx : PE X (.Name x p0) (tVar i)) (g : Γ[i]? = some (.r b)) (ha : PAr X (cwB Ts b l) M Γ es (ofD ds)) (pre : Pre ds)
    (ts : ∀ T ∈ T1, T ∈ Ts := by simp) (hg : Gl X y := by rfl) (hdb : (y == ("__debug__" : Str)) = false := by decide) (he1 : starEach ((.Name x p0 : Expr) :: es) X.env = (false, eval (.Name x p0) X.env) :: starEach es X.env := by rfl) (hpl : (backTo pos (starEach es X.env)).any (·.1) = false := by rfl) : PX X (cwB Ts b l) M Γ (.Call (.Name y p) (.Name x p0 :: es) [] pos) (R ds) :=
  (pcall D G hr (pa_cons hx ha he1) hg hdb he1 hpl).mono fun σ H Q ⟨r, q⟩ => by
    obtain ⟨o, e1, e2⟩ := r.sl.get g
    subst e2
    refine ⟨_, e1, r, fun vs H1 hvs x1 b1 => ?_⟩
    have r1 := r.ext x1 b1
    show spBx T1 Pre R ((.ref b :: vs) ++ []) H1 Q E0
    rw [List.append_nil]
    exact ⟨M, b, l, vs, ds, rfl, hvs.data, b1, r.sub b (.inl rfl), r.sub l (.inr rfl), r1.al, fun T t => r1.tb T (ts T t), pre, fun d v H2 rd tv bo x2 => q _ H2 ⟨d, rd, tv⟩ (x1.trans x2) bo⟩
end
/-- more tables than are wanted -/
theorem fn_tabs {base : Heap} {K : PySem.W.Frag} {mg : Str → Option Value} {P : Program} {w : World} {f : Addr} {fd : FuncData} {k : Nat} {ps : List Str} {Ts Ts' : List Addr} {R : List PyData → PyData → Prop} (G : FnOk P w K mg base CX0 k f fd ps (spFun Ts R)) (s : ∀ T ∈ Ts, T ∈ Ts') : FnOk P w K mg base CX0 k f fd ps (spFun Ts' R) :=
  G.imp fun vs H Q E ⟨M, ds, d, all, al, tabs, r, q⟩ => ⟨M, ds, d, all, al, fun T z => tabs T (s T z), r, q⟩
end Bw
namespace Bw
open PySem PySem.Spec PyProof.Rows L2 GxR Gx RZ
/-! ### dicts of one's own: numbers to things -/
abbrev keyN (n : Nat) : L2.Key := Sum.inl (n : Int)
abbrev dKof (ks : List Nat) (vs : List V) : List (L2.Key × V) := (ks.map keyN).zip vs
/-- what reads as a dict -/
structure Reads (k : Mk) (ks : List Nat) : Prop where
  rd : ∀ {H : Hp} {a : Addr} {vs : List V}, H a = some (k.f vs) → Rd H a (.dK (dKof ks vs))
section
variable {X : Cx} {c : Cw} {M : Addr → Prop} {Γ : List Sl}
theorem Ext.obj {m : Addr → Prop} {H H' : Hp} (x : Ext m H H') {k : Mk} {a : Addr} {vs : List V} (n : ¬ m a) (h : H a = some (k.f vs)) : H' a = some (k.f vs) := x.oth a _ n (k.nt vs) h
end
end Bw
namespace Bw
open PySem PySem.Spec PyProof.Rows L2 GxR Gx RZ
end Bw
namespace Nx
open L2 PyProof.Rows PySem PySem.Spec
/-- key, the key's value, the value -/
abbrev Ent := NestedKey × V × V
structure NRel (p : Ent) (q : NestedKey × Addr × Value) : Prop where
  key : p.1 = q.1
  at_ : p.2.1 = .ref q.2.1
  val : RelV p.2.2 q.2.2
def NOk (P : Program) (w : World) (a : Addr) (kvs : List Ent) (h : Heap) : Prop := (a == sysModules) = false ∧ kvs.length ≤ sizeLine ∧ ∃ xs : List (NestedKey × Addr × Value), Paired NRel kvs xs ∧
  ∃ o es ep, h.get? a = some o ∧ o.ExactDict ∧ o.data = .dict es ep ∧ es.toList = xs.map (entryOfKey (nestedKind P w)) ∧ (xs.map (·.1)).Nodup
def NObj (P : Program) (w : World) (a : Addr) (kvs : List Ent) : HO := .ext (NOk P w a kvs)
end Nx
namespace Nx
open L2 PyProof.Rows PySem PySem.Spec
/-! going through such a dict -/
end Nx
namespace Nx
open L2 PyProof.Rows PySem PySem.Spec
end Nx
namespace Bw
open PySem PySem.Spec PyProof.Rows L2 GxR Gx RZ Nx
/-! ### dicts of one's own whose keys are nested tuples, as data -/
abbrev KN := List (NestedKey × PyData)
section
variable {M : Addr → Prop} {H : Hp}
inductive Ents (M : Addr → Prop) (H : Hp) : KN → List Ent → Prop where
  | nil : Ents M H [] []
  | cons {k : NestedKey} {d : PyData} {kv v : V} {kvs : KN} {es : List Ent} (hk : Td M H kv k.data) (hv : Td M H v d) (t : Ents M H kvs es) : Ents M H ((k, d) :: kvs) ((k, kv, v) :: es)
end
/-! ### the rules -/
end Bw
namespace Nx
open L2 PyProof.Rows PySem PySem.Spec PySem.W
/-! ### the least of two things, of a list of things -/
section
variable {prog : Program} {w : World} {A : Around} {s : Shared} {E : Value → Shared → Prop}
/-- as it stands behind the two -/
theorem min_of_two {a b : Value} {Q : Value → Shared → Prop}
    (h : wpAny (model prog w) A.in1 (pyIter (.ref s.heap.objs.size)) (fun it t => ∃ I fp wr G n P St G0 bt, it = .ref I ∧ WalksS prog w A.in1 I fp wr G n P St ∧ St 0 t ∧ (∀ b ∈ fp, b < t.heap.objs.size) ∧ 0 < n ∧ (∀ b o, Heap.get? G0 b = some o → b ∉ wr) ∧ (∀ b o, Heap.get? G0 b = some o → t.heap.get? b = some o) ∧ CmpIn prog w A.in1 .Lt G0 P bt ∧ ∀ v s', P (argBest bt (n - 1)) v → Moved wr G t s' → Q v s') E { s with heap := s.heap.push { cls := .type "tuple", data := .seq #[a, b] } }) : wpAny (model prog w) A (call (.builtin "min") [a, b]) Q E s := by
  have loopName : (toString "min" ++ toString ".loop" : String) = "min.loop" := by decide
  refine call_function_tree F.kind_min F.plain_min F.entry_min (F.args_min2 a b) ?_
  show wpAny _ A.in1 (Builtin.Builtins.bindParams "min" ["key", "default"] 0 ⟨[], []⟩ >>= _) _ E s
  refine wpAny_bind (wpAny_of_eq (a := [none, none]) rfl ?_)
  show wpAny _ A.in1 (newTuple [a, b] >>= _) _ E s
  refine wpAny_bind (wpAny_newObj_type (wpAny_bind (wpAny_mono h (fun it t z => ?_) fun _ _ e => e)))
  obtain ⟨I, fp, wr, G, n, P, St, G0, bt, rfl, W, st, low, pos, wrG, keepG, cmp, q⟩ := z
  refine wpAny_bind (wpAny_newObj_type (?_))
  have off : t.heap.objs.size ∉ fp := fun z => Nat.lt_irrefl _ (low _ z)
  rw [loopName]
  refine wpAny_pure ⟨plainId_quiet (F.plain_min_loop) _, ?_⟩
  refine codeAny_min_loop_firstH W G0 wrG bt cmp t.heap.objs.size off (fresh_in keepG) _ pos (fun b o e => Heap.get?_push_of_some _ (keepG b o e)) ?_ (Heap.get?_push_size _ rfl) fun v s' hv mv => ?_
  · exact W.frame 0 t _ t.toks st (Nat.le_refl _) fun b _ o e => Heap.get?_push_of_some _ e
  · exact q v s' hv (Moved.drop_new (tk := t.toks) mv (Nat.le_refl _))
theorem min_two_data {a b : Value} {x y : PyData} {as bs : List Addr} {Q : Value → Shared → Prop} (hh : A.handled = none) (ra : Reads s.heap a x as) (rb : Reads s.heap b y bs) (al : AlikeAll [x, y]) (hu : A.units + 1 + PyData.depthAll [x, y] < cLine)
    (q : ∀ h' tk, (∀ c o, s.heap.get? c = some o → h'.get? c = some o) → Q (if dataLt y x = true then b else a) { s with heap := h', toks := tk }) : wpAny (model prog w) A (call (.builtin "min") [a, b]) Q E s := by
  refine min_of_two ?_
  have up : ∀ c o, s.heap.get? c = some o → (s.heap.push { cls := .type "tuple", data := .seq #[a, b] }).get? c = some o := fun c o e => Heap.get?_push_of_some _ e
  have isT : (s.heap.push { cls := .type "tuple", data := .seq #[a, b] }).IsTuple s.heap.objs.size #[a, b] := ⟨_, Heap.get?_push_size _ rfl, rfl, 0, rfl⟩
  have rs : ReadsAll (s.heap.push { cls := .type "tuple", data := .seq #[a, b] }) (#[a, b] : Array Value).toList [x, y] (as ++ (bs ++ [])) := .cons (reads_keeps up ra) (.cons (reads_keeps up rb) .nil)
  refine iter_tupleW (A := A.in1) (s := { s with heap := s.heap.push { cls := .type "tuple", data := .seq #[a, b] } }) hh isT fun t e W st low wr keep => ?_
  refine ⟨_, _, _, _, _, _, _, (s.heap.push { cls := .type "tuple", data := .seq #[a, b] }), _, rfl, W, st, low, Nat.zero_lt_succ _, wr, keep, cmpIn_lt (A := A.in1) (s := { s with heap := s.heap.push { cls := .type "tuple", data := .seq #[a, b] } }) rs al (by show A.units + 1 + _ < _; exact hu), fun v s' hv mv => ?_⟩
  obtain ⟨h', tk, rfl, kept⟩ := moved_old e rfl mv
  have z := q h' tk fun c o e => kept c o (up c o e)
  have ev : (if dataLt y x = true then b else a) = v := by
    have hv' : (#[a, b] : Array Value)[argBest (fun i j => dataLt ([x, y].getD i .none) ([x, y].getD j .none)) 1]? = some v := hv
    cases k : dataLt y x with
    | true =>
      have ei : argBest (fun i j => dataLt ([x, y].getD i .none) ([x, y].getD j .none)) 1 = 1 := if_pos k
      rw [ei] at hv'
      exact Option.some.inj hv'
    | false =>
      have ei : argBest (fun i j => dataLt ([x, y].getD i .none) ([x, y].getD j .none)) 1 = 0 := if_neg (by show ¬ dataLt y x = true; rw [k]; exact Bool.false_ne_true)
      rw [ei] at hv'
      exact Option.some.inj hv'
  rw [ev] at z
  exact z
end
section
variable {X : Cx}
def rMinTwo (X : Cx) : List V → Hp → VK → Prop := fun xs H Q => ∃ (x y : V) (dx dy : PyData), xs = [x, y] ∧ Dp X.K H x dx ∧ Dp X.K H y dy ∧ AlikeAll [dx, dy] ∧ X.A.units + 1 + PyData.depthAll [dx, dy] < cLine ∧ Q (if dataLt dy dx = true then y else x) H
theorem cr_minTwo (calm : X.calm = true) : CallR X (.builtin "min") (rMinTwo X) := by
  intro pins s σ H xs us Q I vals h
  obtain ⟨x, y, dx, dy, rfl, hx, hy, al, hu, q⟩ := h
  obtain ⟨u, v, rfl, r1, r2⟩ := vals2 vals
  obtain ⟨as, ra⟩ := Dp.reads I _ _ u hx r1
  obtain ⟨bs, rb⟩ := Dp.reads I _ _ v hy r2
  refine min_two_data (I.ok.hd calm) ra rb al hu fun h' tk k => ⟨_, H, I.kept k, ?_, q⟩
  split
  · exact r2
  · exact r1
end
end Nx
namespace Bw
open PySem PySem.Spec PyProof.Rows L2 GxR Gx RZ Nx PySem.W
section
variable {X : Cx} {c : Cw} {M : Addr → Prop} {Γ : List Sl}
theorem pd_minTwo {a b : Expr} {dx dy : PyData} {p pos : Pos} (calm : X.calm = true) (hm : X.mg "min" = none) (ha : PD X c M Γ a dx) (hb : PD X c M Γ b dy) (al : AlikeAll [dx, dy]) (hu : X.A.units + 1 + PyData.depthAll [dx, dy] < cLine)
    (he : starEach [a, b] X.env = (false, eval a X.env) :: starEach [b] X.env := by rfl) (he2 : starEach [b] X.env = (false, eval b X.env) :: starEach [] X.env := by rfl) (hg : Gl X "min" := by rfl) (hpl : (backTo pos (starEach [b] X.env)).any (·.1) = false := by rfl) : PD X c M Γ (.Call (.Name "min" p) [a, b] [] pos) (if dataLt dy dx = true then dy else dx) :=
  pv_callB (cr_minTwo calm) hm rfl back_d (ar_d ha (ar_d hb ar_nil he2) he) (fun vs H Q r q => by
    obtain ⟨v, u, rfl, tv, tu⟩ := r.sl.two_d
    refine ⟨v, u, dx, dy, rfl, tv.dp, tu.dp, al, hu, q _ H ?_ (Ext.refl _ _)⟩
    show Td M H _ _
    split
    · exact tu
    · exact tv) hg (by decide) (by decide) he hpl
end
end Bw
namespace Nx
open L2 PyProof.Rows PySem PySem.Spec
end Nx
namespace Bw
open PySem PySem.Spec PyProof.Rows L2 GxR Gx RZ Nx
/-- a new dict with such keys -/
def isT (P : Program) (w : World) (M : Addr → Prop) (kvs : KN) : RV := fun H0 H v => ∃ a es, v = .ref a ∧ H0 a = none ∧ H a = some (NObj P w a es) ∧ Ents (plus M a) H kvs es
end Bw
namespace Bw
open PySem PySem.Spec PyProof.Rows L2 GxR Gx RZ Nx
end Bw
namespace Bw
open PySem PySem.Spec PyProof.Rows L2 GxR Gx RZ Nx
end Bw
namespace Bw
open PySem PySem.Spec PyProof.Rows L2 GxR Gx RZ Nx
section
variable {X : Cx} {c : Cw} {M : Addr → Prop} {Γ : List Sl}
/-- sep.join(elt for tg in iter) -/
theorem pd_joinG {c0 T : Addr} {o elt tg iter : Expr} {scope : Scope} {own : List (Str × Nat)} {gpos apos cpos : Pos} {g : TG} {sep : Str} {ds : List PyData} {f : PyData → Str} {Γ' : PyData → List Sl} {k : Nat}
    (ho : PD X c M Γ o (.str sep)) (hr : Room (k + 2) X.A) (TB : TabB X.base X.mg c0 T) (mem : T ∈ c.Ts) (hcode : X.env.code = .ref c0) (hN : X.N.Nodup) (hi : PIt X c M c.mx Γ tg iter ds) (ok : BlkOk X.N X.env.scope scope own)
    (hg : ∀ (A : Around) (s : Shared) (H : Hp) (C : Addr) (cl : List (Str × Addr)) (code : Value) (fp : List Addr) (pn : List (Addr × Obj)), Room k A → PG (gxC X A s H (genEnv scope cl C code builtinsNs X.env) fp pn) tg g) (tgt : ∀ d ∈ ds, Tgt c M g (own.map (·.2)) d Γ (Γ' d))
    (he : ∀ (A : Around) (s : Shared) (H : Hp) (C : Addr) (cl : List (Str × Addr)) (code : Value) (fp : List Addr) (pn : List (Addr × Obj)), Room k A → ∀ d ∈ ds, PD (gxC X A s H (genEnv scope cl C code builtinsNs X.env) fp pn) c M (Γ' d) elt (.str (f d)))
    (jok : JoinOk sep (ds.map f) = true) (few : ds.length < sizeLine) (hw : wipeG Γ (own.map (·.2)) = Γ := by rfl) (hcell : ∀ y ∈ scope.names, y.2 ≠ .cell := by decide) (h0 : scope.names.lookup (".0" : Str) = some NameKind.local := by rfl) (hco : scope.isCoroutine = false := by rfl) (hs : ∀ v, genFold iter X.env v = pure v := by intro _; rfl)
    (hbase : attributeBase o "join" X.env (eval o X.env) = eval o X.env := by rfl)
    (hfew : ((backTo cpos (starEach [.GeneratorExp elt [⟨tg, iter, [], 0⟩] scope gpos] X.env)).all (fun x => !x.1) && (backToKw cpos (keywordEach [] X.env)).all (fun x => x.1.isSome)
      && decide (([.GeneratorExp elt [⟨tg, iter, [], 0⟩] scope gpos] : List Expr).length + ([] : List Keyword).length + (if ([] : List Keyword).isEmpty then 0 else 1) < 30)) = true := by rfl)
    (sameRow : (apos.endLine == cpos.line) = true := by rfl)
    (hst : starEach [.GeneratorExp elt [⟨tg, iter, [], 0⟩] scope gpos] X.env = (false, eval (.GeneratorExp elt [⟨tg, iter, [], 0⟩] scope gpos) X.env) :: starEach [] X.env := by rfl)
    (noStar : (backTo cpos (starEach [] X.env)).any (·.1) = false := by rfl) :
    PD X c M Γ (.Call (.Attribute o "join" apos) [.GeneratorExp elt [⟨tg, iter, [], 0⟩] scope gpos] [] cpos) (.str (Txt.join sep (ds.map f))) := by
  refine (pe_joinGx (g := g) hr TB hcode hN ho hi ok hg (fun A s H C cl fp code pn rm => PTs.ex (C := fun d => d ∈ ds) fun d hd => PTs.mono (t := tYes) (t' := tQ c M (Γ' d) true) pts_nil fun σ H Q ⟨r, z⟩ => z H (Ext.refl _ _) r.bx)
    (fun A s H C cl code fp pn rm => PE.ex (C := fun d => d ∈ ds) fun d hd => he A s H C cl code fp pn rm d hd) hcell h0 hco hs hbase hfew sameRow hst noStar).mono fun σ H Q ⟨r, q⟩ => ⟨r, fun v H0 hv x0 b0 => ⟨sep, hv.strE, r.ext x0 b0, fun J H1 wk x1 b1 => ⟨(x0.trans x1).tab T (r.tb T mem), fun H1' tbd => ?_⟩⟩⟩
  have xt : Ext no H1 H1' := Ext.tbd ((x0.trans x1).tab T (r.tb T mem)) tbd
  have r1 := (r.ext (x0.trans x1) b1).ext0 xt
  refine ⟨fun i mm acc H2 => mm = ds.length - i ∧ i ≤ ds.length ∧ Rp c M H2 σ Γ ∧ Ext c.mx H1 H2 ∧ TdAll M H2 acc ((ds.take i).map fun d => PyData.str (f d)), ⟨_, rfl, Nat.zero_le _, r1, xt.of0, .nil⟩, ?_⟩
  rintro i mm acc H2 ⟨rfl, hi2, r2, x2, all⟩
  by_cases last : i = ds.length
  · subst last
    rw [List.take_length] at all
    have e : (ds.map fun d => PyData.str (f d)) = (ds.map f).map PyData.str := by rw [List.map_map]; rfl
    rw [e] at all
    exact .inl ⟨wk.stop _ _ x2 (Nat.le_refl _), ds.map f, all.strE, jok, q _ _ (.str _) ((x0.trans x1).trans x2) r2.bx⟩
  · have lt : i < ds.length := by omega
    have ed : ds[i]? = some ds[i] := List.getElem?_eq_getElem lt
    have md : ds[i] ∈ ds := List.getElem_mem lt
    generalize ds[i] = d at ed md
    obtain ⟨go, yl⟩ := wk.go M i H2 d (fun _ z => z) (fun a z => .inl z) x2 ed
    refine .inr ⟨go, fun acc' H' => i + 1 ≤ ds.length ∧ Rp c M H' σ Γ ∧ Ext c.mx H1 H' ∧ TdAll M H' acc' ((ds.take (i + 1)).map fun d => PyData.str (f d)), fun acc' H' z => ⟨_, by omega, rfl, z⟩, fun x H3 y => ?_⟩
    obtain ⟨tx, x3⟩ := yl x H3 y
    have r3 := r2.ext0 x3
    have rw3 : Rp c M H3 (L2.wipe σ (own.map (·.2))) Γ := by
      have := r3.wipe (own.map (·.2))
      rwa [hw] at this
    refine tgt d md x _ H3 _ rw3 tx fun σ' r' len same => ⟨wipe_eq (len.trans (wipe_length _ _)) same, d, md, r', fun H4 x4 b4 => ?_⟩
    have all4 := (all.ext x3 (fun _ z => z.elim)).ext x4 r2.sub
    have X4 : Ext c.mx H1 H4 := (x2.trans x3.of0).trans x4
    refine iteT ⟨d, md, r'.ext x4 b4, fun v H5 hv x5 b5 => ⟨?_, fun _ => ⟨lt, (r3.ext x4 b4).ext x5 b5, X4.trans x5, ?_⟩⟩⟩
    · show acc.length < sizeLine
      rw [all.len, List.length_map, List.length_take]
      omega
    · rw [List.take_add_one, ed, List.map_append]
      exact (all4.ext x5 r2.sub).app (.cons hv .nil)
/-- an f-string of a text, a number, a text, a number -/
theorem pd_fstr {e1 e2 e3 e4 : Expr} {a b : Str} {m n : Int} {p2 p4 pos : Pos} (h1 : PD X c M Γ e1 (.str a)) (h2 : PD X c M Γ e2 (.int m)) (h3 : PD X c M Γ e3 (.str b)) (h4 : PD X c M Γ e4 (.int n)) (sm : m.natAbs.log2 < 1920) (sn : n.natAbs.log2 < 1920)
    (few : ((((Str.empty ++ a) ++ Str.ofString (toString m)) ++ b) ++ Str.ofString (toString n)).length ≤ sizeLine) (f1 : (Str.empty ++ a).length ≤ sizeLine) (f2 : ((Str.empty ++ a) ++ Str.ofString (toString m)).length ≤ sizeLine) (f3 : (((Str.empty ++ a) ++ Str.ofString (toString m)) ++ b).length ≤ sizeLine) :
    PD X c M Γ (.JoinedStr [e1, .FormattedValue e2 (-1) none p2, e3, .FormattedValue e4 (-1) none p4] pos) (.str ((((Str.empty ++ a) ++ Str.ofString (toString m)) ++ b) ++ Str.ofString (toString n))) :=
  (pe_joined (.cons h1 (.cons (pe_fmt h2) (.cons h3 (.cons (pe_fmt h4) .nil))))).mono fun σ H Q ⟨r, q⟩ => ⟨r, fun v1 H1 t1 x1 b1 => ⟨a, t1.strE, f1, r.ext x1 b1, fun v2 H2 t2 x2 b2 => .inr ⟨m, t2.intE, sm, _, rfl, f2, (r.ext x1 b1).ext x2 b2, fun v3 H3 t3 x3 b3 => ⟨b, t3.strE, f3, ((r.ext x1 b1).ext x2 b2).ext x3 b3,
    fun v4 H4 t4 x4 b4 => .inr ⟨n, t4.intE, sn, _, rfl, few, q _ _ (.str _) (((x1.trans x2).trans x3).trans x4) b4⟩⟩⟩⟩⟩
/-! a dict of the module, its keys told by a text -/
end
end Bw
namespace Bw
open PySem PySem.Spec PyProof.Rows L2 GxR Gx RZ Nx
/-! ### refusals that tell a row -/
section
variable {X : Cx} {e : Expr} {es : List Expr} {ta : TA} {x : Str} {CB : Addr} {p1 p2 pos : Pos}
/-- Base.__init__(self, ..), Base a class of the program without an __init__ of its own -/
theorem pe_clsinit {pl : Sem Bool} (hg : Gl X x) (hm : X.mg x = some (.ref CB)) (mt : PySem.W.typeIn X.K (.ref CB) = some (.type "type")) (ga : PySem.W.specialIn X.K (.ref CB) "__getattribute__" = some (some (.builtin "type.__getattribute__"))) (rd : PySem.W.readsIn X.K CB (.type "type") = true)
    (vV : PySem.W.findCls X.K (.ref CB) (.type "type") "__init__" = some (.val (.builtin "ValueError.__init__"))) (ha : PA X (e :: es) ta) (hdb : (x == ("__debug__" : Str)) = false := by decide)
    (hc : eval (.Call (.Attribute (.Name x p1) "__init__" p2) (e :: es) [] pos) X.env = (do
      let ov ← eval (.Name x p1) X.env
      standAt p2.atName
      let (fn, fst) ← holding [ov] (getMethod ov "__init__" pl)
      callWith pos fn fst (backTo pos (starEach (e :: es) X.env)) (backToKw pos (keywordEach [] X.env))) := by rfl) (he : starEach (e :: es) X.env = (false, eval e X.env) :: starEach es X.env := by rfl) (hpl : (backTo pos (starEach es X.env)).any (·.1) = false := by rfl) :
    PE X (.Call (.Attribute (.Name x p1) "__init__" p2) (e :: es) [] pos) (tVeI X.K ta) := by
  constructor
  intro pins s σ H Q I h
  refine PySem.W.methodCall_KW (ld_glob I hg hm ?_ hdb) hc
  have ⟨m, fr⟩ := I.fr
  refine PySem.W.method_of_cls fr I.ok.mod.kin ga (PySem.W.cls_val fr I.ok.mod.kin mt rd vV (by decide +kernel) ?_)
  show wpAny (model X.prog X.w) X.A (callWith pos (Value.builtin "ValueError.__init__") [] (backTo pos (starEach (e :: es) X.env)) []) _ _ _
  refine PyProof.Rows.callWith_method1 (thn (ha.run pos pins _ σ H _ (I.tok _) h) fun us t ⟨vs, H1, I1, r1, a, C, ws, ev, hl, T, ea, q⟩ => ?_) he hpl
  subst ev
  cases r1 with
  | @cons _ u0 _ ur ra rw' =>
    have e0 : u0 = Value.ref a := ra
    subst e0
    exact oinit_ok T I1 ea (by rw [← Paired.length rw', sizeLine_eq]; omega) fun s' J => ⟨.non, H1, J, rfl, q⟩
end
/-- the class BoxError -/
structure Base (K : PySem.W.Frag) (mg : Str → Option Value) (CB : Addr) : Prop where
  g : mg "BoxError" = some (.ref CB)
  mt : PySem.W.typeIn K (.ref CB) = some (.type "type")
  ga : PySem.W.specialIn K (.ref CB) "__getattribute__" = some (some (.builtin "type.__getattribute__"))
  rd : PySem.W.readsIn K CB (.type "type") = true
  init : PySem.W.findCls K (.ref CB) (.type "type") "__init__" = some (.val (.builtin "ValueError.__init__"))
/-- a row that may be told -/
def RowIs (r : Int) : Prop := r = -1 ∨ ∃ n : Nat, r = (n : Int) ∧ n < 100000
theorem row_small {r : Int} (h : RowIs r) : r.natAbs.log2 < 1920 ∧ (Str.ofString (toString r)).length ≤ 10 := by
  rcases h with e | ⟨n, e, lt⟩
  · rw [e]; exact ⟨by decide +kernel, by decide +kernel⟩
  · rw [e]
    constructor
    · show n.log2 < 1920
      rcases Nat.eq_zero_or_pos n with z | z
      · rw [z]; decide
      · have big : 2 ^ 17 < 2 ^ 1920 := Nat.pow_lt_pow_right (by decide) (by decide)
        exact (Nat.log2_lt (Nat.ne_of_gt z)).mpr (by omega)
    · show (nmS n).length ≤ 10
      rw [len_nmS]
      exact Nat.le_trans (TL.numL_len (k := 5) (by decide) (show n < 10 ^ 5 from lt)) (by decide)
def spBad (C : Addr) : Sp := fun vs H Q _ => ∃ (a : Addr) (r : Int), vs = [.ref a, .int r] ∧ RowIs r ∧ H a = some (exo a C none) ∧ ∀ dx, H dx = none → dx ≠ a → Q .non (upd (upd H dx (exd dx [("row", .int r)])) a (exo a C (some dx)))
/-- a class of refusals that tell a row -/
structure Bad (K : PySem.W.Frag) (mg : Str → Option Value) (x : Str) (C fI : Addr) : Prop where
  g : mg x = some (.ref C)
  oex : OexC K C
  row : PySem.W.findIn K (.ref C) "row" = some none
  ini : PySem.W.findIn K (.ref C) "__init__" = some (some (.ref fI))
  fn : PySem.W.typeIn K (.ref fI) = some (.type "function")
section
variable {base : Heap} {K : PySem.W.Frag} {mg : Str → Option Value} {P : Program} {w : World}
theorem scBadProgram : FnScope ["self", "row"] ["self", "row"] (defScope s_e_BadProgram) := ⟨rfl, rfl, rfl, by decide +kernel, rfl, by decide +kernel, by decide +kernel⟩
theorem ok_badProgram {f C CB : Addr} {fd : FuncData} (F : Fun K "__init__" "BadProgram.__init__" s_e_BadProgram f fd) (BB : Base K mg CB) (C0 : Bad K mg "BadProgram" C f) : FnOk P w K mg base CX0 1 f fd ["self", "row"] (spBad C) := by
  refine F.ok scBadProgram (fun vs H Q E h => ?_) (fun cdv A outer s H vs Q E hr h => ?_)
  · have ⟨a, r, e, _⟩ := h
    rw [e]
    rfl
  · have ⟨a, r, e, ri, ha, q⟩ := h
    subst e
    have ⟨sm, l10⟩ := row_small ri
    refine ⟨_, pss_cons (ps_expr (pe_clsinit (x := "BoxError") (by rfl) BB.g BB.mt BB.ga BB.rd BB.init (pa_cons (pv 0) (pa_cons (pe_joined (.cons pe_str (.cons (pe_fmt (pv 1)) .nil))) pa_nil)))) (pss_one (ps_ost (pv 0) (pv 1))), ?_⟩
    have grow : ∀ u v : Str, (u ++ v).length = u.length + v.length := fun u v => by rw [TL.len_tl, TL.tl_append, List.length_append, ← TL.len_tl, ← TL.len_tl]
    have pre : ((Str.empty : Str) ++ "no program: row ").length ≤ 100 := by decide +kernel
    refine ⟨_, rfl, _, rfl, Nat.le_trans pre (by decide), _, rfl, .inr ⟨r, rfl, sm, _, rfl, ?_, a, C, _, rfl, by show 1 ≤ 1000; decide, C0.oex, ha, _, rfl, _, rfl, a, C, rfl, C0.oex, C0.row, .inl ⟨ha, fun dx nd ne => q dx nd ne⟩⟩⟩
    rw [grow]
    exact Nat.le_trans (Nat.add_le_add pre l10) (by decide)
end
end Bw
namespace Bw
open PySem PySem.Spec PyProof.Rows L2 GxR Gx RZ Nx
/-! ### defs over data that may refuse -/
inductive Out where
  | val (d : PyData)
  | bad (C : Addr) (r : Int)
/-- what a def hands back, or the refusal that it lets out: a class and a row -/
def spFunX (Ts : List Addr) (R : List PyData → Out → Prop) : Sp := fun vs H Q E => ∃ (M : Addr → Prop) (ds : List PyData) (o : Out), TdAll M H vs ds ∧ (∀ a, M a → H a ≠ none) ∧ (∀ T ∈ Ts, TabG H T) ∧ R ds o ∧
  (∀ d, o = .val d → ∀ v H', Td M H' v d → Ext no H H' → Q v H') ∧ (∀ C r, o = .bad C r → ∀ dx H', Ext no H H' → H' dx = some (.xd [("row", .int r)]) → E (.ref C) (some dx) H')
/-- how a body ends that may refuse -/
def endsX (M : Addr → Prop) (H : Hp) (o : Out) : Ends := { nx := fun _ H' => o = .val .none ∧ Ext no H H', rt := fun v H' => ∃ d, o = .val d ∧ Td M H' v d ∧ Ext no H H' }
section
variable {base : Heap} {K : PySem.W.Frag} {mg : Str → Option Value} {P : Program} {w : World}
/-- a def that may refuse, by its body: refused says what may be let out -/
theorem fn_dataX {x : Str} {st : Stmt} {f : Addr} {fd : FuncData} {N ps : List Str} {k : Nat} {Ts : List Addr} {R : List PyData → Out → Prop} (D : Df K mg x st ps f fd) (S : FnScope N ps (defScope st)) (len : ∀ ds o, R ds o → ds.length = ps.length)
    (body : ∀ (cdv : Value) (A : Around) (outer : List Env) (s : Shared) (H : Hp) (E : XK) (M : Addr → Prop) (ds : List PyData) (o : Out), Room k (A.deeper (envOfC x (defScope st) s.heap.objs.size f cdv)) → R ds o →
      (∀ C r, o = .bad C r → ∀ dx H', Ext no H H' → H' dx = some (.xd [("row", .int r)]) → E (.ref C) (some dx) H') → Takes (cxOf (L2.CX P w) P w K mg base N x (defScope st) f cdv A outer s H E) (fun cls d _ H' => E cls d H') → PassesOwn (model P w) (A.deeper (envOfC x (defScope st) s.heap.objs.size f cdv)) (cxOf (L2.CX P w) P w K mg base N x (defScope st) f cdv A outer s H E).env (cxOf (L2.CX P w) P w K mg base N x (defScope st) f cdv A outer s H E).xe →
      HB (cxOf (L2.CX P w) P w K mg base N x (defScope st) f cdv A outer s H E) (defBody st) (As (cw0 Ts) H no M (ent N ds)) (endsX M H o)) : FnOk P w K mg base (L2.CX P w) (k + 1) f fd ps (spFunX Ts R) := by
  have ⟨oc, od, kV, doc, pm, an, cdv, ct, osl, same, lk, hcd⟩ := D.F.ex
  subst same
  refine fn_of (CX := L2.CX P w) lk hcd S (fun vs H Q E h => ?_) fun A outer s H vs Q E hr h => ?_
  · have ⟨M, ds, o, all, _, _, r, _⟩ := h
    rw [all.len]
    exact len ds o r
  · have ⟨M, ds, o, all, al, tabs, r, q, bad⟩ := h
    refine ⟨_, body cdv A outer s H E M ds o hr r bad (takes_of rfl rfl rfl rfl) (passes_of rfl), ent_as all al tabs, fun σ H' z => q _ z.1 .non H' .non z.2, fun v H' ⟨d, e, tv, x⟩ => q d e v H' tv x, fun _ _ z => z.elim, fun _ _ z => z.elim⟩
end
section
variable {X : Cx} {c : Cw} {H0 : Hp} {m M : Addr → Prop} {Γ : List Sl} {D : Ends}
/-- raise C(e), C a class of refusals that tell a row -/
theorem hs_raise {x : Str} {C fI : Addr} {fd : FuncData} {W : WX} {e : Expr} {r : Int} {p pos pos' : Pos} (hc : X.calm = true) (C0 : Bad X.K X.mg x C fI) (F1 : FnOk X.prog X.w X.K X.mg X.base CX0 1 fI fd ["self", "row"] (spBad C)) (bI : Binds X.K fd ["self", "row"] []) (hr : Room 2 X.A) (tk : Takes X W) (cm : ∀ a, c.mx a → m a) (he : PD X c M Γ e (.int r)) (ri : RowIs r)
    (out : ∀ (σ : L2.St) (H1 : Hp) (dx : Addr), Ext m H0 H1 → H1 dx = none → W (.ref C) (some dx) σ (upd H1 dx (.xd [("row", .int r)]))) (hg : Gl X x := by rfl) (hdb : (x == ("__debug__" : Str)) = false := by decide) (hs : starEach [e] X.env = (false, eval e X.env) :: starEach [] X.env := by rfl) (hpl : (backTo pos (starEach [] X.env)).any (·.1) = false := by rfl) :
    HS X (.Raise (some (.Call (.Name x p) [e] [] pos)) none pos') (As c H0 m M Γ) D :=
  (ps_raise hc tk (pmk_oex (CX := CX0) C0.oex C0.ini C0.fn F1 hr bI .nil pass0 hg C0.g (ar_d he ar_nil hs) hdb hs hpl)).mono fun D' σ H ⟨⟨rp, x0⟩, _⟩ => ⟨rp, fun vs H1 hvs x1 b1 => by
    have ⟨v, ev, tv⟩ := hvs.one_d
    subst ev
    rw [tv.intE]
    refine ⟨by show 1 ≤ 1000; decide, fun a na => ⟨a, r, rfl, ri, upd_same, fun dx nd ne => ⟨rfl, dx, [("row", .int r)], upd_same, ?_, ?_, ?_⟩⟩⟩
    · rw [upd_ne ne]
      exact upd_same
    · rw [upd_ne ne] at nd
      exact nd
    · rw [upd_ne ne] at nd
      have z := out σ H1 dx (x0.trans (x1.mono cm)) nd
      have eh : upd (del (upd (upd (upd H1 a (exo a C none)) dx (exd dx [("row", .int r)])) a (exo a C (some dx))) a) dx (.xd [("row", .int r)]) = upd H1 dx (.xd [("row", .int r)]) := by
        funext b
        by_cases e1 : b = dx
        · rw [e1, upd_same, upd_same]
        · rw [upd_ne e1, upd_ne e1]
          by_cases e2 : b = a
          · rw [e2, del_same, na]
          · rw [del_ne e2, upd_ne e2, upd_ne e1, upd_ne e2]
      rw [eh]
      exact z⟩
end
end Bw
namespace Bw
open PySem PySem.Spec PyProof.Rows L2 GxR Gx RZ Nx
/-! ### calls of defs that may refuse -/
/-- an expression that ends with a refusal -/
def tBad (W : WX) (c : Cw) (M : Addr → Prop) (Γ : List Sl) (C : Addr) (r : Int) : TE := fun σ H _ => Rp c M H σ Γ ∧ ∀ dx H', Ext c.mx H H' → H' dx = some (.xd [("row", .int r)]) → W (.ref C) (some dx) σ H'
abbrev PBad (X : Cx) (W : WX) (c : Cw) (M : Addr → Prop) (Γ : List Sl) (e : Expr) (C : Addr) (r : Int) : Prop := PE X e (tBad W c M Γ C r)
section
variable {X : Cx} {W : WX} {c : Cw} {M : Addr → Prop} {Γ : List Sl}
section
variable {x : Str} {st : Stmt} {ps : List Str} {f : Addr} {fd : FuncData} {k : Nat} {Ts : List Addr} {R : List PyData → Out → Prop} {e : Expr} {es : List Expr} {p pos : Pos} {ds : List PyData}
/-- it hands back -/
theorem pd_callX {d : PyData} (tk : Takes X W) (D : Df X.K X.mg x st ps f fd) (G : FnOk X.prog X.w X.K X.mg X.base (L2.CX X.prog X.w) k f fd ps (spFunX Ts R)) (hr : Room k X.A) (ha : PAr X c M Γ (e :: es) (ofD ds)) (r : R ds (.val d))
    (ts : ∀ T ∈ Ts, T ∈ c.Ts := by simp) (hg : Gl X x := by rfl) (hdb : (x == ("__debug__" : Str)) = false := by decide) (he : starEach (e :: es) X.env = (false, eval e X.env) :: starEach es X.env := by rfl) (hpl : (backTo pos (starEach es X.env)).any (·.1) = false := by rfl) : PD X c M Γ (.Call (.Name x p) (e :: es) [] pos) d :=
  (pe_callS G hr hg D.g D.F.kp D.b (fun σ => L2.passAt tk σ) ha hdb he hpl).mono fun σ H Q ⟨rp, q⟩ => ⟨rp, fun vs H1 hvs x1 b1 => by
    have r1 := rp.ext x1 b1
    exact ⟨M, ds, .val d, hvs.data, r1.al, fun T t => r1.tb T (ts T t), r, fun d' e v H2 tv x2 => q v H2 (by cases e; exact tv) (x1.trans x2.of0) (c.st no _ _ (fun _ z => z.elim) x2 b1), fun C r e => nomatch e⟩⟩
/-- it refuses -/
theorem pb_call {C : Addr} {r : Int} (tk : Takes X W) (D : Df X.K X.mg x st ps f fd) (G : FnOk X.prog X.w X.K X.mg X.base (L2.CX X.prog X.w) k f fd ps (spFunX Ts R)) (hr : Room k X.A) (ha : PAr X c M Γ (e :: es) (ofD ds)) (h : R ds (.bad C r))
    (ts : ∀ T ∈ Ts, T ∈ c.Ts := by simp) (hg : Gl X x := by rfl) (hdb : (x == ("__debug__" : Str)) = false := by decide) (he : starEach (e :: es) X.env = (false, eval e X.env) :: starEach es X.env := by rfl) (hpl : (backTo pos (starEach es X.env)).any (·.1) = false := by rfl) : PBad X W c M Γ (.Call (.Name x p) (e :: es) [] pos) C r :=
  (pe_callS G hr hg D.g D.F.kp D.b (fun σ => L2.passAt tk σ) ha hdb he hpl).mono fun σ H Q ⟨rp, q⟩ => ⟨rp, fun vs H1 hvs x1 b1 => by
    have r1 := rp.ext x1 b1
    exact ⟨M, ds, .bad C r, hvs.data, r1.al, fun T t => r1.tb T (ts T t), h, fun d' e => (nomatch e), fun C' r' e dx H2 x2 hd => by
      cases e
      exact q dx H2 (x1.trans x2.of0) hd⟩⟩
end
section
variable {H0 : Hp} {m : Addr → Prop} {D : Ends} {e : Expr} {C : Addr} {r : Int} {pos pos' : Pos}
/-- what lets a refusal out -/
abbrev Outs (W : WX) (m : Addr → Prop) (H0 : Hp) (C : Addr) (r : Int) : Prop := ∀ (σ : L2.St) (dx : Addr) (H' : Hp), Ext m H0 H' → H' dx = some (.xd [("row", .int r)]) → W (.ref C) (some dx) σ H'
theorem bad_as {σ : L2.St} {H : Hp} {Q : VK} (cm : ∀ a, c.mx a → m a) (o : Outs W m H0 C r) (a : As c H0 m M Γ σ H) : tBad W c M Γ C r σ H Q := ⟨a.1, fun dx H' x hd => o σ dx H' (a.2.trans (x.mono cm)) hd⟩
theorem hs_exprB (cm : ∀ a, c.mx a → m a) (o : Outs W m H0 C r) (he : PBad X W c M Γ e C r) (hs : swapsWith e none pos.line X.env = pure false := by rfl) : HS X (.Expr e pos) (As c H0 m M Γ) D := (ps_expr he hs).mono fun D' σ H ⟨a, _⟩ => bad_as cm o a
end
end
end Bw
namespace Bw
open PySem PySem.Spec PyProof.Rows L2 GxR Gx RZ
end Bw
namespace Bw
open PySem PySem.Spec PyProof.Rows L2 GxR Gx RZ
end Bw
namespace Bw
open PySem PySem.Spec PyProof.Rows L2 GxR Gx RZ
end Bw
namespace Bw
open PySem PySem.Spec PyProof.Rows L2 GxR Gx RZ Nx TL
end Bw
namespace Bw
open PySem PySem.Spec PyProof.Rows L2 GxR Gx RZ Nx TL
abbrev wD (q : Str × List Nat) : PyData := .tuple (.str q.1 :: q.2.map nI)
def txD : PyData → Str
  | .str s => s
  | .int i => Str.ofString (toString i)
  | _ => Str.empty
def PlainT (t : PyData) : Prop := (∃ s, t = .str s) ∨ ∃ i : Int, t = .int i ∧ i.natAbs.log2 < 1920
def RSpaced (ds : List PyData) (d : PyData) : Prop := ∃ ts : List PyData, (ds = [.tuple ts] ∨ ds = [.list ts]) ∧ d = .str (Txt.join " " (ts.map txD)) ∧ (∀ t ∈ ts, PlainT t) ∧ JoinOk " " (ts.map txD) = true ∧ ts.length < sizeLine
section
variable {base : Heap} {K : PySem.W.Frag} {mg : Str → Option Value} {P : Program} {w : World}
abbrev nSpaced : List Str := ["words", "word"]
theorem scSpaced : FnScope nSpaced ["words"] (defScope s_spaced) := ⟨rfl, rfl, rfl, by decide +kernel, rfl, by decide +kernel, by decide +kernel⟩
theorem ok_spaced {f c0 T : Addr} {fd : FuncData} (D : Dc K mg "spaced" s_spaced ["words"] f fd c0) (TB : TabB base mg c0 T) (B : Bt mg) : FnOk P w K mg base CX0 3 f fd ["words"] (spFun [T] RSpaced) := by
  refine fn_dataC (N := nSpaced) (k := 2) D scSpaced (fun ds d ⟨_, e, _⟩ => by rcases e with e | e <;> · rw [e]; rfl) (fun A outer s H E M ds d hr r => ?_)
  obtain ⟨ts, e0, rfl, pl, jok, few⟩ := r
  have hN := scSpaced.nd
  have cm : ∀ a, (cw0 [T]).mx a → no a := fun _ z => z
  rcases e0 with rfl | rfl
  · exact hb_one (hs_ret cm (pd_joinG (ds := ts) (f := txD) (g := gName 1) (own := [("word", 1)]) (k := 0) (Γ' := fun t => [.d (.tuple ts), .d t]) pd_str hr TB (List.mem_cons_self ..) rfl hN (it_tup (fun _ z => z.elim) (pd_var 0 (pv 0) rfl)) (blkOk_by (N := nSpaced) (sc := defScope s_spaced) (by decide +kernel))
      (fun _ _ _ _ _ _ _ _ _ => pg_name (i := 1) hN rfl (Or.inl rfl)) (fun t _ => tg_name 1) (fun _ _ _ _ _ _ _ _ _ t ht => by
        rcases pl t ht with ⟨y, rfl⟩ | ⟨i, rfl, si⟩
        · exact pd_strS B.str (pd_var 1 (pv 1) rfl)
        · exact pd_strI B.str (pd_var 1 (pv 1) rfl) si) jok few) fun v H' tv x _ => ⟨tv, x⟩)
  · exact hb_one (hs_ret cm (pd_joinG (ds := ts) (f := txD) (g := gName 1) (own := [("word", 1)]) (k := 0) (Γ' := fun t => [.d (.list ts), .d t]) pd_str hr TB (List.mem_cons_self ..) rfl hN (it_lst (fun _ z => z.elim) (pd_var 0 (pv 0) rfl)) (blkOk_by (N := nSpaced) (sc := defScope s_spaced) (by decide +kernel))
      (fun _ _ _ _ _ _ _ _ _ => pg_name (i := 1) hN rfl (Or.inl rfl)) (fun t _ => tg_name 1) (fun _ _ _ _ _ _ _ _ _ t ht => by
        rcases pl t ht with ⟨y, rfl⟩ | ⟨i, rfl, si⟩
        · exact pd_strS B.str (pd_var 1 (pv 1) rfl)
        · exact pd_strI B.str (pd_var 1 (pv 1) rfl) si) jok few) fun v H' tv x _ => ⟨tv, x⟩)
end
end Bw
namespace Bw
open PySem PySem.Spec PyProof.Rows L2 GxR Gx RZ Nx TL
/-! ### rows and moves -/
end Bw
namespace Bw
open PySem PySem.Spec PyProof.Rows L2 GxR Gx RZ Nx TL
/-! ### refuse_none, of any list -/
section
variable {X : Cx} {c : Cw} {M : Addr → Prop} {Γ : List Sl}
/-- o.index(e), o a list of things: the first equal one -/
theorem pd_index {o e : Expr} {apos cpos : Pos} {ds : List PyData} {d z : PyData} {j : Nat} (hu : X.A.units + 65 < cLine) (ho : PD X c M Γ o (.list ds)) (he : PD X c M Γ e d) (ss : SeqAt.shaped (.list ds) = true) (sd : SeqAt.shaped d = true) (at_ : ds[j]? = some z) (yes : PyData.eqv z d = true) (no_ : ∀ (m : Nat) (y : PyData), m < j → ds[m]? = some y → PyData.eqv y d = false) (hs : starEach [e] X.env = (false, eval e X.env) :: starEach [] X.env := by rfl)
    (hp : PE X o (tV c M Γ (isD M (.list ds))) → PAr X c M Γ [e] [.d d] → PE X (.Call (.Attribute o "index" apos) [e] [] cpos) (tBM X.K "list" (rIndexD X.K) (tV c M Γ (isD M (.list ds))) (tAr c M Γ [.d d])) := by exact fun a b => pe_bm PySem.F.plainAttrs_list PySem.F.slot_list_index PySem.F.type_list_index (mt_indexD (by assumption)) a b) :
    PD X c M Γ (.Call (.Attribute o "index" apos) [e] [] cpos) (nI j) :=
  (hp ho (ar_d he ar_nil hs)).mono fun σ H Q ⟨r, q⟩ => ⟨r, fun v H1 hv x1 b1 => by
    have ⟨a, vs, ev, na, ha, all⟩ := hv.lstE
    subst ev
    refine ⟨.inl ⟨rfl, _, SqL.of ha⟩, r.ext x1 b1, fun us H2 hus x2 b2 => ?_⟩
    have ⟨u, eu, tu⟩ := hus.one_d
    subst eu
    exact ⟨a, u, d, ds, j, z, rfl, rfl, (hv.ext x2 r.sub).dp, tu.dp, ss, sd, at_, yes, no_, q _ H2 (.int _) (x1.trans x2) b2⟩⟩
end
end Bw
namespace Bw
open PySem PySem.Spec PyProof.Rows L2 GxR Gx RZ Nx TL
/-! ### how long joined texts are -/
theorem sum_le {b : Nat} : ∀ {ys : List Str}, (∀ y ∈ ys, y.length ≤ b) → (ys.map (·.length)).sum ≤ ys.length * b
  | [], _ => Nat.zero_le _
  | y :: ys, h => by
    have here := h y (List.mem_cons_self ..)
    have h2 := sum_le (ys := ys) fun z hz => h z (List.mem_cons_of_mem _ hz)
    rw [List.map_cons, List.sum_cons, List.length_cons, Nat.add_mul, Nat.one_mul]
    omega
theorem joinL_len (S : List Nat) {b : Nat} : ∀ {ys : List (List Nat)}, (∀ y ∈ ys, y.length ≤ b) → (joinL S ys).length ≤ ys.length * (b + S.length)
  | [], _ => Nat.zero_le _
  | [y], h => by
    have := h y (List.mem_cons_self ..)
    show y.length ≤ 1 * (b + S.length)
    omega
  | y :: z :: r, h => by
    have here := h y (List.mem_cons_self ..)
    have h2 := joinL_len S (ys := z :: r) fun u hu => h u (List.mem_cons_of_mem _ hu)
    show (y ++ (S ++ joinL S (z :: r))).length ≤ ((z :: r).length + 1) * (b + S.length)
    rw [List.length_append, List.length_append, Nat.add_mul, Nat.one_mul]
    omega
theorem join_len {sep : Str} {b : Nat} {ys : List Str} (h : ∀ y ∈ ys, y.length ≤ b) : (Txt.join sep ys).length ≤ ys.length * (b + sep.length) := by
  rw [len_tl, join_eq, tl_join, len_tl sep]
  have := joinL_len (tl sep) (b := b) (ys := ys.map tl) fun l hl => by
    obtain ⟨y, hy, rfl⟩ := List.mem_map.mp hl
    rw [← len_tl]
    exact h y hy
  rwa [List.length_map] at this
theorem jok_of {sep : Str} {b n : Nat} {ys : List Str} (h : ∀ y ∈ ys, y.length ≤ b) (hn : ys.length ≤ n) (few : n * b + n * sep.length ≤ 16777216) : JoinOk sep ys = true := by
  refine joinOk_of ?_
  have h1 := sum_le h
  have h2 : ys.length * b ≤ n * b := Nat.mul_le_mul_right _ hn
  have h3 : ys.length * sep.length ≤ n * sep.length := Nat.mul_le_mul_right _ hn
  omega
theorem nmS_len {n : Nat} (h : n < 1000) : (nmS n).length ≤ 3 := by
  rw [len_nmS]
  exact numL_len (by decide) (show n < 10 ^ 3 from h)
abbrev wTx (q : Str × List Nat) : Str := Txt.join " " (q.1 :: q.2.map nmS)
/-! ### rows -/
def rowW : Row → Str × List Nat
  | .put n v => ("put", [n, v.toNat])
  | .copy n o => ("copy", [n, o])
  | .add n a b => ("add", [n, a, b])
  | .take n a b => ("take", [n, a, b])
  | .less n a b => ("less", [n, a, b])
  | .call n o => ("call", [n, o])
  | .say n => ("say", [n])
  | .iff n r => ("if", [n, r])
  | .go r => ("go", [r])
  | .fin => ("end", [])
def partN (z : Str) : Option Nat := ([("put", 2), ("copy", 2), ("add", 3), ("take", 3), ("less", 3), ("call", 2), ("say", 1), ("if", 2), ("go", 1), ("end", 0)] : List (Str × Nat)).lookup z
theorem rowW_d {names many : Nat} {row : Row} (ok : RowOk names many row) : wD (rowW row) = rowD row := by
  cases row with
  | put n v =>
    show PyData.tuple [.str "put", nI n, nI v.toNat] = .tuple [.str "put", .int n, .int v]
    have : ((v.toNat : Nat) : Int) = v := by have := ok.2.1; omega
    show PyData.tuple [.str "put", nI n, .int ((v.toNat : Nat) : Int)] = _
    rw [this]
  | _ => rfl
theorem rowW_lt {names many : Nat} {row : Row} (ok : RowOk names many row) (h1 : names ≤ 8) (h2 : many ≤ 24) : ∀ n ∈ (rowW row).2, n < 1000 := by
  cases row <;> simp only [rowW, List.mem_cons, List.not_mem_nil, or_false, RowOk] at ok ⊢ <;> intro n hn <;> first | omega | exact hn.elim
def wordsAll : List Str := ["put", "copy", "add", "take", "less", "call", "say", "if", "go", "end", "swap", "store", "load", "box", "slot", "places", "params", "names"]
def okSign (k : Nat) : Bool := decide (97 ≤ k ∧ k ≤ 122)
theorem words_signs : ∀ x ∈ wordsAll, (tl x).all okSign = true ∧ x.length ≤ 6 := by decide +kernel
theorem rowW_in (row : Row) : (rowW row).1 ∈ wordsAll := by cases row <;> simp [rowW, wordsAll]
theorem rowW_few (row : Row) : (rowW row).2.length ≤ 3 := by cases row <;> simp [rowW]
abbrev rowTx (row : Row) : Str := wTx (rowW row)
theorem wTx_words {q : Str × List Nat} (h : ∀ n ∈ q.2, n < 1000) (hq : q.1 ∈ wordsAll) : ∀ y ∈ q.1 :: q.2.map nmS, y.length ≤ 6 := fun y hy => by
  rcases (List.mem_cons).mp hy with e | e
  · rw [e]; exact (words_signs _ hq).2
  · obtain ⟨n, hn, rfl⟩ := List.mem_map.mp e
    exact Nat.le_trans (nmS_len (h n hn)) (by decide)
theorem wTx_len {q : Str × List Nat} (h : ∀ n ∈ q.2, n < 1000) (hq : q.1 ∈ wordsAll) (few : q.2.length ≤ 3) : (wTx q).length ≤ 28 := by
  have z := join_len (sep := " ") (wTx_words h hq)
  rw [List.length_cons, List.length_map] at z
  have e : (" " : Str).length = 1 := by decide +kernel
  rw [e] at z
  have : (q.2.length + 1) * (6 + 1) ≤ 4 * 7 := Nat.mul_le_mul_right _ (by omega)
  exact Nat.le_trans z this
/-! ### programs -/
abbrev headTx (p : Prog) : Str := ((((Str.empty : Str) ++ "params ") ++ nmS p.params) ++ " names ") ++ nmS p.names
theorem headTx_eq (p : Prog) : headTx p = Txt.join " " ["params", nmS p.params, "names", nmS p.names] := by
  refine ext_tl ?_
  rw [join_eq, tl_join]
  show tl (((((Str.empty : Str) ++ "params ") ++ nmS p.params) ++ " names ") ++ nmS p.names) = tl "params" ++ (tl " " ++ (tl (nmS p.params) ++ (tl " " ++ (tl "names" ++ (tl " " ++ tl (nmS p.names))))))
  rw [tl_append, tl_append, tl_append, tl_append]
  have e1 : tl (Str.empty : Str) ++ tl "params " = tl "params" ++ tl " " := by decide +kernel
  have e2 : tl (" names " : Str) = tl " " ++ (tl "names" ++ tl " ") := by decide +kernel
  rw [e1, e2]
  simp only [List.append_assoc]
abbrev progTx (p : Prog) : Str := Txt.join "\n" (headTx p :: p.rows.map rowTx)
theorem headTx_len {p : Prog} (h1 : p.params < 1000) (h2 : p.names < 1000) : (headTx p).length ≤ 28 := by
  rw [headTx_eq]
  refine Nat.le_trans (join_len (b := 6) fun x hx => ?_) (by show 4 * (6 + (" " : Str).length) ≤ 28; decide +kernel)
  have e : x = "params" ∨ x = nmS p.params ∨ x = "names" ∨ x = nmS p.names := by simpa using hx
  rcases e with e | e | e | e
  · rw [e]; decide +kernel
  · rw [e]; exact Nat.le_trans (nmS_len h1) (by decide)
  · rw [e]; decide +kernel
  · rw [e]; exact Nat.le_trans (nmS_len h2) (by decide)
theorem Prog.Ok.num {p : Prog} (ok : p.Ok) : p.params < 1000 ∧ p.names < 1000 := by
  have := ok.n1
  have := ok.pn
  omega
theorem prog_lines {p : Prog} (ok : p.Ok) : ∀ x ∈ headTx p :: p.rows.map rowTx, x.length ≤ 28 := fun x hx => by
  rcases List.mem_cons.mp hx with e | e
  · rw [e]; exact headTx_len ok.num.1 ok.num.2
  · obtain ⟨row, hr, rfl⟩ := List.mem_map.mp e
    exact wTx_len (rowW_lt (ok.ok row hr) ok.n1 ok.r1) (rowW_in row) (rowW_few row)
end Bw
namespace Bw
open PySem PySem.Spec PyProof.Rows L2 GxR Gx RZ
/-! ### the checks, one by one, as data -/
def RCheckP (ds : List PyData) (d : PyData) : Prop := ∃ p : Prog, ds = [progD p] ∧ d = .none ∧ p.Ok
section
variable {base : Heap} {K : PySem.W.Frag} {mg : Str → Option Value} {P : Program} {w : World}
theorem dt_checkP {f : Addr} {fd : FuncData} {k : Nat} {ps : List Str} {T : Addr} (G : FnOk P w K mg base CX0 k f fd ps (spCheck T)) : FnOk P w K mg base CX0 k f fd ps (spFun [T] RCheckP) := G.imp fun vs H Q E ⟨M, ds, d, all, al, tabs, ⟨p, e1, e2, pok⟩, q⟩ => by
  subst e1 e2
  cases all with
  | cons t1 all =>
    cases all
    obtain ⟨pa, rfl, hp⟩ := t1.progE
    exact ⟨pa, p, rfl, hp, pok, tabs T (by simp), fun H' x => q _ H' .non x⟩
end
end Bw
namespace Bw
open PySem
end Bw
namespace Bw
open PySem PySem.Spec PyProof.Rows L2 GxR Gx RZ
end Bw
namespace Bw
open PySem PySem.Spec PyProof.Rows L2 GxR Gx RZ
def rowBack : PyData → Row
  | .tuple (.str w :: rest) =>
    if w = "put" then (match rest with | [a, .int v] => Row.put (unI a) v | _ => .fin) else
    if w = "copy" then (match rest with | [a, b] => Row.copy (unI a) (unI b) | _ => .fin) else
    if w = "add" then (match rest with | [a, b, c] => Row.add (unI a) (unI b) (unI c) | _ => .fin) else
    if w = "take" then (match rest with | [a, b, c] => Row.take (unI a) (unI b) (unI c) | _ => .fin) else
    if w = "less" then (match rest with | [a, b, c] => Row.less (unI a) (unI b) (unI c) | _ => .fin) else
    if w = "call" then (match rest with | [a, b] => Row.call (unI a) (unI b) | _ => .fin) else
    if w = "say" then (match rest with | [a] => Row.say (unI a) | _ => .fin) else
    if w = "if" then (match rest with | [a, b] => Row.iff (unI a) (unI b) | _ => .fin) else
    if w = "go" then (match rest with | [a] => Row.go (unI a) | _ => .fin) else
    .fin
  | _ => .fin
theorem rowBack_rowD (row : Row) : rowBack (rowD row) = row := by
  cases row with
  | put n v =>
    unfold rowBack rowD
    dsimp only [rowV, List.map, vD]
    rw [if_pos rfl]
    show Row.put (unI (nI n)) v = _
    rw [unI_nI]
  | copy n o =>
    unfold rowBack rowD
    dsimp only [rowV, List.map, vD]
    rw [if_neg (by decide +kernel : ¬ (("copy" : Str) = "put")), if_pos rfl]
    show Row.copy (unI (nI n)) (unI (nI o)) = _
    rw [unI_nI, unI_nI]
  | add n a b =>
    unfold rowBack rowD
    dsimp only [rowV, List.map, vD]
    rw [if_neg (by decide +kernel : ¬ (("add" : Str) = "put")), if_neg (by decide +kernel : ¬ (("add" : Str) = "copy")), if_pos rfl]
    show Row.add (unI (nI n)) (unI (nI a)) (unI (nI b)) = _
    rw [unI_nI, unI_nI, unI_nI]
  | take n a b =>
    unfold rowBack rowD
    dsimp only [rowV, List.map, vD]
    rw [if_neg (by decide +kernel : ¬ (("take" : Str) = "put")), if_neg (by decide +kernel : ¬ (("take" : Str) = "copy")), if_neg (by decide +kernel : ¬ (("take" : Str) = "add")), if_pos rfl]
    show Row.take (unI (nI n)) (unI (nI a)) (unI (nI b)) = _
    rw [unI_nI, unI_nI, unI_nI]
  | less n a b =>
    unfold rowBack rowD
    dsimp only [rowV, List.map, vD]
    rw [if_neg (by decide +kernel : ¬ (("less" : Str) = "put")), if_neg (by decide +kernel : ¬ (("less" : Str) = "copy")), if_neg (by decide +kernel : ¬ (("less" : Str) = "add")), if_neg (by decide +kernel : ¬ (("less" : Str) = "take")), if_pos rfl]
    show Row.less (unI (nI n)) (unI (nI a)) (unI (nI b)) = _
    rw [unI_nI, unI_nI, unI_nI]
  | call n o =>
    unfold rowBack rowD
    dsimp only [rowV, List.map, vD]
    rw [if_neg (by decide +kernel : ¬ (("call" : Str) = "put")), if_neg (by decide +kernel : ¬ (("call" : Str) = "copy")), if_neg (by decide +kernel : ¬ (("call" : Str) = "add")), if_neg (by decide +kernel : ¬ (("call" : Str) = "take")), if_neg (by decide +kernel : ¬ (("call" : Str) = "less")), if_pos rfl]
    show Row.call (unI (nI n)) (unI (nI o)) = _
    rw [unI_nI, unI_nI]
  | say n =>
    unfold rowBack rowD
    dsimp only [rowV, List.map, vD]
    rw [if_neg (by decide +kernel : ¬ (("say" : Str) = "put")), if_neg (by decide +kernel : ¬ (("say" : Str) = "copy")), if_neg (by decide +kernel : ¬ (("say" : Str) = "add")), if_neg (by decide +kernel : ¬ (("say" : Str) = "take")), if_neg (by decide +kernel : ¬ (("say" : Str) = "less")), if_neg (by decide +kernel : ¬ (("say" : Str) = "call")), if_pos rfl]
    show Row.say (unI (nI n)) = _
    rw [unI_nI]
  | iff n r =>
    unfold rowBack rowD
    dsimp only [rowV, List.map, vD]
    rw [if_neg (by decide +kernel : ¬ (("if" : Str) = "put")), if_neg (by decide +kernel : ¬ (("if" : Str) = "copy")), if_neg (by decide +kernel : ¬ (("if" : Str) = "add")), if_neg (by decide +kernel : ¬ (("if" : Str) = "take")), if_neg (by decide +kernel : ¬ (("if" : Str) = "less")), if_neg (by decide +kernel : ¬ (("if" : Str) = "call")), if_neg (by decide +kernel : ¬ (("if" : Str) = "say")), if_pos rfl]
    show Row.iff (unI (nI n)) (unI (nI r)) = _
    rw [unI_nI, unI_nI]
  | go r =>
    unfold rowBack rowD
    dsimp only [rowV, List.map, vD]
    rw [if_neg (by decide +kernel : ¬ (("go" : Str) = "put")), if_neg (by decide +kernel : ¬ (("go" : Str) = "copy")), if_neg (by decide +kernel : ¬ (("go" : Str) = "add")), if_neg (by decide +kernel : ¬ (("go" : Str) = "take")), if_neg (by decide +kernel : ¬ (("go" : Str) = "less")), if_neg (by decide +kernel : ¬ (("go" : Str) = "call")), if_neg (by decide +kernel : ¬ (("go" : Str) = "say")), if_neg (by decide +kernel : ¬ (("go" : Str) = "if")), if_pos rfl]
    show Row.go (unI (nI r)) = _
    rw [unI_nI]
  | fin  =>
    unfold rowBack rowD
    dsimp only [rowV, List.map, vD]
    rw [if_neg (by decide +kernel : ¬ (("end" : Str) = "put")), if_neg (by decide +kernel : ¬ (("end" : Str) = "copy")), if_neg (by decide +kernel : ¬ (("end" : Str) = "add")), if_neg (by decide +kernel : ¬ (("end" : Str) = "take")), if_neg (by decide +kernel : ¬ (("end" : Str) = "less")), if_neg (by decide +kernel : ¬ (("end" : Str) = "call")), if_neg (by decide +kernel : ¬ (("end" : Str) = "say")), if_neg (by decide +kernel : ¬ (("end" : Str) = "if")), if_neg (by decide +kernel : ¬ (("end" : Str) = "go"))]
end Bw
namespace Bw
open PySem PySem.Spec PyProof.Rows L2 GxR Gx RZ Nx TL
theorem log_num {k : Nat} (h : k < 1000) : ((k : Nat) : Int).natAbs.log2 < 1920 := by
  show k.log2 < 1920
  rcases Nat.eq_zero_or_pos k with z | z
  · rw [z]; decide
  · have big : 2 ^ 10 < 2 ^ 1920 := Nat.pow_lt_pow_right (by decide) (by decide)
    exact (Nat.log2_lt (Nat.ne_of_gt z)).mpr (by omega)
theorem wD_tx (q : Str × List Nat) : ((.str q.1 :: q.2.map nI : List PyData).map txD) = q.1 :: q.2.map nmS := by
  rw [List.map_cons, List.map_map]
  rfl
theorem wD_plain {q : Str × List Nat} (h : ∀ n ∈ q.2, n < 1000) : ∀ t ∈ (.str q.1 :: q.2.map nI : List PyData), PlainT t := fun t ht => by
  rcases List.mem_cons.mp ht with e | e
  · exact .inl ⟨_, e⟩
  · obtain ⟨n, hn, rfl⟩ := List.mem_map.mp e
    exact .inr ⟨_, rfl, log_num (h n hn)⟩
theorem len_blank : (" " : Str).length = 1 := by decide +kernel
/-- spaced of a word and numbers -/
theorem spaced_w {q : Str × List Nat} (h : ∀ n ∈ q.2, n < 1000) (hq : q.1 ∈ wordsAll) (few : q.2.length ≤ 3) : RSpaced [wD q] (.str (wTx q)) := by
  refine ⟨.str q.1 :: q.2.map nI, .inl rfl, by rw [wD_tx], wD_plain h, ?_, ?_⟩
  · rw [wD_tx]
    exact jok_of (b := 6) (n := 4) (wTx_words h hq) (by rw [List.length_cons, List.length_map]; omega) (by rw [len_blank]; decide)
  · rw [List.length_cons, List.length_map]
    exact Nat.lt_of_le_of_lt (show q.2.length + 1 ≤ 4 by omega) (by decide)
def RWritten (ds : List PyData) (d : PyData) : Prop := ∃ p : Prog, ds = [progD p] ∧ d = .str (progTx p) ∧ p.Ok
section
variable {base : Heap} {K : PySem.W.Frag} {mg : Str → Option Value} {P : Program} {w : World}
abbrev nWritten : List Str := ["program", "params", "names", "rows", "row"]
theorem scWritten : FnScope nWritten ["program"] (defScope s_written) := ⟨rfl, rfl, rfl, by decide +kernel, rfl, by decide +kernel, by decide +kernel⟩
theorem ok_written {f fC fS : Addr} {TC TS : List Addr} {fd fdC fdS : FuncData} (D : Df K mg "written" s_written ["program"] f fd) (DC : Df K mg "check_program" s_check_program ["program"] fC fdC) (GC : FnOk P w K mg base CX0 5 fC fdC ["program"] (spFun TC RCheckP)) (DS : Df K mg "spaced" s_spaced ["words"] fS fdS) (GS : FnOk P w K mg base CX0 3 fS fdS ["words"] (spFun TS RSpaced)) : FnOk P w K mg base CX0 6 f fd ["program"] (spFun (TC ++ TS) RWritten) := by
  refine fn_data (N := nWritten) (k := 5) D scWritten (fun ds d ⟨_, e, _⟩ => by rw [e]; rfl) (fun cdv A outer s H E M ds d hr r => ?_)
  obtain ⟨p, rfl, rfl, pok⟩ := r
  have hN := scWritten.nd
  have hr3 := hr.mono (show 3 ≤ 5 by decide)
  have cm : ∀ a, (cw0 (TC ++ TS)).mx a → no a := fun _ z => z
  have T1 : ∀ X ∈ TC, X ∈ (cw0 (TC ++ TS)).Ts := fun X h => List.mem_append_left _ h
  have T2 : ∀ X ∈ TS, X ∈ (cw0 (TC ++ TS)).Ts := fun X h => List.mem_append_right _ h
  have ⟨n1, n2⟩ := pok.num
  have r24 := pok.r1
  refine hb_cons (hs_expr cm (pd_call DC GC hr (ar_d (pd_var 0 (pv 0) rfl) ar_nil) ⟨p, rfl, rfl, pok⟩ T1)) ?_
  refine hb_cons (hs_asg (d := progD p) (own := [1, 2, 3]) cm (pd_var 0 (pv 0) rfl) (pg_tup rfl (pgs_cons (pg_name (i := 1) hN rfl (Or.inl rfl)) (pgs_cons (pg_name (i := 2) hN rfl (Or.inl rfl)) (pgs_cons (pg_name (i := 3) hN rfl (Or.inl rfl)) pgs_nil)))) (tg_three 1 2 3) (fun h1 h2 => ps_asg h1 h2)) ?_
  have el : [PyData.str (headTx p)] ++ ((p.rows.filter fun _ => true).map fun row => PyData.str (rowTx row)) = (headTx p :: p.rows.map rowTx).map PyData.str := by
    rw [List.filter_eq_self.mpr fun _ _ => rfl, List.map_cons, List.map_map]
    rfl
  have h10 : ∀ x : Str, x.length ≤ 1000 → x.length ≤ sizeLine := fun x h => Nat.le_trans h (by decide)
  have lh := headTx_len n1 n2
  have l1 : ((Str.empty : Str) ++ "params ").length ≤ 1000 := by decide +kernel
  have grow : ∀ x y : Str, (x ++ y).length = x.length + y.length := fun x y => by rw [len_tl, tl_append, List.length_append, ← len_tl, ← len_tl]
  have l4 : ((((Str.empty : Str) ++ "params ") ++ nmS p.params) ++ " names ").length ≤ 28 := by rw [grow] at lh; omega
  have l3 : (((Str.empty : Str) ++ "params ") ++ nmS p.params).length ≤ 28 := by rw [grow] at l4; omega
  refine hb_one (hs_ret cm (pd_joinD (ws := headTx p :: p.rows.map rowTx) pd_str (by
    rw [← el]
    exact PV.lst (pn_cat (PV.lst (pn_lst (ds := [.str (headTx p)]) (ar_d (pd_fstr pd_str (pd_var 1 (pv 1) rfl) pd_str (pd_var 2 (pv 2) rfl) (log_num n1) (log_num n2) (h10 _ (Nat.le_trans lh (by decide))) (h10 _ l1) (h10 _ (Nat.le_trans l3 (by decide))) (h10 _ (Nat.le_trans l4 (by decide)))) ar_nil) (by show 1 ≤ sizeLine; decide)))
      (PV.lst (pn_lcm (l := p.rows) (F := rowD) rowBack (p := fun _ => true) (f := fun row => PyData.str (rowTx row)) (g := gName 4) (own := [("row", 4)]) (Γ' := fun row => [.d (progD p), .d (nI p.params), .d (nI p.names), .d (.tuple (p.rows.map rowD)), .d (rowD row)]) (fun row _ => rowBack_rowD row) rfl hN (it_tup (fun _ z => z.elim) (pd_var 3 (pv 3) rfl)) (blkOk_by (N := nWritten) (sc := defScope s_written) (by decide +kernel))
        (fun _ _ _ _ _ => pg_name (i := 4) hN rfl (Or.inl rfl)) (fun _ row _ => tg_name 4) (fun _ _ _ _ _ _ _ row _ => pq_nil) (fun _ _ _ _ _ _ _ row hrow _ => by
          have ro := pok.ok row hrow
          refine pd_call (ds := [rowD row]) DS GS hr3 (ar_d (pd_var 4 (pv 4) rfl) ar_nil) ?_ T2
          rw [← rowW_d ro]
          exact spaced_w (rowW_lt ro pok.n1 r24) (rowW_in row) (rowW_few row)) (Nat.lt_of_le_of_lt r24 (by decide))))
      (by
        rw [List.length_map, List.filter_eq_self.mpr fun _ _ => rfl]
        exact Nat.le_trans (show 1 + p.rows.length ≤ 25 by omega) (by decide)))) ?_) fun v H' tv x _ => ⟨tv, x⟩)
  have z := sum_le (prog_lines pok)
  have e : ("\n" : Str).length = 1 := by decide +kernel
  rw [e]
  have : (headTx p :: p.rows.map rowTx).length ≤ 25 := by rw [List.length_cons, List.length_map]; omega
  omega
end
end Bw
namespace Bw
open PySem PySem.Spec PyProof.Rows L2 GxR Gx RZ Nx TL
end Bw
namespace Bw
open PySem PySem.Spec PyProof.Rows L2 GxR Gx RZ Nx TL
/-! ### read, of any text -/
theorem look_mem {z : Str} {k : Nat} : ∀ {l : List (Str × Nat)}, l.lookup z = some k → (z, k) ∈ l
  | [], h => by cases h
  | (y, j) :: l, h => by
    by_cases e : z == y
    · rw [List.lookup_cons, e] at h
      have e1 : z = y := eq_of_beq e
      cases h
      rw [e1]
      exact List.mem_cons_self ..
    · have e' : (z == y) = false := by simpa using e
      rw [List.lookup_cons, e'] at h
      exact List.mem_cons_of_mem _ (look_mem h)
end Bw
namespace Bw
open PySem PySem.Spec PyProof.Rows L2 GxR Gx RZ Nx TL
/-! ### row_can_be, of a word and as many numbers as it wants -/
def hiV (names many : Nat) : V → Int
  | .str s => match valV (mergeK [] (highs names many)) (Sum.inr s) with
    | some (.int h) => h
    | _ => -1
  | _ => -1
theorem part_hi {names many : Nat} {row : Row} {i : Nat} {x : V} (h : (partsOf row)[i]? = some x) : ∃ s : Str, x = .str s ∧ valV (mergeK [] (highs names many)) (Sum.inr s) = some (.int (hiV names many x)) := by
  have m := List.mem_of_getElem? h
  have e : x = .str "name" ∨ x = .str "number" ∨ x = .str "row" := by
    cases row <;> simp only [partsOf, List.mem_cons, List.not_mem_nil, or_false] at m <;> first | exact m.elim | (rcases m with m | m | m <;> simp [m]) | (rcases m with m | m <;> simp [m]) | simp [m]
  rcases e with e | e | e <;> rw [e]
  · refine ⟨_, rfl, ?_⟩
    show _ = some (V.int (match valV (mergeK [] (highs names many)) (Sum.inr "name") with | some (.int h) => h | _ => -1))
    rw [high_name]
  · refine ⟨_, rfl, ?_⟩
    show _ = some (V.int (match valV (mergeK [] (highs names many)) (Sum.inr "number") with | some (.int h) => h | _ => -1))
    rw [high_number]
  · refine ⟨_, rfl, ?_⟩
    show _ = some (V.int (match valV (mergeK [] (highs names many)) (Sum.inr "row") with | some (.int h) => h | _ => -1))
    rw [high_row]
end Bw
namespace Bw
open PySem PySem.Spec PyProof.Rows L2 GxR Gx RZ Nx TL
/-! ### small rules -/
section
variable {X : Cx} {c : Cw} {M : Addr → Prop} {Γ : List Sl}
theorem pd_gtI {a b : Expr} {i j : Int} {pos : Pos} (ha : PD X c M Γ a (.int i)) (hb : PD X c M Γ b (.int j)) : PD X c M Γ (.Compare a [.Gt] [b] pos) (.bool (decide (j < i))) := pv_cmp op_gt back_d ha hb (fun v u H Q hv hw q => by
  rw [hv.intE, hw.intE]
  exact ⟨i, j, rfl, rfl, q _ H (.bl _) (Ext.refl _ _)⟩) (nomark _)
end
theorem pd_neg {X : Cx} {c : Cw} {M : Addr → Prop} {Γ : List Sl} {e : Expr} {i : Int} {pos : Pos} (h : PD X c M Γ e (.int i)) : PD X c M Γ (.UnaryOp .USub e pos) (.int (-i)) := (pe_un un_neg h).mono fun σ H Q ⟨r, q⟩ => ⟨r, fun v H1 hv x1 b1 => by
  rw [hv.intE]
  exact ⟨i, rfl, q _ H1 (.int _) x1 b1⟩⟩
end Bw
namespace Bw
open PySem PySem.Spec PyProof.Rows L2 GxR Gx RZ
/-! ### what laws over drawn cases share -/
/-- what the law itself says of what it is told and what is due -/
def RAlike (n : Nat) (ds : List PyData) (d : PyData) : Prop := ∃ e, ds = [e, e] ∧ d = .bool true ∧ Lv n e = true
section
variable {base : Heap} {K : PySem.W.Frag} {mg : Str → Option Value} {P : Program} {w : World}
theorem dt_alike {f : Addr} {fd : FuncData} {k n : Nat} (G : FnOk P w K mg base CX0 k f fd ["_law_found", "_law_due"] (spAlike K n)) : FnOk P w K mg base CX0 k f fd ["_law_found", "_law_due"] (spFun [] (RAlike n)) := G.imp fun vs H Q E ⟨M, ds, d, all, al, tabs, ⟨e, e1, e2, lv⟩, q⟩ => by
  subst e1 e2
  obtain ⟨v, u, rfl, tv, tu⟩ := all.two
  exact ⟨v, u, e, rfl, tv.dp, tu.dp, lv, q _ H (.bl true) (Ext.refl _ _)⟩
end
end Bw
namespace Bw
open PySem PySem.Spec PyProof.Rows L2 GxR Gx RZ
section
variable {X : Cx} {c : Cw} {H0 : Hp} {m M : Addr → Prop} {Γ : List Sl} {D : Ends}
theorem hs_parX (i j : Nat) {x y : Str} {a b : Expr} {S1 S2 : PyData → Prop} {px py pt pos : Pos} {kt k2 pt2} (cm : ∀ a, c.mx a → m a) (hc : X.calm = true) (hN : X.N.Nodup) (h : PAX X c M Γ [a, b] [S1, S2]) (hi : X.N[i]? = some x := by rfl) (hj : X.N[j]? = some y := by rfl) (hij : i ≠ j := by decide) (hx : X.env.scope.names.lookup x = some .local := by rfl) (hy : X.env.scope.names.lookup y = some .local := by rfl)
    (hw : swappedStores [.Tuple [.Name x px, .Name y py] kt pt] (.Tuple [a, b] k2 pt2) X.env = pure (some [x, y]) := by rfl) (hs : swapsWithSole [.Tuple [.Name x px, .Name y py] kt pt] (.Tuple [a, b] k2 pt2) pos.line X.env = pure false := by rfl) :
    HS X (.Assign [.Tuple [.Name x px, .Name y py] kt pt] (.Tuple [a, b] k2 pt2) pos) (As c H0 m M Γ) { D with nx := fun σ H => ∃ q : PyData × PyData, (S1 q.1 ∧ S2 q.2) ∧ As c H0 m M ((Γ.set i (.d q.1)).set j (.d q.2)) σ H } :=
  (ps_par hc hN hi hj hij hx hy h hw hs).mono fun D' σ H ⟨⟨r, x0⟩, n, _⟩ => ⟨r, fun vs ds H1 all fit x1 b1 => by
    cases fit with
    | cons s1 t =>
      cases t with
      | cons s2 t2 =>
        cases t2
        obtain ⟨v, u, rfl, tv, tu⟩ := all.two
        exact ⟨v, u, rfl, n _ _ ⟨(_, _), ⟨s1, s2⟩, ((r.ext x1 b1).setD i tv).setD j tu, x0.trans (x1.mono cm)⟩⟩⟩
end
end Bw
namespace Bw
open PySem PySem.Spec PyProof.Rows L2 GxR Gx RZ Nx PySem.W
end Bw
namespace Bw
open PySem PySem.Spec PyProof.Rows L2 GxR Gx RZ Nx PySem.W
end Bw
namespace Bw
open PySem PySem.Spec PyProof.Rows L2 GxR Gx RZ Nx PySem.W
end Bw
namespace Bw
open PySem PySem.Spec PyProof.Rows L2 GxR Gx RZ Nx PySem.W
end Bw
namespace Bw
open PySem PySem.Spec PyProof.Rows L2 GxR Gx RZ Nx PySem.W
end Bw
namespace Bw
open PySem PySem.Spec PyProof.Rows L2 GxR Gx RZ Nx PySem.W
end Bw
namespace Bw
open PySem PySem.Spec PyProof.Rows L2 GxR Gx RZ
end Bw
namespace Sx
open L2 PyProof.Rows PySem PySem.Spec
theorem tuple_once (l : Addr) (items : Array Value) (n : Nat) (dd : Option Addr) (sl : Array (Option Value)) (u : Tok) (full : items.isEmpty = false) :
    Meets (Builtin.«tuple.__mul__» ⟨[.ref l, .int 1 u], []⟩) (fun _ R s => s.heap.get? l = some { cls := .type "tuple", dict := dd, data := .seq items n, slots := sl } ∧ R (.ok (.ret (Value.ref l))) s) :=
  .of_wp fun prog w A R st given => by
    obtain ⟨heap1, gens1, drawn1, tk1, os1⟩ := st
    obtain ⟨isT, h⟩ := given
    have f1 := AutoSeq1.idx_int
    have c0 : (decide ((1 : Int) < -(2 ^ 63)) || decide ((1 : Int) ≥ 2 ^ 63)) = false := by decide
    have c1 : (items.isEmpty || ((1 : Int) == 1)) = true := by rw [full]; rfl
    wp_walk using (wpAny_loadPart' isT)
    repeat (first
      | (refine wpAny_ite_false (decide_eq_false (by rw [c0]; exact Bool.false_ne_true)) ?_; wp_walk using (wpAny_loadPart' isT))
      | (refine wpAny_ite_true (decide_eq_true c1) ?_; wp_walk using (wpAny_loadPart' isT)))
    exact ⟨_, rfl, h⟩
section
variable {X : Cx}
def rRep1 (K : PySem.W.Frag) : R2 := fun x y H Q => ∃ l xs, x = .ref l ∧ y = .int 1 ∧ SqT K H l xs ∧ xs ≠ [] ∧ Q (.ref l) H
theorem op_rep1 : OpR X (binaryOp .Mult) (rRep1 X.K) := by
  intro pins s σ1 H1 x y v u Q1 inv rx ry want
  obtain ⟨l, xs, rfl, rfl, isT, full, q⟩ := want
  cases rx
  obtain ⟨t, rfl⟩ := ry
  obtain ⟨its, r, ⟨⟨cls, dd, data, sl⟩, ho, isC, n, isD⟩, _⟩ := inv.tuple isT
  simp only at isC isD
  subst isC isD
  have hi : (its.toArray.isEmpty) = false := by
    cases its with
    | nil => cases r; exact absurd rfl full
    | cons a b => rfl
  refine wpAny_binaryOp_repeat_ref (T := "tuple") (U := "int") (by decide) ⟨_, ho, rfl⟩ (fun s' => typeIs_int s' 1 t) noFill_tuple_mul F.fills_int_mul F.slot_int_rmul repeat_tuple F.slot_int_index.lookup
    (call_meets F.slot_int_rmul (typeIs_int s 1 t) F.entry_int_rmul (F.args_int_rmul_2 _ _) (int_rmul_tuple 1 t l its.toArray n dd sl)
      ⟨ho, rfl, ⟨_, ho, rfl⟩, call_meets F.slot_tuple_mul ⟨_, ho, rfl⟩ F.entry_tuple_mul (F.args_tuple_mul_2 _ _) (tuple_once l its.toArray n dd sl t hi) ⟨ho, ?_⟩⟩)
  exact ⟨.ref l, H1, inv, rfl, q⟩
end
end Sx
namespace Sx
open L2 PyProof.Rows PySem PySem.Spec
/-! tuple * 0, 1, 2 .. -/
theorem tuple_none (l : Addr) (items : Array Value) (n : Nat) (dd : Option Addr) (sl : Array (Option Value)) (u : Tok) (full : items.isEmpty = false) :
    Meets (Builtin.«tuple.__mul__» ⟨[.ref l, .int 0 u], []⟩) (fun _ R s => s.heap.get? l = some { cls := .type "tuple", dict := dd, data := .seq items n, slots := sl } ∧
      R (.ok (.ret (Value.ref s.heap.objs.size))) { s with heap := s.heap.push { cls := Value.type "tuple", data := Data.seq #[] }, toks := s.toks }) :=
  .of_wp fun prog w A R st given => by
    obtain ⟨heap1, gens1, drawn1, tk1, os1⟩ := st
    obtain ⟨isT, h⟩ := given
    have f1 := AutoSeq1.idx_int
    have c0 : (decide ((0 : Int) < -(2 ^ 63)) || decide ((0 : Int) ≥ 2 ^ 63)) = false := by decide
    have c1 : (items.isEmpty || ((0 : Int) == 1)) = false := by rw [full]; rfl
    have c2 : (decide ((0 : Int) ≤ 0) || items.isEmpty) = true := by rw [full]; rfl
    wp_walk using (wpAny_loadPart' isT)
    repeat (first
      | (refine wpAny_ite_false (decide_eq_false (by rw [c0]; exact Bool.false_ne_true)) ?_; wp_walk using (wpAny_loadPart' isT))
      | (refine wpAny_ite_false (decide_eq_false (by rw [c1]; exact Bool.false_ne_true)) ?_; wp_walk using (wpAny_loadPart' isT))
      | (refine wpAny_ite_true (decide_eq_true c2) ?_; wp_walk using (wpAny_loadPart' isT)))
    exact ⟨_, rfl, h⟩
section
variable {X : Cx}
def rRep0 (K : PySem.W.Frag) : R2 := fun x y H Q => ∃ l xs, x = .ref l ∧ y = .int 0 ∧ SqT K H l xs ∧ xs ≠ [] ∧ ∀ p, H p = none → Q (.ref p) (upd H p (.tup []))
theorem op_rep0 : OpR X (binaryOp .Mult) (rRep0 X.K) := by
  intro pins s σ1 H1 x y v u Q1 inv rx ry want
  obtain ⟨l, xs, rfl, rfl, isT, full, q⟩ := want
  cases rx
  obtain ⟨t, rfl⟩ := ry
  obtain ⟨its, r, ⟨⟨cls, dd, data, sl⟩, ho, isC, n, isD⟩, _⟩ := inv.tuple isT
  simp only at isC isD
  subst isC isD
  have hi : (its.toArray.isEmpty) = false := by
    cases its with
    | nil => cases r; exact absurd rfl full
    | cons a b => rfl
  refine wpAny_binaryOp_repeat_ref (T := "tuple") (U := "int") (by decide) ⟨_, ho, rfl⟩ (fun s' => typeIs_int s' 0 t) noFill_tuple_mul F.fills_int_mul F.slot_int_rmul repeat_tuple F.slot_int_index.lookup
    (call_meets F.slot_int_rmul (typeIs_int s 0 t) F.entry_int_rmul (F.args_int_rmul_2 _ _) (int_rmul_tuple 0 t l its.toArray n dd sl)
      ⟨ho, rfl, ⟨_, ho, rfl⟩, call_meets F.slot_tuple_mul ⟨_, ho, rfl⟩ F.entry_tuple_mul (F.args_tuple_mul_2 _ _) (tuple_none l its.toArray n dd sl t hi) ⟨ho, ?_⟩⟩)
  refine ⟨.ref s.heap.objs.size, _, inv.laid (t' := s.toks) (o := .tup []) (fun b ob z => Heap.get?_push_of_some _ z) (Nat.le_refl _) ?_, rfl, q _ (inv.hok.fresh (Nat.le_refl _))⟩
  exact ⟨Nat.zero_le _, _, .nil, IsTup.new _ _⟩
def rRepS (K : PySem.W.Frag) : R2 := fun x y H Q => rRep0 K x y H Q ∨ rRep1 K x y H Q ∨ rRepT K x y H Q
theorem op_repS : OpR X (binaryOp .Mult) (rRepS X.K) := by
  intro pins s σ1 H1 x y v u Q1 inv rx ry want
  rcases want with h | h | h
  · exact op_rep0 pins s σ1 H1 x y v u Q1 inv rx ry h
  · exact op_rep1 pins s σ1 H1 x y v u Q1 inv rx ry h
  · exact op_repT pins s σ1 H1 x y v u Q1 inv rx ry h
end
end Sx
namespace Bw
open PySem PySem.Spec PyProof.Rows L2 GxR Gx RZ
/-! ### more draws: moves, choices, (x,) * 0, 1, 2 .. -/
section
variable {X : Cx} {c : Cw} {M : Addr → Prop} {Γ : List Sl}
theorem px_rep {a b : Expr} {pos : Pos} {S : PyData → Prop} (ha : PX X c M Γ a (fun d => ∃ x, S x ∧ d = .tuple [x])) (hb : PX X c M Γ b (below 3)) : PX X c M Γ (.BinOp a .Mult b pos) (fun d => ∃ ds, (ds.length ≤ 2 ∧ ∀ x ∈ ds, S x) ∧ d = .tuple ds) :=
  px_two (fun h1 h2 => pe_op Sx.op_repS h1 h2) back_s ha hb fun x y H Q d e ⟨z, sz, ed⟩ ⟨k, kl, ee⟩ hx hy q => by
    subst ed ee
    obtain ⟨t, vs, rfl, ht, all⟩ := hx.tupE
    rw [hy.intE]
    have full : vs ≠ [] := fun h => by rw [h] at all; cases all
    have len : vs.length = 1 := all.len
    have three : k = 0 ∨ k = 1 ∨ k = 2 := by omega
    rcases three with rfl | rfl | rfl
    · exact .inl ⟨t, vs, rfl, rfl, SqT.of ht, full, fun r nr => q _ _ ⟨.tuple [], ⟨[], ⟨Nat.zero_le _, fun _ z => by cases z⟩, rfl⟩, .tup upd_same .nil⟩ (Ext.new nr)⟩
    · exact .inr (.inl ⟨t, vs, rfl, rfl, SqT.of ht, full, q _ _ ⟨.tuple [z], ⟨[z], ⟨by show 1 ≤ 2; decide, fun x hx => by rw [List.mem_singleton.mp hx]; exact sz⟩, rfl⟩, hx⟩ (Ext.refl _ _)⟩)
    · refine .inr (.inr ⟨t, 2, vs, rfl, rfl, SqT.of ht, full, by decide, by decide, by rw [len]; decide, fun r nr => q _ _ ⟨.tuple [z, z], ⟨[z, z], ⟨Nat.le_refl _, fun x hx => ?_⟩, rfl⟩, .tup upd_same ?_⟩ (Ext.new nr)⟩)
      · rcases List.mem_cons.mp hx with e | e
        · rw [e]; exact sz
        · rw [List.mem_singleton.mp e]; exact sz
      · have a2 := (all.ext (m := no) (Ext.new (o := .tup (List.replicate (2 : Int).toNat vs).flatten) nr) fun _ z => z.elim)
        have e2 : (List.replicate (2 : Int).toNat vs).flatten = vs ++ vs := by
          show vs ++ (vs ++ []) = vs ++ vs
          rw [List.append_nil]
        rw [e2] at a2 ⊢
        exact a2.app a2
end
end Bw
namespace Bw
open PySem PySem.Spec PyProof.Rows L2 GxR Gx RZ Nx PySem.W
/-! ### programs and frames that are drawn, min, max, halves -/
theorem lt_nats (a b : Nat) : dataLt (nI a) (nI b) = decide (a < b) := by
  have e : dataLt (nI a) (nI b) = (decide ((a : Int) < (b : Int)) || (!decide ((b : Int) < (a : Int)) && false)) := rfl
  rw [e, Bool.and_false, Bool.or_false]
  exact decide_eq_decide.mpr ⟨fun h => by omega, fun h => by omega⟩
section
variable {X : Cx} {c : Cw} {M : Addr → Prop} {Γ : List Sl}
theorem pd_minN {a b : Expr} {i j : Nat} {p pos : Pos} (calm : X.calm = true) (hm : X.mg "min" = none) (ha : PD X c M Γ a (nI i)) (hb : PD X c M Γ b (nI j)) (hu : X.A.units + 64 < cLine) (he : starEach [a, b] X.env = (false, eval a X.env) :: starEach [b] X.env := by rfl) (he2 : starEach [b] X.env = (false, eval b X.env) :: starEach [] X.env := by rfl) (hg : Gl X "min" := by rfl) (hpl : (backTo pos (starEach [b] X.env)).any (·.1) = false := by rfl) : PD X c M Γ (.Call (.Name "min" p) [a, b] [] pos) (nI (min i j)) := by
  have e : nI (min i j) = if dataLt (nI j) (nI i) = true then nI j else nI i := by
    rw [lt_nats]
    by_cases h : j < i
    · rw [if_pos (decide_eq_true h), Nat.min_eq_right (Nat.le_of_lt h)]
    · rw [if_neg (by rw [decide_eq_false h]; decide), Nat.min_eq_left (by omega)]
  rw [e]
  refine pd_minTwo calm hm ha hb ⟨fun x hx y hy => ?_, fun x hx => ?_⟩ (Nat.lt_of_le_of_lt (show X.A.units + 1 + 0 ≤ X.A.units + 64 by omega) hu) he he2 hg hpl
  · simp only [List.mem_cons, List.not_mem_nil, or_false] at hx hy
    rcases hx with rfl | rfl <;> rcases hy with rfl | rfl <;> rfl
  · simp only [List.mem_cons, List.not_mem_nil, or_false] at hx
    rcases hx with rfl | rfl <;> (intro z; cases z)
end
end Bw
namespace Bw
open PySem PySem.Spec PyProof.Rows L2 GxR Gx RZ Nx TL
/-! ### check_program, of a program that was read -/
def rowOfW (z : Str) : Row := if z = "put" then .put 0 0 else if z = "copy" then .copy 0 0 else if z = "add" then .add 0 0 0 else if z = "take" then .take 0 0 0 else if z = "less" then .less 0 0 0 else if z = "call" then .call 0 0 else if z = "say" then .say 0 else if z = "if" then .iff 0 0 else if z = "go" then .go 0 else .fin
theorem rowOfW_is {z : Str} {k : Nat} (h : partN z = some k) : wordOf (rowOfW z) = z ∧ (partsOf (rowOfW z)).length = k := by
  have m := look_mem h
  simp only [List.mem_cons, List.not_mem_nil, or_false, Prod.mk.injEq] at m
  rcases m with ⟨e1, e2⟩ | ⟨e1, e2⟩ | ⟨e1, e2⟩ | ⟨e1, e2⟩ | ⟨e1, e2⟩ | ⟨e1, e2⟩ | ⟨e1, e2⟩ | ⟨e1, e2⟩ | ⟨e1, e2⟩ | ⟨e1, e2⟩ <;> subst e1 e2
  · exact (by decide +kernel : wordOf (rowOfW "put") = "put" ∧ (partsOf (rowOfW "put")).length = 2)
  · exact (by decide +kernel : wordOf (rowOfW "copy") = "copy" ∧ (partsOf (rowOfW "copy")).length = 2)
  · exact (by decide +kernel : wordOf (rowOfW "add") = "add" ∧ (partsOf (rowOfW "add")).length = 3)
  · exact (by decide +kernel : wordOf (rowOfW "take") = "take" ∧ (partsOf (rowOfW "take")).length = 3)
  · exact (by decide +kernel : wordOf (rowOfW "less") = "less" ∧ (partsOf (rowOfW "less")).length = 3)
  · exact (by decide +kernel : wordOf (rowOfW "call") = "call" ∧ (partsOf (rowOfW "call")).length = 2)
  · exact (by decide +kernel : wordOf (rowOfW "say") = "say" ∧ (partsOf (rowOfW "say")).length = 1)
  · exact (by decide +kernel : wordOf (rowOfW "if") = "if" ∧ (partsOf (rowOfW "if")).length = 2)
  · exact (by decide +kernel : wordOf (rowOfW "go") = "go" ∧ (partsOf (rowOfW "go")).length = 1)
  · exact (by decide +kernel : wordOf (rowOfW "end") = "end" ∧ (partsOf (rowOfW "end")).length = 0)
section
variable {base : Heap} {K : PySem.W.Frag} {mg : Str → Option Value} {P : Program} {w : World}
theorem scHeadX : FnScope ["program", "params", "names", "rows"] ["program"] (defScope s_head_can_be) := ⟨rfl, rfl, rfl, by decide +kernel, rfl, by decide +kernel, by decide +kernel⟩
end
end Bw
namespace Bw
open PySem PySem.Spec PyProof.Rows L2 GxR Gx RZ Nx TL
/-! ### check_program, of a program that was read: itself -/
end Bw
namespace Bw
open PySem PySem.Spec PyProof.Rows L2 GxR Gx RZ Nx TL
/-! ### what a dict of the module tells of a text that is no key of it -/
/-- the keys of the rows, one by one -/
def KeysAre : List Str → List DictEntry → Prop
  | [], [] => True
  | x :: xs, e :: es => (∃ t, e.key = .str x t) ∧ KeysAre xs es
  | _, _ => False
theorem KeysAre.none {z : Str} : ∀ {xs : List Str} {es : List DictEntry}, KeysAre xs es → z ∉ xs → es.find? (·.key.isStr z) = Option.none ∧ es.any (·.refKey) = false
  | [], [], _, _ => ⟨rfl, rfl⟩
  | [], _ :: _, h, _ => h.elim
  | _ :: _, [], h, _ => h.elim
  | x :: xs, e :: es, ⟨⟨t, ek⟩, r⟩, nz => by
    have ⟨a, b⟩ := r.none fun m => nz (List.mem_cons_of_mem _ m)
    have nx : (x == z) = false := beq_eq_false_iff_ne.mpr fun q => nz (q ▸ List.mem_cons_self)
    have e1 : e.key.isStr z = false := by rw [ek]; exact nx
    have e2 : e.refKey = false := by unfold DictEntry.refKey; rw [ek]
    exact ⟨by rw [List.find?_cons, e1]; exact a, by rw [List.any_cons, e2, b]; rfl⟩
theorem ns_absent {K : PySem.W.Frag} {d : Addr} {ws : List Str} {od : Option Addr} {es : Array DictEntry} {n : Nat} {sl : Array (Option Value)} {c : Value} (lk : K.lookup d = some ⟨c, od, .dict es n, sl⟩) (ka : KeysAre ws es.toList) {z : Str} (nz : z ∉ ws) : PySem.W.nsIn K d z = some none := by
  have ⟨a, b⟩ := ka.none nz
  unfold PySem.W.nsIn
  rw [lk]
  simp only []
  rw [a]
  simp only []
  rw [if_neg (by rw [b]; exact Bool.false_ne_true)]
def partKeys : List Str := ["put", "copy", "add", "take", "less", "call", "say", "if", "go", "end"]
theorem partN_out {z : Str} (h : partN z = none) : z ∉ partKeys := fun m => by
  have all : ∀ x ∈ partKeys, partN x ≠ none := by decide +kernel
  exact all z m h
end Bw
namespace Bw
open PySem PySem.Spec PyProof.Rows L2 GxR Gx RZ Nx TL
/-! ### what any data may be: kinds, numbers, tuples of so many -/
def tyN : PyData → String
  | .none => "NoneType"
  | .bool _ => "bool"
  | .int _ => "int"
  | .str _ => "str"
  | .tuple _ => "tuple"
  | .list _ => "list"
  | .dict _ => "dict"
theorem Td.ty {K : PySem.W.Frag} {M : Addr → Prop} {H : Hp} {v : V} {d : PyData} (h : Td M H v d) : TyX K H v (.type (tyN d)) := by
  cases h with
  | non => exact .base .non
  | bl b => exact .base (.bl b)
  | int i => exact .base (.int i)
  | str s => exact .base (.str s)
  | tup h all => exact .base (.tup h)
  | lst n h all => exact .base (.lst h)
def isI : PyData → Bool
  | .int _ => true
  | .bool _ => true
  | _ => false
def isBl : PyData → Bool
  | .bool _ => true
  | _ => false
def isSt : PyData → Bool
  | .str _ => true
  | _ => false
def isTu : PyData → Bool
  | .tuple _ => true
  | _ => false
section
variable {K : PySem.W.Frag}
theorem kit_int (d : PyData) : PySem.W.kitOne K (.type (tyN d)) (.type "int") = some (isI d) := kit_ty (by cases d <;> rfl)
theorem kit_bool (d : PyData) : PySem.W.kitOne K (.type (tyN d)) (.type "bool") = some (isBl d) := kit_ty (by cases d <;> rfl)
theorem kit_str (d : PyData) : PySem.W.kitOne K (.type (tyN d)) (.type "str") = some (isSt d) := kit_ty (by cases d <;> rfl)
theorem kit_tup (d : PyData) : PySem.W.kitOne K (.type (tyN d)) (.type "tuple") = some (isTu d) := kit_ty (by cases d <;> rfl)
end
section
variable {X : Cx} {c : Cw} {M : Addr → Prop} {Γ : List Sl}
/-- isinstance(e, kind) -/
theorem pd_kind {T : String} {x : Str} {e : Expr} {d : PyData} {b : Bool} {p1 p2 pos : Pos} (hm : X.mg "isinstance" = none) (h : PD X c M Γ e d) (hT : PE X (.Name x p2) (tC (.ty T))) (kit : PySem.W.kitOne X.K (.type (tyN d)) (.type T) = some b) (hg : Gl X "isinstance" := by rfl) (he : starEach [e, .Name x p2] X.env = (false, eval e X.env) :: starEach [.Name x p2] X.env := by rfl) : PD X c M Γ (.Call (.Name "isinstance" p1) [e, .Name x p2] [] pos) (.bool b) :=
  (pe_callB call_isi hg hm (by decide +kernel) (pa_cons h (pa_cons hT pa_nil) he) (he := he)).mono fun σ H Q ⟨r, q⟩ => ⟨r, fun v H1 hv x1 b1 => ⟨_, _, _, _, b, rfl, .ty T, Td.ty hv, kit, q _ H1 (.bl b) x1 b1⟩⟩
/-- a <= b <= e -/
theorem pd_between {a b e : Expr} {i j k : Int} {pos : Pos} (ha : PD X c M Γ a (.int i)) (hb : PD X c M Γ b (.int j)) (he : PD X c M Γ e (.int k)) (hm : lastMarks [.LtE, .LtE] [b, e] = false := by with_unfolding_all rfl) : PD X c M Γ (.Compare a [.LtE, .LtE] [b, e] pos) (.bool (decide (i ≤ j) && decide (j ≤ k))) :=
  (pe_chain op_le op_le ha hb he hm).mono fun σ H Q ⟨r, q⟩ => ⟨r, fun x H1 hx x1 b1 => ⟨r.ext x1 b1, fun y H2 hy x2 b2 => by
    rw [Td.intE hx, Td.intE hy]
    refine ⟨_, _, rfl, rfl, decide (i ≤ j), rfl, ?_⟩
    by_cases z : i ≤ j
    · rw [decide_eq_true z] at q ⊢
      exact iteT ⟨(r.ext x1 b1).ext x2 b2, fun w H3 hw x3 b3 => by
        rw [Td.intE hw]
        exact ⟨_, _, rfl, rfl, q _ H3 (.bl _) ((x1.trans x2).trans x3) b3⟩⟩
    · rw [decide_eq_false z] at q ⊢
      exact iteF (q _ H2 (.bl _) (x1.trans x2) b2)⟩⟩
end
/-- whether it is a number from lo to hi -/
def numG : PyData → Int → Int → Bool
  | .int v, lo, hi => decide (lo ≤ v) && decide (v ≤ hi)
  | _, _, _ => false
def RNumG (ds : List PyData) (d : PyData) : Prop := ∃ (v : PyData) (lo hi : Int), ds = [v, .int lo, .int hi] ∧ d = .bool (numG v lo hi)
/-- whether it is a tuple of so many -/
def tupG : PyData → Int → Bool
  | .tuple ds, n => decide ((ds.length : Int) = n)
  | _, _ => false
def RTupG (ds : List PyData) (d : PyData) : Prop := ∃ (v : PyData) (n : Int), ds = [v, .int n] ∧ d = .bool (tupG v n)
theorem numG_int {d : PyData} {lo hi : Int} (h : numG d lo hi = true) : ∃ v, d = .int v ∧ lo ≤ v ∧ v ≤ hi := by
  cases d with
  | int v =>
    have h : (decide (lo ≤ v) && decide (v ≤ hi)) = true := h
    rw [Bool.and_eq_true, decide_eq_true_eq, decide_eq_true_eq] at h
    exact ⟨v, rfl, h⟩
  | _ => cases h
theorem only_int {d : PyData} (h1 : isI d = true) (h2 : (!isBl d) = true) : ∃ v, d = .int v := by
  cases d with
  | int v => exact ⟨v, rfl⟩
  | bool b => cases h2
  | _ => cases h1
theorem numG_and (d : PyData) (lo hi : Int) : numG d lo hi = (isI d && (!isBl d && numG d lo hi)) := by
  cases d <;> rfl
section
variable {base : Heap} {K : PySem.W.Frag} {mg : Str → Option Value} {P : Program} {w : World}
theorem ok_numG {f : Addr} {fd : FuncData} (D : Df K mg "is_number" s_is_number ["value", "low", "high"] f fd) (B : Bt mg) : FnOk P w K mg base CX0 1 f fd ["value", "low", "high"] (spFun [] RNumG) := by
  refine fn_data (N := ["value", "low", "high"]) (k := 0) D scNum (fun ds d ⟨_, _, _, e, _⟩ => by rw [e]; rfl) (fun cdv A outer s H E M ds d hr r => ?_)
  have ⟨v, lo, hi, e1, e2⟩ := r
  subst e1 e2
  have cm : ∀ a, (cw0 ([] : List Addr)).mx a → no a := fun _ z => z
  rw [numG_and]
  refine hb_one (hs_ret cm (pd_and3 (pd_kind B.isinstance (pd_var 0 (pv 0) rfl) (pe_bltn (v := .ty "int") (by rfl) B.int (by decide +kernel) rfl) (kit_int v)) (fun _ => pd_not (pd_kind B.isinstance (pd_var 0 (pv 0) rfl) (pe_bltn (v := .ty "bool") (by rfl) B.bool (by decide +kernel) rfl) (kit_bool v))) fun h1 h2 => ?_) fun u H' tv x _ => ⟨tv, x⟩)
  have ⟨i, ei⟩ := only_int h1 h2
  subst ei
  exact pd_between (pd_var 1 (pv 1) rfl) (pd_var 0 (pv 0) rfl) (pd_var 2 (pv 2) rfl)
theorem ok_tupG {f : Addr} {fd : FuncData} (D : Df K mg "is_tuple_of" s_is_tuple_of ["value", "many"] f fd) (B : Bt mg) : FnOk P w K mg base CX0 1 f fd ["value", "many"] (spFun [] RTupG) := by
  refine fn_data (N := ["value", "many"]) (k := 0) D scTupOf (fun ds d ⟨_, _, e, _⟩ => by rw [e]; rfl) (fun cdv A outer s H E M ds d hr r => ?_)
  have ⟨v, n, e1, e2⟩ := r
  subst e1 e2
  have cm : ∀ a, (cw0 ([] : List Addr)).mx a → no a := fun _ z => z
  have e3 : tupG v n = (isTu v && tupG v n) := by cases v <;> rfl
  rw [e3]
  refine hb_one (hs_ret cm (pd_and (pd_kind B.isinstance (pd_var 0 (pv 0) rfl) (pe_bltn (v := .ty "tuple") (by rfl) B.tuple (by decide +kernel) rfl) (kit_tup v)) fun h1 => ?_) fun u H' tv x _ => ⟨tv, x⟩)
  cases v with
  | tuple ds => exact pd_eqI (pd_lenT B.len (pd_var 0 (pv 0) rfl)) (pd_var 1 (pv 1) rfl)
  | _ => cases h1
/-! ### programs of any kind: the head -/
def lenG : PyData → Nat
  | .tuple ds => ds.length
  | _ => 0
def intG : PyData → Int
  | .int v => v
  | _ => 0
def headG : PyData → Bool
  | .tuple [a, b, r] => (numG b 1 8 && numG a 0 (intG b)) && (isTu r && decide ((0 : Int) < (lenG r : Int)))
  | _ => false
def RHeadG (ds : List PyData) (d : PyData) : Prop := ∃ v, ds = [v] ∧ d = .bool (headG v)
theorem tup3 {d : PyData} (h : tupG d 3 = true) : ∃ a b r, d = .tuple [a, b, r] := by
  cases d with
  | tuple ds =>
    have h : decide ((ds.length : Int) = 3) = true := h
    have h := of_decide_eq_true h
    match ds, h with
    | [a, b, r], _ => exact ⟨a, b, r, rfl⟩
    | [], h => cases h
    | [_], h => cases h
    | [_, _], h => cases h
    | _ :: _ :: _ :: _ :: ds, h =>
      rw [List.length_cons, List.length_cons, List.length_cons, List.length_cons] at h
      omega
  | _ => cases h
theorem headG_no {d : PyData} (h : tupG d 3 = false) : headG d = false := by
  cases d with
  | tuple ds =>
    match ds, h with
    | [a, b, r], h => cases h
    | [], _ => rfl
    | [_], _ => rfl
    | [_, _], _ => rfl
    | _ :: _ :: _ :: _ :: _, _ => rfl
  | _ => rfl
theorem ok_headG {f fT fN : Addr} {fd fdT fdN : FuncData} (D : Df K mg "head_can_be" s_head_can_be ["program"] f fd) (DT : Df K mg "is_tuple_of" s_is_tuple_of ["value", "many"] fT fdT) (DN : Df K mg "is_number" s_is_number ["value", "low", "high"] fN fdN) (B : Bt mg) (G : Gk mg) : FnOk P w K mg base CX0 2 f fd ["program"] (spFun [] RHeadG) := by
  have GT : FnOk P w K mg base CX0 1 fT fdT ["value", "many"] (spFun [] RTupG) := ok_tupG DT B
  have GN : FnOk P w K mg base CX0 1 fN fdN ["value", "low", "high"] (spFun [] RNumG) := ok_numG DN B
  refine fn_data (N := ["program", "params", "names", "rows"]) (k := 1) D scHeadX (fun ds d ⟨_, e, _⟩ => by rw [e]; rfl) (fun cdv A outer s H E M ds d hr r0 => ?_)
  have ⟨v, e1, e2⟩ := r0
  clear r0
  subst e1 e2
  have hN := scHeadX.nd
  have cm : ∀ a, (cw0 ([] : List Addr)).mx a → no a := fun _ z => z
  have En : ∀ T ∈ ([] : List Addr), T ∈ (cw0 ([] : List Addr)).Ts := fun _ z => z
  refine hb_cons (B := fun σ H' => tupG v 3 = true ∧ As (cw0 []) H no M [.d v, .any, .any, .any] σ H') (hs_if (b := !tupG v 3) cm (pq_not (pq_val (pd_call (ds := [v, nI 3]) DT GT hr (ar_d (pd_var 0 (pv 0) rfl) (ar_d pd_int ar_nil)) ⟨v, 3, rfl, rfl⟩ En))) (fun e => ?_) (fun e => hb_nil fun σ H' h => ⟨by rw [Bool.not_eq_false'] at e; exact e, h⟩)) (hb_when fun yes => ?_)
  · rw [Bool.not_eq_true'] at e
    rw [headG_no e]
    exact hb_one (hs_ret cm pd_bl fun v H' tv x _ => ⟨tv, x⟩)
  have ⟨a, b, r, ev⟩ := tup3 yes
  subst ev
  refine hb_cons (hs_asg (d := .tuple [a, b, r]) (own := [1, 2, 3]) cm (pd_var 0 (pv 0) rfl) (pg_tup rfl (pgs_cons (pg_name (i := 1) hN rfl (Or.inl rfl)) (pgs_cons (pg_name (i := 2) hN rfl (Or.inl rfl)) (pgs_cons (pg_name (i := 3) hN rfl (Or.inl rfl)) pgs_nil)))) (tg_three 1 2 3) (fun h1 h2 => ps_asg h1 h2)) ?_
  refine hb_cons (B := fun σ H' => (numG b 1 8 && numG a 0 (intG b)) = true ∧ As (cw0 []) H no M [.d (.tuple [a, b, r]), .d a, .d b, .d r] σ H') (hs_if (b := !numG b 1 8 || !numG a 0 (intG b)) cm (pq_or (pq_not (pq_val (pd_call (ds := [b, .int 1, .int 8]) DN GN hr (ar_d (pd_var 2 (pv 2) rfl) (ar_d pd_int (ar_d (pd_of (pe_num G.names) fun _ => .int 8) ar_nil))) ⟨b, 1, 8, rfl, rfl⟩ En))) fun e => pq_not (pq_val ?_)) (fun e => ?_) (fun e => hb_nil fun σ H' h => ⟨(by revert e; cases numG b 1 8 <;> cases numG a 0 (intG b) <;> decide), h⟩)) (hb_when fun yes => ?_)
  · rw [Bool.not_eq_false'] at e
    have ⟨n, en, _, _⟩ := numG_int e
    subst en
    exact pd_call (ds := [a, .int 0, .int n]) DN GN hr (ar_d (pd_var 1 (pv 1) rfl) (ar_d pd_int (ar_d (pd_var 2 (pv 2) rfl) ar_nil))) ⟨a, 0, n, rfl, rfl⟩ En
  · have z : headG (.tuple [a, b, r]) = false := by
      show ((numG b 1 8 && numG a 0 (intG b)) && _) = false
      revert e
      cases numG b 1 8 <;> cases numG a 0 (intG b) <;> first | (intro _; rfl) | (intro e; cases e)
    rw [z]
    exact hb_one (hs_ret cm pd_bl fun v H' tv x _ => ⟨tv, x⟩)
  · have z : headG (.tuple [a, b, r]) = (isTu r && decide ((0 : Int) < (lenG r : Int))) := by
      show ((numG b 1 8 && numG a 0 (intG b)) && _) = _
      rw [yes, Bool.true_and]
    rw [z]
    refine hb_one (hs_ret cm (pd_and (pd_kind B.isinstance (pd_var 3 (pv 3) rfl) (pe_bltn (v := .ty "tuple") (by rfl) B.tuple (by decide +kernel) rfl) (kit_tup r)) fun h => ?_) fun v H' tv x _ => ⟨tv, x⟩)
    cases r with
    | tuple ds => exact pd_gtI (pd_lenT B.len (pd_var 3 (pv 3) rfl)) pd_int
    | _ => cases h
end
end Bw
namespace Bw
open PySem PySem.Spec PyProof.Rows L2 GxR Gx RZ Nx TL
/-! ### row_can_be, of any data -/
/-- what may follow the word of a row -/
def partsG (names many : Nat) (w : Str) (ds : List PyData) : Bool := decide (ds.length = (partsOf (rowOfW w)).length) && ((partsOf (rowOfW w)).zip ds).all fun p => numG p.2 0 (hiV names many p.1)
def rowG (names many : Nat) : PyData → Bool
  | .tuple (.str w :: ds) => (partN w).isSome && partsG names many w ds
  | _ => false
def spRowG (T : Addr) : Sp := fun vs H Q _ => ∃ (M : Addr → Prop) (x : V) (d : PyData) (names many : Nat), vs = [x, .int names, .int many] ∧ Td M H x d ∧ (∀ a, M a → H a ≠ none) ∧ TabG H T ∧ ∀ H', Ext no H H' → Q (.bl (rowG names many d)) H'
theorem part_not {K : PySem.W.Frag} {w : World} {mg : Str → Option Value} {d : Addr} {es : Array DictEntry} {n : Nat} (PT0 : Parts K w mg d es n) (ka : KeysAre partKeys es.toList) {z : Str} (h : partN z = none) : PySem.W.nsIn K d z = some none := ns_absent PT0.kd.1 ka (partN_out h)
theorem TdAll.at' {M : Addr → Prop} {H : Hp} {vs : List V} {ds : List PyData} {i : Nat} {v : V} (h : TdAll M H vs ds) (e : vs[i]? = some v) : ∃ d, ds[i]? = some d ∧ Td M H v d := by
  have lt : i < ds.length := by rw [← h.len]; exact (List.getElem?_eq_some_iff.mp e).1
  have ⟨u, eu, tu⟩ := h.get (List.getElem?_eq_getElem lt)
  rw [e] at eu
  rw [Option.some.inj eu]
  exact ⟨_, List.getElem?_eq_getElem lt, tu⟩
section
variable {base : Heap} {K : PySem.W.Frag} {mg : Str → Option Value} {P : Program} {w : World}
set_option maxHeartbeats 2100000 in
theorem ok_rowG {f c T fN d : Addr} {fd fdN : FuncData} {es : Array DictEntry} {n0 : Nat} (D : Dc K mg "row_can_be" s_row_can_be ["row", "names", "many"] f fd c) (TB : TabB base mg c T) (DN : Df K mg "is_number" s_is_number ["value", "low", "high"] fN fdN)
    (PT0 : Parts K w mg d es n0) (ka : KeysAre partKeys es.toList) (B : Bt mg) (G : Gk mg) : FnOk P w K mg base CX0 4 f fd ["row", "names", "many"] (spRowG T) := by
  have GN : FnOk P w K mg base CX0 1 fN fdN ["value", "low", "high"] (spFun [] RNumG) := ok_numG DN B
  refine D.ok scRowCan (fun vs H Q E h => ?_) (fun A outer s H vs Q E hr h => ?_)
  · have ⟨M, x, d, names, many, e, _⟩ := h
    rw [e]
    rfl
  · obtain ⟨M, x, dd, names, many, rfl, tx, al, tab, q⟩ := h
    have hu := hu_of hr
    refine ⟨_, pss_cons (ps_if (PW.pt (pw_or (pt_not (pt_val (pe_callB call_isi (by rfl) B.isinstance (by decide +kernel) (pa_cons (pv 0) (pa_cons (pe_bltn (v := .ty "tuple") (by rfl) B.tuple (by decide +kernel) rfl) pa_nil)))))
        (pw_or (pt_not (pt_truth (pv 0) (fun _ => rfl))) (pw_or1 (pt_not (pt_val (pe_callB call_isi (by rfl) B.isinstance (by decide +kernel) (pa_cons (pe_ix ix_tup (pv 0) pe_int (fun _ _ => rfl)) (pa_cons (pe_bltn (v := .ty "str") (by rfl) B.str (by decide +kernel) rfl) pa_nil)))))))))
        (pss_one (ps_ret pe_bl)) pss_nil)
      (pss_cons (ps_if (pt_cmpR (op_notIn_kd PT0.kd) (pe_ix ix_tup (pv 0) pe_int (fun _ _ => rfl)) (pe_glob (v := .ref d) (by rfl) PT0.g rfl) (by rfl)) (pss_one (ps_ret pe_bl)) pss_nil)
      (pss_cons (ps_set (i := 3) scRowCan.nd rfl (.inl rfl) (pe_ix ix_kdict (pe_glob (v := .ref d) (by rfl) PT0.g rfl) (pe_ix ix_tup (pv 0) pe_int (fun _ _ => rfl)) (fun _ _ => rfl)))
      (pss_cons (ps_set (i := 4) scRowCan.nd rfl (.inr rfl) (pe_disp (pps_cons pe_str (pe_op op_sub (pv 1) pe_int) (pps_cons pe_str (pe_num G.value) (pps_cons pe_str (pe_op op_sub (pv 2) pe_int) pps_nil))) rfl rfl (by simp) (by decide)))
      (pss_cons (ps_if (pt_cmpR op_ne (pe_callB call_len_seq (by rfl) B.len PySem.boot_len (pa_cons (pv 0) pa_nil)) (pe_op op_add (pe_callB call_len_seq (by rfl) B.len PySem.boot_len (pa_cons (pv 3) pa_nil)) pe_int) (nomark _)) (pss_one (ps_ret pe_bl)) pss_nil)
      (pss_one (ps_ret (pe_allG (P := T) (own := [("part", 5), ("told", 6)]) (k := 1) (g := gTup K 2 (gCons (gName 5) (gCons (gName 6) gNil))) (tt := tYes) hr (by rfl) B.all TB rfl scRowCan.nd (pi_zipA (by rfl) B.zip (pa_cons (pv 3) (pa_cons (pe_slice sl_tup (pv 0) (po_some pe_int) po_none) pa_nil)))
        (blkOk_by (N := nRowCan) (sc := defScope s_row_can_be) (by decide +kernel))
        (fun _ _ _ _ _ _ _ _ _ => pg_tup rfl (pgs_cons (pg_name (i := 5) scRowCan.nd rfl (Or.inl rfl)) (pgs_cons (pg_name (i := 6) scRowCan.nd rfl (Or.inl rfl)) pgs_nil))) (fun _ _ _ _ _ _ _ _ _ => pts_nil)
        (fun _ _ _ _ _ _ _ _ hA => pcall DN GN hA (pa_cons (pv 6) (pa_cons pe_int (pa_cons (pe_dget (hu_of hA) (pv 4) (pv 5) (fun _ _ => rfl)) pa_nil))))))))))), ?_⟩
    cases tx with
    | non => exact ⟨_, rfl, _, _, _, _, false, rfl, .ty "tuple", .base .non, kit_ty (by decide +kernel), _, rfl, iteT (iteT (q H (Ext.refl _ _)))⟩
    | bl b => exact ⟨_, rfl, _, _, _, _, false, rfl, .ty "tuple", .base (.bl b), kit_ty (by decide +kernel), _, rfl, iteT (iteT (q H (Ext.refl _ _)))⟩
    | int i => exact ⟨_, rfl, _, _, _, _, false, rfl, .ty "tuple", .base (.int i), kit_ty (by decide +kernel), _, rfl, iteT (iteT (q H (Ext.refl _ _)))⟩
    | str y => exact ⟨_, rfl, _, _, _, _, false, rfl, .ty "tuple", .base (.str y), kit_ty (by decide +kernel), _, rfl, iteT (iteT (q H (Ext.refl _ _)))⟩
    | lst nr hr1 all => exact ⟨_, rfl, _, _, _, _, false, rfl, .ty "tuple", .base (.lst hr1), kit_ty (by decide +kernel), _, rfl, iteT (iteT (q H (Ext.refl _ _)))⟩
    | @tup r vs ds hrow all =>
      have hT := SqT.of (K := K) hrow
      refine ⟨_, rfl, _, _, _, _, true, rfl, .ty "tuple", tyT hT, kit_ty (by decide +kernel), _, rfl, iteF ?_⟩
      cases all with
      | nil => exact ⟨_, rfl, false, .inr (.inl ⟨_, hT, rfl⟩), iteT (iteT (q H (Ext.refl _ _)))⟩
      | @cons v0 d0 us ds h0 rest =>
        refine ⟨_, rfl, true, .inr (.inl ⟨_, hT, rfl⟩), iteF ?_⟩
        have first : atI (v0 :: us) 0 = some v0 := atI_nat (j := 0) rfl
        cases h0 with
        | non => exact ⟨_, rfl, r, _, 0, _, rfl, rfl, hT, first, _, _, _, _, false, rfl, .ty "str", .base .non, kit_ty (by decide +kernel), _, rfl, iteT (q H (Ext.refl _ _))⟩
        | bl b => exact ⟨_, rfl, r, _, 0, _, rfl, rfl, hT, first, _, _, _, _, false, rfl, .ty "str", .base (.bl b), kit_ty (by decide +kernel), _, rfl, iteT (q H (Ext.refl _ _))⟩
        | int i => exact ⟨_, rfl, r, _, 0, _, rfl, rfl, hT, first, _, _, _, _, false, rfl, .ty "str", .base (.int i), kit_ty (by decide +kernel), _, rfl, iteT (q H (Ext.refl _ _))⟩
        | tup h1 a1 => exact ⟨_, rfl, r, _, 0, _, rfl, rfl, hT, first, _, _, _, _, false, rfl, .ty "str", .base (.tup h1), kit_ty (by decide +kernel), _, rfl, iteT (q H (Ext.refl _ _))⟩
        | lst n1 h1 a1 => exact ⟨_, rfl, r, _, 0, _, rfl, rfl, hT, first, _, _, _, _, false, rfl, .ty "str", .base (.lst h1), kit_ty (by decide +kernel), _, rfl, iteT (q H (Ext.refl _ _))⟩
        | str wd =>
          refine ⟨_, rfl, r, _, 0, _, rfl, rfl, hT, first, _, _, _, _, true, rfl, .ty "str", .base (.str wd), kit_ty (by decide +kernel), _, rfl, iteF ?_⟩
          cases ep : partN wd with
          | none =>
            have z := q H (Ext.refl _ _)
            have e : rowG names many (.tuple (.str wd :: ds)) = false := by
              show ((partN wd).isSome && _) = false
              rw [ep]
              rfl
            rw [e] at z
            exact ⟨_, rfl, r, _, 0, _, rfl, rfl, hT, first, wd, none, rfl, rfl, part_not PT0 ka ep, _, rfl, iteT z⟩
          | some k =>
            have ⟨ew, ek⟩ := rowOfW_is ep
            have er : rowG names many (.tuple (.str wd :: ds)) = partsG names many wd ds := by
              show ((partN wd).isSome && _) = _
              rw [ep]
              rfl
            rw [er] at q
            obtain ⟨pa, isP, tupP⟩ := PT0.ex (rowOfW wd)
            rw [ew] at isP
            have lu : us.length = ds.length := rest.len
            refine ⟨_, rfl, r, _, 0, _, rfl, rfl, hT, first, wd, _, rfl, rfl, isP, _, rfl, iteF ?_⟩
            refine ⟨_, rfl, r, _, 0, _, rfl, rfl, hT, first, d, _, .ref pa, rfl, rfl, ⟨_, _, _, PT0.kd.at_, PT0.kd.lit, isP, rfl⟩, ?_⟩
            refine fun p np => ⟨_, rfl, _, _, rfl, rfl, _, rfl, _, _, rfl, rfl, ?_⟩
            refine ⟨upd_same, highs names many, rfl, by show 3 ≤ 15; decide, ?_⟩
            generalize hH1 : upd (upd H p (.dK [])) p (.dK (mergeK [] (highs names many))) = H1
            have hp1 : H1 p = some (.dK (mergeK [] (highs names many))) := by rw [← hH1]; exact upd_same
            have x1 : Ext no H H1 := by rw [← hH1]; exact (Ext.new np).own np
            refine ⟨_, rfl, r, _, rfl, .inr (x1.sqT (fun z => z) hT), _, rfl, pa, _, rfl, .inr (tupP H1), _, _, rfl, rfl, rfl, _, rfl, ?_⟩
            by_cases ll : ds.length = (partsOf (rowOfW wd)).length
            · refine iteNS ?_ ?_
              · rw [List.length_cons, lu, ll]
                rfl
              refine ⟨_, rfl, _, rfl, 1, rfl, r, _, rfl, x1.sqT (fun z => z) hT, notAll (k := 1) (by decide) (by rw [List.length_cons]; exact Nat.zero_lt_succ _), fun sl nsl => ?_⟩
              have cut1 : cutV (V.str wd :: us) (some 1) none = us := cutFrom (V.str wd :: us) 1
              generalize hH2 : upd H1 sl (.tup (cutV (V.str wd :: us) (some 1) none)) = H2
              have hs2 : H2 sl = some (.tup us) := by rw [← hH2, upd_same, cut1]
              have x2 : Ext no H1 H2 := by rw [← hH2]; exact Ext.new nsl
              refine ⟨pa, sl, _, _, rfl, .inr ⟨tupP H2, SqT.of hs2, (x1.trans x2).tab T tab, fun H3 t3 => ?_⟩⟩
              have x3 : Ext no H2 H3 := Ext.tbd ((x1.trans x2).tab T tab) t3
              have all_at : ∀ i, ((partsOf (rowOfW wd)).zip ds).take (i + 1) = ((partsOf (rowOfW wd)).zip ds).take i ++ (((partsOf (rowOfW wd)).zip ds)[i]?).toList := fun i => List.take_add_one
              have ulen : us.length = (partsOf (rowOfW wd)).length := by rw [lu, ll]
              refine gx_zipT (xs := partsOf (rowOfW wd)) (ys := us) ulen.symm (fun i acc H4 => Ext no H3 H4 ∧ (((partsOf (rowOfW wd)).zip ds).take i).all (fun p => numG p.2 0 (hiV names many p.1)) = true) ⟨Ext.refl _ _, rfl⟩ (fun i acc H4 x4 => ⟨tupP H4, SqT.of (x4.1.tup _ _ (x3.tup _ _ hs2))⟩) ?_ ?_
              · intro i x y t acc H4 isX isY ⟨x4, yes⟩ nt
                obtain ⟨sx, rfl, hv⟩ := part_hi (names := names) (many := many) isX
                have ⟨di, hn, ty⟩ := rest.at' isY
                have x04 : Ext no H (upd H4 t (.tup [.str sx, y])) := (((x1.trans x2).trans x3).trans x4).trans (Ext.new nt)
                have x5 : Ext no H1 (upd H4 t (.tup [.str sx, y])) := ((x2.trans x3).trans x4).trans (Ext.new nt)
                have hp5 := x5.oth p _ (fun z => z) (fun _ z => by cases z) hp1
                refine ⟨t, _, rfl, SqT.of upd_same, rfl, _, _, rfl, _, _, rfl, rfl, ?_⟩
                refine ⟨rfl, ?_⟩
                refine ⟨_, rfl, _, rfl, _, rfl, p, _, rfl, .inl ⟨_, Sum.inr sx, .inl hp5, rfl, hv.symm⟩, M, [di, .int 0, .int (hiV names many (.str sx))], .bool (numG di 0 (hiV names many (.str sx))), .cons (ty.ext x04 (fun _ z => z.elim)) (.cons (.int _) (.cons (.int _) .nil)), fun a z e => al a z (x04.dom a e), (fun _ z => nomatch z), ⟨di, 0, _, rfl, rfl⟩, fun u H5 tu x6 => ?_⟩
                rw [Td.blE tu]
                have ez : ((partsOf (rowOfW wd)).zip ds)[i]? = some (.str sx, di) := by
                  rw [List.getElem?_zip_eq_some]
                  exact ⟨isX, hn⟩
                refine ⟨⟨_, rfl, fun no_ => ?_⟩, fun e => ⟨(x4.trans (Ext.new nt)).trans x6, ?_⟩⟩
                · have z : partsG names many wd ds = false := by
                    unfold partsG
                    rw [decide_eq_true ll, Bool.true_and]
                    exact List.all_eq_false.mpr ⟨_, List.mem_of_getElem? ez, by rw [no_]; exact Bool.false_ne_true⟩
                  rw [z] at q
                  exact q _ (x04.trans x6)
                · have e : numG di 0 (hiV names many (.str sx)) = true := V.bl.inj e
                  rw [all_at, ez, List.all_append, yes]
                  show (true && (numG di 0 (hiV names many (.str sx)) && true)) = true
                  rw [e]
                  rfl
              · intro acc H4 ⟨x4, yes⟩
                have z : partsG names many wd ds = true := by
                  have e : ((partsOf (rowOfW wd)).zip ds).take (partsOf (rowOfW wd)).length = (partsOf (rowOfW wd)).zip ds := List.take_of_length_le (by rw [List.length_zip]; omega)
                  rw [e] at yes
                  unfold partsG
                  rw [decide_eq_true ll, Bool.true_and]
                  exact yes
                rw [z] at q
                exact q _ (((x1.trans x2).trans x3).trans x4)
            · have e : partsG names many wd ds = false := by
                unfold partsG
                rw [decide_eq_false ll]
                rfl
              rw [e] at q
              have ne : ¬ (V.int (((V.str wd :: us).length : Nat) : Int) = V.int ((((partsOf (rowOfW wd)).length : Nat) : Int) + 1)) := fun z => ll (by
                have z := V.int.inj z
                rw [List.length_cons, lu] at z
                omega)
              rw [decide_eq_false ne]
              exact iteT (q H1 x1)
end
end Bw
namespace Bw
open PySem PySem.Spec PyProof.Rows L2 GxR Gx RZ Nx TL
/-! ### check_program, of any data -/
def RRowG (ds : List PyData) (d : PyData) : Prop := ∃ (v : PyData) (names many : Nat), ds = [v, nI names, nI many] ∧ d = .bool (rowG names many v)
def rowBadG (names many : Nat) (ds : List PyData) (i : Nat) : Bool := decide (i = 24) || !rowG names many (ds.getD i .none)
/-- the row that can't be -/
def progBad (v : PyData) : Option Int := if headG v = true then (match v with
    | .tuple [_, b, .tuple ds] => ((List.range ds.length).find? (rowBadG (intG b).toNat (min ds.length 24) ds)).map fun i => (i : Int)
    | _ => none) else some (-1)
def outG (CP : Addr) : Option Int → PyData → Out
  | none, d => .val d
  | some r, _ => .bad CP r
def RChkG (CP : Addr) (ds : List PyData) (o : Out) : Prop := ∃ v, ds = [v] ∧ o = outG CP (progBad v) .none
theorem headG_ex {v : PyData} (h : headG v = true) : ∃ (a b : Nat) (ds : List PyData), v = .tuple [nI a, nI b, .tuple ds] ∧ 1 ≤ b ∧ b ≤ 8 ∧ a ≤ b ∧ ds ≠ [] := by
  match v, h with
  | .tuple [a, b, r], h =>
    have h : ((numG b 1 8 && numG a 0 (intG b)) && (isTu r && decide ((0 : Int) < (lenG r : Int)))) = true := h
    rw [Bool.and_eq_true, Bool.and_eq_true, Bool.and_eq_true, decide_eq_true_eq] at h
    have ⟨⟨h1, h2⟩, h3, h4⟩ := h
    have ⟨vb, eb, b1, b2⟩ := numG_int h1
    subst eb
    have h2 : numG a 0 vb = true := h2
    have ⟨va, ea, a1, a2⟩ := numG_int h2
    subst ea
    match r, h3, h4 with
    | .tuple ds, _, h4 =>
      refine ⟨va.toNat, vb.toNat, ds, ?_, by omega, by omega, by omega, fun e => ?_⟩
      · show _ = PyData.tuple [.int ((va.toNat : Nat) : Int), .int ((vb.toNat : Nat) : Int), .tuple ds]
        rw [Int.toNat_of_nonneg a1, Int.toNat_of_nonneg (by omega)]
      · rw [e] at h4
        exact absurd h4 (by decide)
section
variable {base : Heap} {K : PySem.W.Frag} {mg : Str → Option Value} {P : Program} {w : World}
theorem dt_rowG {f : Addr} {fd : FuncData} {k : Nat} {ps : List Str} {T : Addr} (G : FnOk P w K mg base CX0 k f fd ps (spRowG T)) : FnOk P w K mg base CX0 k f fd ps (spFun [T] RRowG) := G.imp fun vs H Q E ⟨M, ds, d, all, al, tabs, ⟨v, names, many, e1, e2⟩, out⟩ => by
  subst e1 e2
  have ⟨v1, v2, v3, ev, t1, t2, t3⟩ := all.three
  subst ev
  refine ⟨M, v1, v, names, many, by rw [t2.intE, t3.intE], t1, al, tabs T (by simp), fun H' x => out _ H' (.bl _) x⟩
set_option maxHeartbeats 2100000 in
theorem ok_chkG {f fH fR fI CP : Addr} {TR : List Addr} {fd fdH fdR fdI : FuncData} (D : Df K mg "check_program" s_check_program ["program"] f fd) (DH : Df K mg "head_can_be" s_head_can_be ["program"] fH fdH) (GH : FnOk P w K mg base CX0 2 fH fdH ["program"] (spFun [] RHeadG)) (DR : Df K mg "row_can_be" s_row_can_be ["row", "names", "many"] fR fdR) (GR : FnOk P w K mg base CX0 4 fR fdR ["row", "names", "many"] (spFun TR RRowG))
    (C0 : Bad K mg "BadProgram" CP fI) (F1 : FnOk P w K mg base CX0 1 fI fdI ["self", "row"] (spBad CP)) (bI : Binds K fdI ["self", "row"] []) (B : Bt mg) (G : Gk mg) : FnOk P w K mg base (L2.CX P w) 5 f fd ["program"] (spFunX TR (RChkG CP)) := by
  refine fn_dataX (N := nCheck) (k := 4) D scCheck (fun ds o ⟨_, e, _⟩ => by rw [e]; rfl) (fun cdv A outer s H E M ds o hr r bad tk pown => ?_)
  have ⟨v, e0, eo⟩ := r
  subst e0
  have hN := scCheck.nd
  have cm : ∀ a, (cw0 TR).mx a → no a := fun _ z => z
  have En : ∀ T ∈ ([] : List Addr), T ∈ (cw0 TR).Ts := fun _ z => by cases z
  have TT : ∀ T ∈ TR, T ∈ (cw0 TR).Ts := fun _ z => z
  have hr2 := hr.mono (show 2 ≤ 4 by decide)
  have hu := hr.units
  have out : ∀ i : Int, progBad v = some i → ∀ (σ : L2.St) (H1 : Hp) (dx : Addr), Ext no H H1 → H1 dx = none → E (.ref CP) (some dx) (upd H1 dx (.xd [("row", .int i)])) := fun i e σ H1 dx x nd => bad CP i (by rw [eo, e]; rfl) dx _ (x.trans (Ext.new nd)) upd_same
  refine hb_cons (B := fun σ H' => headG v = true ∧ As (cw0 TR) H no M (ent nCheck [v]) σ H') (hs_if (b := !headG v) cm (pq_not (pq_val (pd_call (ds := [v]) DH GH hr2 (ar_d (pd_var 0 (pv 0) rfl) ar_nil) ⟨v, rfl, rfl⟩ En))) (fun e => ?_) (fun e => hb_nil fun σ H' h => ⟨by rw [Bool.not_eq_false'] at e; exact e, h⟩)) (hb_when fun yes => ?_)
  · rw [Bool.not_eq_true'] at e
    exact hb_one (hs_raise rfl C0 F1 bI hr2 tk cm (pd_neg (i := 1) pd_int) (.inl rfl) (out (-1) (by unfold progBad; rw [if_neg (by rw [e]; exact Bool.false_ne_true)])))
  have ⟨a, b, rs, ev, b1, b8, ab, nn⟩ := headG_ex yes
  have ec : progBad v = ((List.range rs.length).find? (rowBadG b (min rs.length 24) rs)).map fun i => (i : Int) := by
    unfold progBad
    rw [if_pos yes, ev]
    rfl
  subst ev
  refine hb_cons (hs_set 1 (d := nI b) cm hN (pd_ixT (n := 1) (pd_var 0 (pv 0) rfl) pd_int rfl)) ?_
  refine hb_cons (hs_set 2 (d := .tuple rs) cm hN (pd_ixT (n := 2) (pd_var 0 (pv 0) rfl) pd_int rfl)) ?_
  refine hb_cons (hs_set 3 (d := nI (min rs.length 24)) cm hN (pd_minN rfl B.min (pd_lenT B.len (pd_var 2 (pv 2) rfl)) (pd_of (pe_num G.rows) fun _ => .int 24) hu)) ?_
  refine hb_one (hs_forD (α := Unit) (mw := no) (own := [4, 5]) (ds := enumD rs) (fun i _ => ∀ j, j < i → rowBadG b (min rs.length 24) rs j = false) (fun _ => [.d (.tuple [nI a, nI b, .tuple rs]), .d (nI b), .d (.tuple rs), .d (nI (min rs.length 24)), .any, .any]) (fun i _ => [.d (.tuple [nI a, nI b, .tuple rs]), .d (nI b), .d (.tuple rs), .d (nI (min rs.length 24)), .d (nI i), .d (rs.getD i .none)]) () pown rfl cm (fun _ z => z) (fun _ z => .inl z) (it_enumT (fun _ z => z.elim) B.enumerate (pd_var 2 (pv 2) rfl)) (pg_tup rfl (pgs_cons (pg_name (i := 4) hN rfl (Or.inl rfl)) (pgs_cons (pg_name (i := 5) hN rfl (Or.inl rfl)) pgs_nil))) (fun j h => absurd h (Nat.not_lt_zero j)) rfl ?_ ?_ ?_)
  · intro i d _ hd _
    have ⟨e, he, ed⟩ := enumD_get hd
    rw [ed, List.getD_eq_getElem?_getD, he]
    exact tg_two 4 5
  · intro H1 x1 _ i d _ hd before
    have ⟨e, he, ed⟩ := enumD_get hd
    have eg : rs.getD i .none = e := by rw [List.getD_eq_getElem?_getD, he]; rfl
    have lt : i < rs.length := (List.getElem?_eq_some_iff.mp he).1
    rw [eg]
    have eb : rowBadG b (min rs.length 24) rs i = (decide (((i : Nat) : Int) = 24) || !rowG b (min rs.length 24) e) := by
      unfold rowBadG
      rw [eg]
      congr 1
      refine decide_eq_decide.mpr ?_
      omega
    refine hb_one (hs_if (b := rowBadG b (min rs.length 24) rs i) cm (by
      rw [eb]
      exact pq_or (pq_eqI (pd_var 4 (pv 4) rfl) (pd_of (pe_num G.rows) fun _ => .int 24)) fun _ => pq_not (pq_val (pd_call (ds := [e, nI b, nI (min rs.length 24)]) DR GR hr (ar_d (pd_var 5 (pv 5) rfl) (ar_d (pd_var 1 (pv 1) rfl) (ar_d (pd_var 3 (pv 3) rfl) ar_nil))) ⟨e, b, _, rfl, rfl⟩ TT))) (fun e => ?_) (fun e => hb_nil fun σ H' h => ⟨(), fun j hj => ?_, (h.any 4).any 5⟩))
    · have ef : (List.range rs.length).find? (rowBadG b (min rs.length 24) rs) = some i := List.find?_range_eq_some.mpr ⟨e, List.mem_range.mpr lt, fun j hj => by rw [before j hj]; rfl⟩
      have small : i ≤ 24 := by
        refine Nat.le_of_not_lt fun z => ?_
        have y := before 24 z
        have y2 : rowBadG b (min rs.length 24) rs 24 = true := by
          unfold rowBadG
          rw [decide_eq_true rfl]
          rfl
        rw [y2] at y
        cases y
      exact hb_one (hs_raise rfl C0 F1 bI hr2 tk cm (pd_var 4 (pv 4) rfl) (.inr ⟨i, rfl, by omega⟩) fun σ H2 dx x nd => out i (by rw [ec, ef]; rfl) σ H2 dx (x1.trans x) nd)
    · rcases Nat.lt_succ_iff_lt_or_eq.mp hj with h' | h'
      · exact before j h'
      · rw [h']; exact e
  · intro _ σ H' before h
    have len : (enumD rs).length = rs.length := by
      show ((rs.zipIdx).map _).length = _
      rw [List.length_map, List.length_zipIdx]
    rw [len] at before
    have ef : (List.range rs.length).find? (rowBadG b (min rs.length 24) rs) = none := List.find?_range_eq_none.mpr fun j hj => by rw [before j hj]; rfl
    refine ⟨?_, h.2⟩
    rw [eo, ec, ef]
    rfl
end
end Bw
namespace Bw
open PySem PySem.Spec PyProof.Rows L2 GxR Gx RZ Nx TL
/-! ### all that are handed a program refuse what is none -/
def RRef (CP : Addr) (n : Nat) (ds : List PyData) (o : Out) : Prop := ∃ v rest r, ds = v :: rest ∧ rest.length = n ∧ progBad v = some r ∧ o = .bad CP r
theorem len_ref {CP : Addr} {n : Nat} {ds : List PyData} {o : Out} (h : RRef CP n ds o) : ds.length = n + 1 := by
  have ⟨v, rest, r, e, l, _⟩ := h
  rw [e, List.length_cons, l]
theorem outs_of {H : Hp} {o : Out} {E : XK} {C0 : Addr} {r0 : Int} (bad : ∀ C r, o = .bad C r → ∀ dx H', Ext no H H' → H' dx = some (.xd [("row", .int r)]) → E (.ref C) (some dx) H') (e : o = .bad C0 r0) : Outs (fun cls d _ H' => E cls d H') no H C0 r0 := fun σ dx H' x hd => bad _ _ e dx H' x hd
/-- a statement that nothing comes behind -/
theorem hb_no {X : Cx} {st : Stmt} {ss : List Stmt} {A : L2.St → Hp → Prop} {D : Ends} (h : HS X st A { D with nx := fun _ _ => False }) : HB X (st :: ss) A D := hb_cons (B := fun _ _ => False) h ((hb_when (p := False) (A := fun _ _ => True) fun z => z.elim).mono fun D' σ H y => ⟨⟨y.1, trivial⟩, y.2⟩)
section
variable {base : Heap} {K : PySem.W.Frag} {mg : Str → Option Value} {P : Program} {w : World} {CP : Addr}
theorem odS_run_boxes : FnScope ["program", "frame", "choice", "given", "fuel", "junk", "places", "groups", "machine", "cell", "number"] ["program", "frame", "choice", "given", "fuel", "junk"] (defScope s_run_boxes) := ⟨rfl, rfl, rfl, by decide +kernel, rfl, by decide +kernel, by decide +kernel⟩
theorem od_run_boxes {f g : Addr} {fd fdg : FuncData} {TA : List Addr} (D : Df K mg "run_boxes" s_run_boxes ["program", "frame", "choice", "given", "fuel", "junk"] f fd) (DA : Df K mg "check_all" s_check_all ["program", "frame", "choice"] g fdg) (GA : FnOk P w K mg base (L2.CX P w) 6 g fdg ["program", "frame", "choice"] (spFunX TA (RRef CP 2))) : FnOk P w K mg base (L2.CX P w) 7 f fd ["program", "frame", "choice", "given", "fuel", "junk"] (spFunX TA (RRef CP 5)) := by
  refine fn_dataX (N := ["program", "frame", "choice", "given", "fuel", "junk", "places", "groups", "machine", "cell", "number"]) (k := 6) D odS_run_boxes (fun ds o h => len_ref h) (fun cdv A outer s H E M ds o hr h bad tk pown => ?_)
  have ⟨v, rest, r, e, len, pb, eo⟩ := h
  clear h
  subst e
  match rest, len with
  | [d2, d3, d4, d5, d6], _ =>
  exact hb_no (hs_exprB (fun _ z => z) (outs_of bad eo) (pb_call (ds := [v, d2, d3]) tk DA GA hr (ar_d (pd_var 0 (pv 0) rfl) (ar_d (pd_var 1 (pv 1) rfl) (ar_d (pd_var 2 (pv 2) rfl) ar_nil))) ⟨v, [d2, d3], r, rfl, rfl, pb, rfl⟩ fun _ z => z))
theorem odS_walk : FnScope ["program", "frame", "choice", "ways", "rows", "places", "groups", "marks", "told", "at", "done", "ifs", "row", "same", "jumps"] ["program", "frame", "choice", "ways"] (defScope s_walk) := ⟨rfl, rfl, rfl, by decide +kernel, rfl, by decide +kernel, by decide +kernel⟩
theorem od_walk {f g : Addr} {fd fdg : FuncData} {TA : List Addr} (D : Df K mg "walk" s_walk ["program", "frame", "choice", "ways"] f fd) (DA : Df K mg "check_all" s_check_all ["program", "frame", "choice"] g fdg) (GA : FnOk P w K mg base (L2.CX P w) 6 g fdg ["program", "frame", "choice"] (spFunX TA (RRef CP 2))) : FnOk P w K mg base (L2.CX P w) 7 f fd ["program", "frame", "choice", "ways"] (spFunX TA (RRef CP 3)) := by
  refine fn_dataX (N := ["program", "frame", "choice", "ways", "rows", "places", "groups", "marks", "told", "at", "done", "ifs", "row", "same", "jumps"]) (k := 6) D odS_walk (fun ds o h => len_ref h) (fun cdv A outer s H E M ds o hr h bad tk pown => ?_)
  have ⟨v, rest, r, e, len, pb, eo⟩ := h
  clear h
  subst e
  match rest, len with
  | [d2, d3, d4], _ =>
  exact hb_no (hs_exprB (fun _ z => z) (outs_of bad eo) (pb_call (ds := [v, d2, d3]) tk DA GA hr (ar_d (pd_var 0 (pv 0) rfl) (ar_d (pd_var 1 (pv 1) rfl) (ar_d (pd_var 2 (pv 2) rfl) ar_nil))) ⟨v, [d2, d3], r, rfl, rfl, pb, rfl⟩ fun _ z => z))
theorem odS_paper : FnScope ["program", "frame", "choice"] ["program", "frame", "choice"] (defScope s_paper) := ⟨rfl, rfl, rfl, by decide +kernel, rfl, by decide +kernel, by decide +kernel⟩
theorem od_paper {f g : Addr} {fd fdg : FuncData} {TA : List Addr} (D : Df K mg "paper" s_paper ["program", "frame", "choice"] f fd) (DA : Df K mg "check_all" s_check_all ["program", "frame", "choice"] g fdg) (GA : FnOk P w K mg base (L2.CX P w) 6 g fdg ["program", "frame", "choice"] (spFunX TA (RRef CP 2))) : FnOk P w K mg base (L2.CX P w) 7 f fd ["program", "frame", "choice"] (spFunX TA (RRef CP 2)) := by
  refine fn_dataX (N := ["program", "frame", "choice"]) (k := 6) D odS_paper (fun ds o h => len_ref h) (fun cdv A outer s H E M ds o hr h bad tk pown => ?_)
  have ⟨v, rest, r, e, len, pb, eo⟩ := h
  clear h
  subst e
  match rest, len with
  | [d2, d3], _ =>
  exact hb_no (hs_exprB (fun _ z => z) (outs_of bad eo) (pb_call (ds := [v, d2, d3]) tk DA GA hr (ar_d (pd_var 0 (pv 0) rfl) (ar_d (pd_var 1 (pv 1) rfl) (ar_d (pd_var 2 (pv 2) rfl) ar_nil))) ⟨v, [d2, d3], r, rfl, rfl, pb, rfl⟩ fun _ z => z))
theorem odS_shows : FnScope ["program", "frame", "choice", "told"] ["program", "frame", "choice", "told"] (defScope s_shows) := ⟨rfl, rfl, rfl, by decide +kernel, rfl, by decide +kernel, by decide +kernel⟩
theorem od_shows {f g : Addr} {fd fdg : FuncData} {TA : List Addr} (D : Df K mg "shows" s_shows ["program", "frame", "choice", "told"] f fd) (DA : Df K mg "check_all" s_check_all ["program", "frame", "choice"] g fdg) (GA : FnOk P w K mg base (L2.CX P w) 6 g fdg ["program", "frame", "choice"] (spFunX TA (RRef CP 2))) : FnOk P w K mg base (L2.CX P w) 7 f fd ["program", "frame", "choice", "told"] (spFunX TA (RRef CP 3)) := by
  refine fn_dataX (N := ["program", "frame", "choice", "told"]) (k := 6) D odS_shows (fun ds o h => len_ref h) (fun cdv A outer s H E M ds o hr h bad tk pown => ?_)
  have ⟨v, rest, r, e, len, pb, eo⟩ := h
  clear h
  subst e
  match rest, len with
  | [d2, d3, d4], _ =>
  exact hb_no (hs_exprB (fun _ z => z) (outs_of bad eo) (pb_call (ds := [v, d2, d3]) tk DA GA hr (ar_d (pd_var 0 (pv 0) rfl) (ar_d (pd_var 1 (pv 1) rfl) (ar_d (pd_var 2 (pv 2) rfl) ar_nil))) ⟨v, [d2, d3], r, rfl, rfl, pb, rfl⟩ fun _ z => z))
theorem odS_checked : FnScope ["program", "frame", "choice"] ["program", "frame", "choice"] (defScope s_checked) := ⟨rfl, rfl, rfl, by decide +kernel, rfl, by decide +kernel, by decide +kernel⟩
theorem od_checked {f g : Addr} {fd fdg : FuncData} {TA : List Addr} (D : Df K mg "checked" s_checked ["program", "frame", "choice"] f fd) (DA : Df K mg "check_all" s_check_all ["program", "frame", "choice"] g fdg) (GA : FnOk P w K mg base (L2.CX P w) 6 g fdg ["program", "frame", "choice"] (spFunX TA (RRef CP 2))) : FnOk P w K mg base (L2.CX P w) 7 f fd ["program", "frame", "choice"] (spFunX TA (RRef CP 2)) := by
  refine fn_dataX (N := ["program", "frame", "choice"]) (k := 6) D odS_checked (fun ds o h => len_ref h) (fun cdv A outer s H E M ds o hr h bad tk pown => ?_)
  have ⟨v, rest, r, e, len, pb, eo⟩ := h
  clear h
  subst e
  match rest, len with
  | [d2, d3], _ =>
  exact hb_no (hs_exprB (fun _ z => z) (outs_of bad eo) (pb_call (ds := [v, d2, d3]) tk DA GA hr (ar_d (pd_var 0 (pv 0) rfl) (ar_d (pd_var 1 (pv 1) rfl) (ar_d (pd_var 2 (pv 2) rfl) ar_nil))) ⟨v, [d2, d3], r, rfl, rfl, pb, rfl⟩ fun _ z => z))
theorem odS_least : FnScope ["program", "frame", "choice", "most", "mends", "many", "told"] ["program", "frame", "choice", "most"] (defScope s_least) := ⟨rfl, rfl, rfl, by decide +kernel, rfl, by decide +kernel, by decide +kernel⟩
theorem od_least {f g : Addr} {fd fdg : FuncData} {TA : List Addr} (D : Df K mg "least" s_least ["program", "frame", "choice", "most"] f fd) (DA : Df K mg "check_all" s_check_all ["program", "frame", "choice"] g fdg) (GA : FnOk P w K mg base (L2.CX P w) 6 g fdg ["program", "frame", "choice"] (spFunX TA (RRef CP 2))) : FnOk P w K mg base (L2.CX P w) 7 f fd ["program", "frame", "choice", "most"] (spFunX TA (RRef CP 3)) := by
  refine fn_dataX (N := ["program", "frame", "choice", "most", "mends", "many", "told"]) (k := 6) D odS_least (fun ds o h => len_ref h) (fun cdv A outer s H E M ds o hr h bad tk pown => ?_)
  have ⟨v, rest, r, e, len, pb, eo⟩ := h
  clear h
  subst e
  match rest, len with
  | [d2, d3, d4], _ =>
  exact hb_no (hs_exprB (fun _ z => z) (outs_of bad eo) (pb_call (ds := [v, d2, d3]) tk DA GA hr (ar_d (pd_var 0 (pv 0) rfl) (ar_d (pd_var 1 (pv 1) rfl) (ar_d (pd_var 2 (pv 2) rfl) ar_nil))) ⟨v, [d2, d3], r, rfl, rfl, pb, rfl⟩ fun _ z => z))
theorem odS_renumbered : FnScope ["program", "frame", "choice", "order", "boxes", "slots", "eaten", "places", "groups", "new_frame", "new_places", "box", "part", "number", "group"] ["program", "frame", "choice", "order"] (defScope s_renumbered) := ⟨rfl, rfl, rfl, by decide +kernel, rfl, by decide +kernel, by decide +kernel⟩
theorem od_renumbered {f g : Addr} {fd fdg : FuncData} {TA : List Addr} (D : Df K mg "renumbered" s_renumbered ["program", "frame", "choice", "order"] f fd) (DA : Df K mg "check_all" s_check_all ["program", "frame", "choice"] g fdg) (GA : FnOk P w K mg base (L2.CX P w) 6 g fdg ["program", "frame", "choice"] (spFunX TA (RRef CP 2))) : FnOk P w K mg base (L2.CX P w) 7 f fd ["program", "frame", "choice", "order"] (spFunX TA (RRef CP 3)) := by
  refine fn_dataX (N := ["program", "frame", "choice", "order", "boxes", "slots", "eaten", "places", "groups", "new_frame", "new_places", "box", "part", "number", "group"]) (k := 6) D odS_renumbered (fun ds o h => len_ref h) (fun cdv A outer s H E M ds o hr h bad tk pown => ?_)
  have ⟨v, rest, r, e, len, pb, eo⟩ := h
  clear h
  subst e
  match rest, len with
  | [d2, d3, d4], _ =>
  exact hb_no (hs_exprB (fun _ z => z) (outs_of bad eo) (pb_call (ds := [v, d2, d3]) tk DA GA hr (ar_d (pd_var 0 (pv 0) rfl) (ar_d (pd_var 1 (pv 1) rfl) (ar_d (pd_var 2 (pv 2) rfl) ar_nil))) ⟨v, [d2, d3], r, rfl, rfl, pb, rfl⟩ fun _ z => z))
theorem odS_written_choice : FnScope ["program", "frame", "choice", "places", "groups", "head", "place", "word", "group"] ["program", "frame", "choice"] (defScope s_written_choice) := ⟨rfl, rfl, rfl, by decide +kernel, rfl, by decide +kernel, by decide +kernel⟩
theorem od_written_choice {f g : Addr} {fd fdg : FuncData} {TA : List Addr} (D : Df K mg "written_choice" s_written_choice ["program", "frame", "choice"] f fd) (DA : Df K mg "check_all" s_check_all ["program", "frame", "choice"] g fdg) (GA : FnOk P w K mg base (L2.CX P w) 6 g fdg ["program", "frame", "choice"] (spFunX TA (RRef CP 2))) : FnOk P w K mg base (L2.CX P w) 7 f fd ["program", "frame", "choice"] (spFunX TA (RRef CP 2)) := by
  refine fn_dataX (N := ["program", "frame", "choice", "places", "groups", "head", "place", "word", "group"]) (k := 6) D odS_written_choice (fun ds o h => len_ref h) (fun cdv A outer s H E M ds o hr h bad tk pown => ?_)
  have ⟨v, rest, r, e, len, pb, eo⟩ := h
  clear h
  subst e
  match rest, len with
  | [d2, d3], _ =>
  exact hb_no (hs_exprB (fun _ z => z) (outs_of bad eo) (pb_call (ds := [v, d2, d3]) tk DA GA hr (ar_d (pd_var 0 (pv 0) rfl) (ar_d (pd_var 1 (pv 1) rfl) (ar_d (pd_var 2 (pv 2) rfl) ar_nil))) ⟨v, [d2, d3], r, rfl, rfl, pb, rfl⟩ fun _ z => z))
theorem odS_run : FnScope ["program", "given", "fuel", "params", "names", "rows", "machine", "groups", "row"] ["program", "given", "fuel"] (defScope s_run) := ⟨rfl, rfl, rfl, by decide +kernel, rfl, by decide +kernel, by decide +kernel⟩
theorem od_run {f g : Addr} {fd fdg : FuncData} {TA : List Addr} (D : Df K mg "run" s_run ["program", "given", "fuel"] f fd) (DA : Df K mg "check_program" s_check_program ["program"] g fdg) (GA : FnOk P w K mg base (L2.CX P w) 5 g fdg ["program"] (spFunX TA (RChkG CP))) : FnOk P w K mg base (L2.CX P w) 6 f fd ["program", "given", "fuel"] (spFunX TA (RRef CP 2)) := by
  refine fn_dataX (N := ["program", "given", "fuel", "params", "names", "rows", "machine", "groups", "row"]) (k := 5) D odS_run (fun ds o h => len_ref h) (fun cdv A outer s H E M ds o hr h bad tk pown => ?_)
  have ⟨v, rest, r, e, len, pb, eo⟩ := h
  clear h
  subst e
  match rest, len with
  | [d2, d3], _ =>
  exact hb_no (hs_exprB (fun _ z => z) (outs_of bad eo) (pb_call (ds := [v]) tk DA GA hr (ar_d (pd_var 0 (pv 0) rfl) ar_nil) ⟨v, rfl, by rw [pb]; rfl⟩ fun _ z => z))
theorem odS_made : FnScope ["program", "frame", "places", "name", "row"] ["program", "frame"] (defScope s_made) := ⟨rfl, rfl, rfl, by decide +kernel, rfl, by decide +kernel, by decide +kernel⟩
theorem od_made {f g : Addr} {fd fdg : FuncData} {TA : List Addr} (D : Df K mg "made" s_made ["program", "frame"] f fd) (DA : Df K mg "check_program" s_check_program ["program"] g fdg) (GA : FnOk P w K mg base (L2.CX P w) 5 g fdg ["program"] (spFunX TA (RChkG CP))) : FnOk P w K mg base (L2.CX P w) 6 f fd ["program", "frame"] (spFunX TA (RRef CP 1)) := by
  refine fn_dataX (N := ["program", "frame", "places", "name", "row"]) (k := 5) D odS_made (fun ds o h => len_ref h) (fun cdv A outer s H E M ds o hr h bad tk pown => ?_)
  have ⟨v, rest, r, e, len, pb, eo⟩ := h
  clear h
  subst e
  match rest, len with
  | [d2], _ =>
  exact hb_no (hs_exprB (fun _ z => z) (outs_of bad eo) (pb_call (ds := [v]) tk DA GA hr (ar_d (pd_var 0 (pv 0) rfl) ar_nil) ⟨v, rfl, by rw [pb]; rfl⟩ fun _ z => z))
theorem odS_written : FnScope ["program", "params", "names", "rows", "row"] ["program"] (defScope s_written) := ⟨rfl, rfl, rfl, by decide +kernel, rfl, by decide +kernel, by decide +kernel⟩
theorem od_written {f g : Addr} {fd fdg : FuncData} {TA : List Addr} (D : Df K mg "written" s_written ["program"] f fd) (DA : Df K mg "check_program" s_check_program ["program"] g fdg) (GA : FnOk P w K mg base (L2.CX P w) 5 g fdg ["program"] (spFunX TA (RChkG CP))) : FnOk P w K mg base (L2.CX P w) 6 f fd ["program"] (spFunX TA (RRef CP 0)) := by
  refine fn_dataX (N := ["program", "params", "names", "rows", "row"]) (k := 5) D odS_written (fun ds o h => len_ref h) (fun cdv A outer s H E M ds o hr h bad tk pown => ?_)
  have ⟨v, rest, r, e, len, pb, eo⟩ := h
  clear h
  subst e
  match rest, len with
  | [], _ =>
  exact hb_no (hs_exprB (fun _ z => z) (outs_of bad eo) (pb_call (ds := [v]) tk DA GA hr (ar_d (pd_var 0 (pv 0) rfl) ar_nil) ⟨v, rfl, by rw [pb]; rfl⟩ fun _ z => z))
theorem odS_read_choice : FnScope ["program", "frame", "text", "lines", "told", "choice", "line"] ["program", "frame", "text"] (defScope s_read_choice) := ⟨rfl, rfl, rfl, by decide +kernel, rfl, by decide +kernel, by decide +kernel⟩
theorem od_read_choice {f g : Addr} {fd fdg : FuncData} {TA : List Addr} (D : Df K mg "read_choice" s_read_choice ["program", "frame", "text"] f fd) (DA : Df K mg "check_program" s_check_program ["program"] g fdg) (GA : FnOk P w K mg base (L2.CX P w) 5 g fdg ["program"] (spFunX TA (RChkG CP))) : FnOk P w K mg base (L2.CX P w) 6 f fd ["program", "frame", "text"] (spFunX TA (RRef CP 2)) := by
  refine fn_dataX (N := ["program", "frame", "text", "lines", "told", "choice", "line"]) (k := 5) D odS_read_choice (fun ds o h => len_ref h) (fun cdv A outer s H E M ds o hr h bad tk pown => ?_)
  have ⟨v, rest, r, e, len, pb, eo⟩ := h
  clear h
  subst e
  match rest, len with
  | [d2, d3], _ =>
  exact hb_no (hs_exprB (fun _ z => z) (outs_of bad eo) (pb_call (ds := [v]) tk DA GA hr (ar_d (pd_var 0 (pv 0) rfl) ar_nil) ⟨v, rfl, by rw [pb]; rfl⟩ fun _ z => z))
end
end Bw
namespace Bw
open PySem PySem.Spec PyProof.Rows L2 GxR Gx RZ Nx TL
/-! ### a dict of one's own: texts as keys, any things as values -/
abbrev prsS (ks : List Str) (vs : List V) : List (L2.Key × V) := (ks.zip vs).map fun q => (Sum.inr q.1, q.2)
def mkSt (ks : List Str) : Mk := ⟨fun vs => .dK (prsS ks vs), fun _ _ z => by cases z⟩
theorem prsS_fst {ks : List Str} {vs : List V} (h : vs.length = ks.length) : (prsS ks vs).map Prod.fst = ks.map Sum.inr := by
  rw [List.map_map]
  show (ks.zip vs).map ((Sum.inr : Str → L2.Key) ∘ Prod.fst) = _
  rw [← List.map_map, List.map_fst_zip (by omega)]
theorem merge_app : ∀ (more kvs : List (L2.Key × V)), ((kvs ++ more).map Prod.fst).Nodup → mergeK kvs more = kvs ++ more
  | [], kvs, _ => (List.append_nil _).symm
  | p :: more, kvs, h => by
    have e : putK kvs p.1 p.2 = kvs ++ [p] := by
      unfold putK
      rw [if_neg]
      intro z
      have ⟨q, hq, e⟩ := List.any_eq_true.mp z
      rw [List.map_append, List.map_cons] at h
      exact (List.nodup_append.mp h).2.2 q.1 (List.mem_map_of_mem hq) p.1 (List.mem_cons_self ..) (of_decide_eq_true e)
    show mergeK (putK kvs p.1 p.2) more = _
    rw [e]
    have h2 : ((kvs ++ [p] ++ more).map Prod.fst).Nodup := by rw [List.append_assoc]; exact h
    rw [merge_app more (kvs ++ [p]) h2, List.append_assoc]
    rfl
theorem merge_S {k1 k2 : List Str} {v1 v2 : List V} (l1 : v1.length = k1.length) (l2 : v2.length = k2.length) (nd : (k1 ++ k2).Nodup) : mergeK (prsS k1 v1) (prsS k2 v2) = prsS (k1 ++ k2) (v1 ++ v2) := by
  rw [merge_app]
  · show _ = ((k1 ++ k2).zip (v1 ++ v2)).map _
    rw [List.zip_append l1.symm, List.map_append]
  · rw [List.map_append, prsS_fst l1, prsS_fst l2, ← List.map_append]
    exact List.pairwise_map.mpr (nd.imp fun h e => h (Sum.inr.inj e))
theorem merge_S0 {k2 : List Str} {v2 : List V} (l2 : v2.length = k2.length) (nd : k2.Nodup) : mergeK [] (prsS k2 v2) = prsS k2 v2 := merge_S (k1 := []) (v1 := []) rfl l2 nd
theorem val_S {M : Addr → Prop} {H : Hp} (z : Str) : ∀ {kvs : List (Str × PyData)} {vs : List V}, TdAll M H vs (kvs.map Prod.snd) → (∀ d, kvs.lookup z = some d → ∃ v, valV (prsS (kvs.map Prod.fst) vs) (Sum.inr z) = some v ∧ Td M H v d) ∧ (kvs.lookup z = none → valV (prsS (kvs.map Prod.fst) vs) (Sum.inr z) = none)
  | [], _, .nil => ⟨fun _ e => (by cases e), fun _ => rfl⟩
  | (y, d0) :: kvs, v :: vs, .cons h t => by
    have ih := val_S z t
    have e0 : prsS (((y, d0) :: kvs).map Prod.fst) (v :: vs) = (Sum.inr y, v) :: prsS (kvs.map Prod.fst) vs := rfl
    rw [e0, List.lookup_cons]
    by_cases e : y = z
    · rw [beq_iff_eq.mpr e.symm, valV_pos (show ((Sum.inr y, v) : L2.Key × V).1 = Sum.inr z by rw [e])]
      exact ⟨fun d ed => ⟨v, rfl, by rw [← Option.some.inj ed]; exact h⟩, fun ed => nomatch ed⟩
    · rw [beq_eq_false_iff_ne.mpr (Ne.symm e), valV_neg (show ¬ ((Sum.inr y, v) : L2.Key × V).1 = Sum.inr z from fun w => e (Sum.inr.inj w))]
      exact ih
theorem val_isS {M : Addr → Prop} {H : Hp} {z : Str} {kvs : List (Str × PyData)} {vs : List V} (h : TdAll M H vs (kvs.map Prod.snd)) : (valV (prsS (kvs.map Prod.fst) vs) (Sum.inr z)).isSome = (kvs.lookup z).isSome := by
  have ⟨h1, h2⟩ := val_S z h
  cases e : kvs.lookup z with
  | none =>
    rw [h2 e]
    rfl
  | some d =>
    have ⟨v, ev, _⟩ := h1 d e
    rw [ev]
    rfl
mutual
theorem Td.dict {M : Addr → Prop} {H : Hp} {p : Addr} {kvs : List (L2.Key × V)} (e : H p = some (.dK kvs)) : ∀ {v : V} {d : PyData}, Td M H v d → Td (plus M p) H v d
  | _, _, .non => .non
  | _, _, .bl b => .bl b
  | _, _, .int i => .int i
  | _, _, .str s => .str s
  | _, _, .tup h all => .tup h (TdAll.dict e all)
  | _, _, .lst n h all => .lst (fun z => z.elim n fun y => by rw [y, e] at h; cases h) h (TdAll.dict e all)
theorem TdAll.dict {M : Addr → Prop} {H : Hp} {p : Addr} {kvs : List (L2.Key × V)} (e : H p = some (.dK kvs)) : ∀ {vs : List V} {ds : List PyData}, TdAll M H vs ds → TdAll (plus M p) H vs ds
  | _, _, .nil => .nil
  | _, _, .cons h t => .cons (Td.dict e h) (TdAll.dict e t)
end
theorem Reps.dict {c : Cw} {M : Addr → Prop} {H : Hp} {p : Addr} {kvs : List (L2.Key × V)} (e : H p = some (.dK kvs)) : ∀ {σ : List (Option V)} {Γ : List Sl}, Reps c M H σ Γ → Reps c (plus M p) H σ Γ
  | _, _, .nil => .nil
  | _, _, .cons (s := .any) h t => .cons trivial (Reps.dict e t)
  | _, _, .cons (s := .d _) h t => .cons (s := .d _) ⟨h.choose, h.choose_spec.1, h.choose_spec.2.dict e⟩ (Reps.dict e t)
  | _, _, .cons (s := .r _) h t => .cons (s := .r _) h (Reps.dict e t)
  | _, _, .cons (s := .l _ _ _) ⟨h1, h2, h3, vs, h4, h5⟩ t => .cons (s := .l _ _ _) ⟨h1, .inl h2, h3, vs, h4, h5.dict e⟩ (Reps.dict e t)
theorem Rp.dictK {c : Cw} {M : Addr → Prop} {H : Hp} {σ : L2.St} {Γ : List Sl} {p : Addr} {kvs : List (L2.Key × V)} (h : Rp c M H σ Γ) (e : H p = some (.dK kvs)) : Rp c (Bw.plus M p) H σ Γ :=
  ⟨h.sl.dict e, h.tb, h.bx, fun a z => Or.inl (h.sub a z), fun a z => z.elim (h.al a) fun y => by rw [y, e]; exact fun w => nomatch w⟩
section
variable {X : Cx} {c : Cw} {H0 : Hp} {m M : Addr → Prop} {Γ : List Sl} {D : Ends}
/-- what the pairs of such a display are read as -/
abbrev trS (c : Cw) (M : Addr → Prop) (Γ : List Sl) (kvs : List (Str × PyData)) : List (TE × TE) := kvs.map fun q => (tC (.str q.1), tV c M Γ (isD M q.2))
theorem pairs_S {σ : L2.St} : ∀ {kvs : List (Str × PyData)} {H : Hp} {Q : List (V × V) → Hp → Prop}, Rp c M H σ Γ → (∀ vs H', TdAll M H' vs (kvs.map Prod.snd) → Ext c.mx H H' → c.Bx H' → Q (((kvs.map Prod.fst).zip vs).map fun q => (V.str q.1, q.2)) H') → tPairs (trS c M Γ kvs) σ H Q
  | [], H, Q, r, q => q [] H .nil (Ext.refl _ _) r.bx
  | p :: kvs, H, Q, r, q => ⟨r, fun v H1 hv x1 b1 => pairs_S (kvs := kvs) (r.ext x1 b1) fun vs H2 all x2 b2 => q (v :: vs) H2 (.cons (Td.ext x2 r.sub hv) all) (x1.trans x2) b2⟩
/-- {"..": e, ..} -/
theorem pe_dispS {kvs : List (Str × PyData)} {ks : List (Option Expr)} {vs : List Expr} {p0 : Pos} (h : PPs X p0 ks vs (trS c M Γ kvs)) (nd : (kvs.map Prod.fst).Nodup) (few : kvs.length ≤ 15) (all : ks.all (·.isSome) = true) (same : ks.length = vs.length) (ne : ks ≠ []) (few2 : ks.length ≤ 15) :
    PE X (.Dict ks vs p0) (fun σ H Q => Rp c M H σ Γ ∧ ∀ p us H', H p = none → ¬ M p → H' p = some (.dK (prsS (kvs.map Prod.fst) us)) → TdAll M H' us (kvs.map Prod.snd) → Ext c.mx H H' → c.Bx H' → Q (.ref p) H') :=
  (pe_disp h all same ne few2).mono fun σ H Q ⟨r, q⟩ => fun p np => by
    have x0 : Ext no H (upd H p (.dK [])) := Ext.new np
    have b0 := c.st no _ _ (fun _ z => z.elim) x0 r.bx
    have nm : ¬ M p := fun z => r.al p z np
    have nc : ¬ c.mx p := fun z => nm (r.sub p z)
    refine pairs_S (kvs := kvs) (r.ext x0.of0 b0) fun us H2 allu x2 b2 => ?_
    have len : us.length = (kvs.map Prod.fst).length := by rw [allu.len, List.length_map, List.length_map]
    have hp : H2 p = some (.dK []) := x2.oth p _ nc (fun _ z => by cases z) upd_same
    refine ⟨hp, prsS (kvs.map Prod.fst) us, by rw [List.map_map]; rfl, ?_, ?_⟩
    · rw [List.length_map, List.length_zip, List.length_map]
      exact Nat.le_trans (Nat.min_le_left _ _) few
    · rw [merge_S0 len nd]
      have x3 : Ext (fun b => b = p) H2 (upd H2 p (.dK (prsS (kvs.map Prod.fst) us))) := Ext.put hp rfl (fun _ z => by cases z) (fun _ z => by cases z)
      have xf : Ext c.mx H (upd H2 p (.dK (prsS (kvs.map Prod.fst) us))) := (x0.of0.trans x2).transF x3 fun b z => .inr (by rw [z]; exact np)
      refine q p us _ np nm upd_same ?_ xf (c.st _ _ _ (fun b z => by rw [z]; exact nc) x3 b2)
      exact (allu.dict hp).ext (x3) (fun b z => .inr z) |>.mono fun _ z => .inl z
/-- x = {"..": e, ..} -/
theorem hs_dictS (i : Nat) {x : Str} {pos pos' p0 : Pos} {kvs : List (Str × PyData)} {ks : List (Option Expr)} {vs : List Expr} (cm : ∀ a, c.mx a → m a) (hN : X.N.Nodup) (h : PPs X p0 ks vs (trS c M Γ kvs)) (nd : (kvs.map Prod.fst).Nodup) (few : kvs.length ≤ 15) (all : ks.all (·.isSome) = true) (same : ks.length = vs.length) (ne : ks ≠ []) (few2 : ks.length ≤ 15) (hi : X.N[i]? = some x := by rfl) (hx : Loc X.env.scope x := by first | exact Or.inl rfl | exact Or.inr rfl) (hs : swapsWith (.Dict ks vs p0) (some (.Name x pos')) pos.line X.env = pure false := by rfl)
    (hf : X.fn x = true ∨ X.env.scope.names.lookup x = some .local := by first | exact Or.inr rfl | exact Or.inl rfl) : HS X (.Assign [.Name x pos'] (.Dict ks vs p0) pos) (As c H0 m M Γ) { D with nx := fun σ H => ∃ a, Fresh H0 M a ∧ As c H0 m (plus M a) (Γ.set i (.l a (kvs.map Prod.snd) (mkSt (kvs.map Prod.fst)))) σ H } :=
  (ps_set (i := i) hN hi hx (pe_dispS h nd few all same ne few2) hs hf).mono fun D' σ H ⟨⟨r, x0⟩, n, _⟩ => ⟨r, fun p us H1 np nm hp allu x1 b1 => n _ _ ⟨p, ⟨x0.dom p np, nm⟩, ((r.ext x1 b1).dictK hp).set (s := .l p (kvs.map Prod.snd) (mkSt (kvs.map Prod.fst))) i ⟨rfl, .inr rfl, fun z => nm (r.sub p z), us, hp, allu.dict hp⟩, x0.trans (x1.mono cm)⟩⟩
/-- x.update({"..": e, ..}) -/
theorem hs_moreS (i : Nat) {x : Str} {p0 p1 p2 p3 pos : Pos} {a : Addr} {k1 kvs : List (Str × PyData)} {ks : List (Option Expr)} {vs : List Expr} (cm : ∀ a, c.mx a → m a) (own : m a ∨ H0 a = none) (hv : PE X (.Name x p0) (tVar i)) (g : Γ[i]? = some (.l a (k1.map Prod.snd) (mkSt (k1.map Prod.fst)))) (h : PPs X p2 ks vs (trS c M Γ kvs)) (nd : ((k1 ++ kvs).map Prod.fst).Nodup) (few1 : k1.length ≤ 100) (few : kvs.length ≤ 15) (all : ks.all (·.isSome) = true) (same : ks.length = vs.length) (ne : ks ≠ []) (few2 : ks.length ≤ 15)
    (hp : PE X (.Name x p0) (tVar i) → ∀ t, PA X [.Dict ks vs p2] t → PS X (.Expr (.Call (.Attribute (.Name x p0) "update" p1) [.Dict ks vs p2] [] p3) pos) (tDrop (tBM X.K "dict" rUpdate (tVar i) t)) := by exact fun a t b => ps_expr (pe_bm PySem.F.plainAttrs_dict PySem.F.slot_dict_update PySem.F.type_dict_update mt_update a b))
    (hs : starEach [.Dict ks vs p2] X.env = (false, eval (.Dict ks vs p2) X.env) :: starEach [] X.env := by rfl) :
    HS X (.Expr (.Call (.Attribute (.Name x p0) "update" p1) [.Dict ks vs p2] [] p3) pos) (As c H0 m M Γ) { D with nx := As c H0 m M (putO (mkSt ((k1 ++ kvs).map Prod.fst)) a ((k1 ++ kvs).map Prod.snd) Γ) } := by
  have nd2 : (kvs.map Prod.fst).Nodup := by
    rw [List.map_append] at nd
    exact (List.nodup_append.mp nd).2.1
  refine (hp hv _ (pa_cons (pe_dispS h nd2 few all same ne few2) pa_nil hs)).mono fun D' σ H ⟨⟨r, x0⟩, nx, _⟩ => ?_
  obtain ⟨o, eo, e1, ma, na, ws, hws, allw⟩ := r.sl.get g
  subst e1
  refine ⟨_, eo, .inr (.inr (.inl ⟨rfl, .inl ⟨_, hws⟩⟩)), r, fun p us H1 np nm hp allu x1 b1 => ?_⟩
  have ha1 : H1 a = some ((mkSt (k1.map Prod.fst)).f ws) := x1.obj na hws
  have allw1 := allw.ext x1 r.sub
  have l1 : ws.length = (k1.map Prod.fst).length := by rw [allw.len, List.length_map, List.length_map]
  have l2 : us.length = (kvs.map Prod.fst).length := by rw [allu.len, List.length_map, List.length_map]
  have nap : a ≠ p := fun z => by rw [z] at ma; exact nm ma
  refine ⟨a, p, _, _, rfl, rfl, ha1, hp, nap, ?_, ?_⟩
  · rw [List.length_map, List.length_map, List.length_zip, List.length_zip, List.length_map, List.length_map]
    exact Nat.le_trans (show _ ≤ 115 by omega) (by decide)
  · rw [List.map_append] at nd
    rw [merge_S l1 l2 nd]
    have z := As.putO (k := mkSt ((k1 ++ kvs).map Prod.fst)) (xs := (k1 ++ kvs).map Prod.snd) (vs := ws ++ us) ⟨r.ext x1 b1, x0.trans (x1.mono cm)⟩ own ma na ha1 (fun _ z => by cases z) (fun _ z => by cases z) (by rw [List.map_append]; exact allw1.app allu)
    have e : (mkSt ((k1 ++ kvs).map Prod.fst)).f (ws ++ us) = .dK (prsS (k1.map Prod.fst ++ kvs.map Prod.fst) (ws ++ us)) := by
      rw [List.map_append]
      rfl
    rw [e] at z
    exact nx _ _ z
/-- z not in d -/
theorem pq_notS (i : Nat) {x z : Str} {p0 pos : Pos} {e : Expr} {a : Addr} {kvs : List (Str × PyData)} (hu : X.A.units + 1 < cLine) (h : PE X (.Name x p0) (tVar i)) (g : Γ[i]? = some (.l a (kvs.map Prod.snd) (mkSt (kvs.map Prod.fst)))) (he : PD X c M Γ e (.str z)) : PQ X c M Γ (.Compare e [.NotIn] [.Name x p0] pos) (!(kvs.lookup z).isSome) :=
  (pt_cmp (pc_dnotin hu he h)).mono fun σ H Q ⟨r, q⟩ => ⟨r, fun y H1 hy x1 b1 => by
    have ⟨o, eo, e1, ma, na, vs, hv, all⟩ := (r.ext x1 b1).sl.get g
    subst e1
    refine ⟨_, eo, a, _, rfl, .inl ⟨_, Sum.inr z, Rd.of hv, hy.strE, rfl⟩, _, rfl, ?_⟩
    rw [val_isS all]
    exact q H1 x1 b1⟩
/-- d[z] -/
theorem pd_getS (i : Nat) {x z : Str} {p0 pos : Pos} {e : Expr} {a : Addr} {kvs : List (Str × PyData)} {d : PyData} (hu : X.A.units + 1 < cLine) (h : PE X (.Name x p0) (tVar i)) (g : Γ[i]? = some (.l a (kvs.map Prod.snd) (mkSt (kvs.map Prod.fst)))) (he : PD X c M Γ e (.str z)) (hn : kvs.lookup z = some d) (plain : NoSl e := by exact fun _ _ => rfl) : PD X c M Γ (.Subscript (.Name x p0) e pos) d :=
  (pe_dget hu h he plain).mono fun σ H Q ⟨r, q⟩ => by
    have ⟨o, eo, e1, ma, na, vs, hv, all⟩ := r.sl.get g
    subst e1
    refine ⟨_, eo, r, fun y H1 hy x1 b1 => ?_⟩
    rw [hy.strE]
    have ⟨v, ev, tv⟩ := (val_S z (all.ext x1 r.sub)).1 d hn
    exact ⟨a, v, rfl, .inl ⟨_, Sum.inr z, Rd.of (x1.obj (k := mkSt _) na hv), rfl, ev.symm⟩, q _ H1 tv x1 b1⟩
end
end Bw
namespace Bw
open PySem PySem.Spec PyProof.Rows L2 GxR Gx RZ Nx TL
/-! ### _law_is; what _law_first tells: theory -/
/-- what _law_first tells -/
def fstD (v : PyData) : PyData := match progBad v with
  | none => .none
  | some r => .int r
def kindsL (n m : Nat) : List (Str × List Int) := [("put", [(n : Int) - 1, 999]), ("copy", [(n : Int) - 1, (n : Int) - 1]), ("call", [(n : Int) - 1, (n : Int) - 1]), ("say", [(n : Int) - 1]), ("add", [(n : Int) - 1, (n : Int) - 1, (n : Int) - 1]), ("take", [(n : Int) - 1, (n : Int) - 1, (n : Int) - 1]), ("less", [(n : Int) - 1, (n : Int) - 1, (n : Int) - 1]), ("if", [(n : Int) - 1, (m : Int) - 1]), ("go", [(m : Int) - 1]), ("end", [])]
theorem hi_name (n m : Nat) : hiV n m (.str "name") = (n : Int) - 1 := by
  show (match valV (mergeK [] (highs n m)) (Sum.inr "name") with | some (.int h) => h | _ => -1) = _
  rw [high_name]
theorem hi_number (n m : Nat) : hiV n m (.str "number") = 999 := by
  show (match valV (mergeK [] (highs n m)) (Sum.inr "number") with | some (.int h) => h | _ => -1) = _
  rw [high_number]
theorem hi_row (n m : Nat) : hiV n m (.str "row") = (m : Int) - 1 := by
  show (match valV (mergeK [] (highs n m)) (Sum.inr "row") with | some (.int h) => h | _ => -1) = _
  rw [high_row]
theorem kinds_keys (n m : Nat) : (kindsL n m).map Prod.fst = (["put", "copy", "call", "say", "add", "take", "less", "if", "go", "end"] : List Str) := rfl
theorem kinds_part (n m : Nat) (z : Str) : (kindsL n m).lookup z = (partN z).map fun _ => (partsOf (rowOfW z)).map (hiV n m) := by
  cases e : partN z with
  | none =>
    have no_ := partN_out e
    refine List.lookup_eq_none_iff.mpr fun p hp => ?_
    have hk : p.1 ∈ (["put", "copy", "call", "say", "add", "take", "less", "if", "go", "end"] : List Str) := by rw [← kinds_keys n m]; exact List.mem_map_of_mem hp
    refine bne_iff_ne.mpr fun y => no_ ?_
    rw [y]
    simp only [List.mem_cons, List.not_mem_nil, or_false] at hk
    unfold partKeys
    simp only [List.mem_cons, List.not_mem_nil, or_false]
    rcases hk with h | h | h | h | h | h | h | h | h | h <;> simp [h]
  | some k =>
    have mm := look_mem e
    simp only [List.mem_cons, List.not_mem_nil, or_false, Prod.mk.injEq] at mm
    have go : ∀ (y : Str) (ps : List V), partsOf (rowOfW y) = ps → (kindsL n m).lookup y = some (ps.map (hiV n m)) → (kindsL n m).lookup y = (some k).map fun _ => (partsOf (rowOfW y)).map (hiV n m) := fun y ps h1 h2 => by rw [h1, h2]; rfl
    rcases mm with ⟨e1, e2⟩ | ⟨e1, e2⟩ | ⟨e1, e2⟩ | ⟨e1, e2⟩ | ⟨e1, e2⟩ | ⟨e1, e2⟩ | ⟨e1, e2⟩ | ⟨e1, e2⟩ | ⟨e1, e2⟩ | ⟨e1, e2⟩ <;> subst e1 e2
    · exact go "put" [.str "name", .str "number"] (by with_unfolding_all rfl) (by simp only [List.map_cons, List.map_nil, hi_name, hi_number]; rfl)
    · exact go "copy" [.str "name", .str "name"] (by with_unfolding_all rfl) (by simp only [List.map_cons, List.map_nil, hi_name]; rfl)
    · exact go "add" [.str "name", .str "name", .str "name"] (by with_unfolding_all rfl) (by simp only [List.map_cons, List.map_nil, hi_name]; rfl)
    · exact go "take" [.str "name", .str "name", .str "name"] (by with_unfolding_all rfl) (by simp only [List.map_cons, List.map_nil, hi_name]; rfl)
    · exact go "less" [.str "name", .str "name", .str "name"] (by with_unfolding_all rfl) (by simp only [List.map_cons, List.map_nil, hi_name]; rfl)
    · exact go "call" [.str "name", .str "name"] (by with_unfolding_all rfl) (by simp only [List.map_cons, List.map_nil, hi_name]; rfl)
    · exact go "say" [.str "name"] (by with_unfolding_all rfl) (by simp only [List.map_cons, List.map_nil, hi_name]; rfl)
    · exact go "if" [.str "name", .str "row"] (by with_unfolding_all rfl) (by simp only [List.map_cons, List.map_nil, hi_name, hi_row]; rfl)
    · exact go "go" [.str "row"] (by with_unfolding_all rfl) (by simp only [List.map_cons, List.map_nil, hi_row]; rfl)
    · exact go "end" [] (by with_unfolding_all rfl) (by rfl)
/-- those of a row's numbers that can't be -/
def badsL (most : List Int) (ds : List PyData) : List Nat := (List.range most.length).filter fun k => !numG (ds.getD k .none) 0 (most.getD k 0)
theorem zip_bads (hi : V → Int) : ∀ (ps : List V) (ds : List PyData), ds.length = ps.length → ((ps.zip ds).all fun p => numG p.2 0 (hi p.1)) = (badsL (ps.map hi) ds).isEmpty := fun ps ds len => by
  rw [Bool.eq_iff_iff, List.all_eq_true, List.isEmpty_iff]
  unfold badsL
  rw [List.filter_eq_nil_iff]
  constructor
  · intro h k hk
    rw [List.mem_range, List.length_map] at hk
    have h2 : k < ds.length := by omega
    have := h (ps[k], ds[k]) (List.mem_iff_getElem?.mpr ⟨k, List.getElem?_zip_eq_some.mpr ⟨List.getElem?_eq_getElem hk, List.getElem?_eq_getElem h2⟩⟩)
    rw [List.getD_eq_getElem?_getD, List.getD_eq_getElem?_getD, List.getElem?_map, List.getElem?_eq_getElem hk, List.getElem?_eq_getElem h2]
    show ¬ (!numG ds[k] 0 (hi ps[k])) = true
    rw [this]
    exact Bool.false_ne_true
  · intro h p hp
    have ⟨k, hk⟩ := List.mem_iff_getElem?.mp hp
    have ⟨h1, h2⟩ := List.getElem?_zip_eq_some.mp hk
    have lt : k < ps.length := (List.getElem?_eq_some_iff.mp h1).1
    have := h k (by rw [List.mem_range, List.length_map]; exact lt)
    rw [List.getD_eq_getElem?_getD, List.getD_eq_getElem?_getD, List.getElem?_map, h1, h2] at this
    have this : ¬ (!numG p.2 0 (hi p.1)) = true := this
    cases e : numG p.2 0 (hi p.1) with
    | true => rfl
    | false => rw [e] at this; exact absurd rfl this
/-- a row by what _law_first asks of it -/
theorem rowG_most {n m : Nat} {z : Str} {ds : List PyData} {most : List Int} (h : (kindsL n m).lookup z = some most) : rowG n m (.tuple (.str z :: ds)) = (decide (ds.length = most.length) && (badsL most ds).isEmpty) := by
  rw [kinds_part] at h
  cases e : partN z with
  | none =>
    rw [e] at h
    cases h
  | some k =>
    rw [e] at h
    have em : (partsOf (rowOfW z)).map (hiV n m) = most := Option.some.inj h
    have er : rowG n m (.tuple (.str z :: ds)) = partsG n m z ds := by
      show ((partN z).isSome && _) = _
      rw [e]
      rfl
    rw [er]
    unfold partsG
    rw [← em, List.length_map]
    by_cases l : ds.length = (partsOf (rowOfW z)).length
    · rw [decide_eq_true l, Bool.true_and, Bool.true_and, zip_bads _ _ _ l]
    · rw [decide_eq_false l]
      rfl
theorem rowG_none {n m : Nat} {z : Str} {ds : List PyData} (h : (kindsL n m).lookup z = none) : rowG n m (.tuple (.str z :: ds)) = false := by
  rw [kinds_part] at h
  cases e : partN z with
  | none =>
    show ((partN z).isSome && _) = _
    rw [e]
    rfl
  | some k => rw [e] at h; cases h
theorem kinds_few {n m : Nat} {z : Str} {most : List Int} (h : (kindsL n m).lookup z = some most) : most.length ≤ 3 := by
  have mm : ∀ {l : List (Str × List Int)}, l.lookup z = some most → (z, most) ∈ l := fun {l} => by
    induction l with
    | nil => intro e; cases e
    | cons p l ih =>
      intro e
      rw [List.lookup_cons] at e
      by_cases k : (z == p.1) = true
      · rw [k] at e
        have e := Option.some.inj e
        rw [← e, eq_of_beq k]
        exact List.mem_cons_self ..
      · rw [Bool.eq_false_iff.mpr k] at e
        exact List.mem_cons_of_mem _ (ih e)
  have all : ∀ q ∈ kindsL n m, q.2.length ≤ 3 := by
    unfold kindsL
    simp
  exact all _ (mm h)
/-! what can be compared -/
theorem lay_in : ∀ {ds : List PyData} {d : PyData}, PyData.canLayAll0 ds = true → d ∈ ds → d.canLay0 = true
  | x :: ds, d, h, m => by
    rw [PyData.canLayAll0, Bool.and_eq_true] at h
    rcases List.mem_cons.mp m with same | e
    · rw [same]; exact h.1
    · exact lay_in h.2 e
theorem deep_in : ∀ {ds : List PyData} {d : PyData}, d ∈ ds → d.depth ≤ PyData.depthAll ds
  | x :: ds, d, m => by
    rw [PyData.depthAll]
    rcases List.mem_cons.mp m with same | e
    · rw [same]; exact Nat.le_max_left _ _
    · exact Nat.le_trans (deep_in e) (Nat.le_max_right _ _)
theorem shaped_in {ds : List PyData} {d : PyData} (h : SeqAt.shaped (.tuple ds) = true) (m : d ∈ ds) : SeqAt.shaped d = true := by
  have h1 := SeqAt.canLay_of_shaped h
  have h2 := SeqAt.depth_of_shaped h
  rw [PyData.canLay0] at h1
  rw [PyData.depth] at h2
  have h3 := deep_in m
  show (d.canLay0 && decide (d.depth ≤ 64)) = true
  rw [lay_in h1 m, decide_eq_true (by omega)]
  rfl
/-- t == () -/
def nilT : PyData → Bool
  | .tuple [] => true
  | _ => false
theorem eqv_nilT {d : PyData} : PyData.eqv d (.tuple []) = nilT d := by
  cases d with
  | tuple ds => cases ds <;> rfl
  | _ => rfl
section
variable {X : Cx} {c : Cw} {M : Addr → Prop} {Γ : List Sl}
theorem pq_nilT {a b : Expr} {d : PyData} {pos : Pos} (hu : X.A.units + 64 < cLine) (ha : PD X c M Γ a d) (hb : PD X c M Γ b (.tuple [])) (sd : SeqAt.shaped d = true) (hm : behindInMarks .Eq b = false := by rfl) : PQ X c M Γ (.Compare a [.Eq] [b] pos) (nilT d) := by
  rw [← eqv_nilT]
  exact pq_eqD hu ha hb sd rfl hm
end
section
variable {base : Heap} {K : PySem.W.Frag} {mg : Str → Option Value} {P : Program} {w : World}
theorem scLIs : FnScope ["_law_part", "_law_low", "_law_high"] ["_law_part", "_law_low", "_law_high"] (defScope s_law_is) := ⟨rfl, rfl, rfl, by decide +kernel, rfl, by decide +kernel, by decide +kernel⟩
theorem ok_lis {f : Addr} {fd : FuncData} (D : Df K mg "_law_is" s_law_is ["_law_part", "_law_low", "_law_high"] f fd) (B : Bt mg) : FnOk P w K mg base CX0 1 f fd ["_law_part", "_law_low", "_law_high"] (spFun [] RNumG) := by
  refine fn_data (N := ["_law_part", "_law_low", "_law_high"]) (k := 0) D scLIs (fun ds d ⟨_, _, _, e, _⟩ => by rw [e]; rfl) (fun cdv A outer s H E M ds d hr r => ?_)
  have ⟨v, lo, hi, e1, e2⟩ := r
  subst e1 e2
  have cm : ∀ a, (cw0 ([] : List Addr)).mx a → no a := fun _ z => z
  rw [numG_and]
  refine hb_one (hs_ret cm (pd_and3 (pd_kind B.isinstance (pd_var 0 (pv 0) rfl) (pe_bltn (v := .ty "int") (by rfl) B.int (by decide +kernel) rfl) (kit_int v)) (fun _ => pd_not (pd_kind B.isinstance (pd_var 0 (pv 0) rfl) (pe_bltn (v := .ty "bool") (by rfl) B.bool (by decide +kernel) rfl) (kit_bool v))) fun h1 h2 => ?_) fun u H' tv x _ => ⟨tv, x⟩)
  have ⟨i, ei⟩ := only_int h1 h2
  subst ei
  exact pd_between (pd_var 1 (pv 1) rfl) (pd_var 0 (pv 0) rfl) (pd_var 2 (pv 2) rfl)
end
end Bw
namespace Bw
open PySem PySem.Spec PyProof.Rows L2 GxR Gx RZ Nx TL
/-! ### refusals that are caught -/
section
variable {X : Cx}
/-- how often a thing is in a list -/
def rHowOften (K : PySem.W.Frag) : V → List V → Hp → VK → Prop := fun x xs H Q => ∃ (l : Addr) (y : V) (d : PyData) (ds : List PyData), x = .ref l ∧ xs = [y] ∧ Dp K H (.ref l) (.list ds) ∧ Dp K H y d ∧ SeqAt.shaped (.list ds) = true ∧ SeqAt.shaped d = true ∧ Q (.int ((ds.countP fun z => PyData.eqv z d : Nat) : Int)) H
theorem mt_howOften (hu : X.A.units + 65 < cLine) : MtR X "list.count" (rHowOften X.K) := by
  intro pins s σ H x xs v us Q I rx rxs ⟨l, y, d, ds, ex, exs, hl, hy, sl, sd, q⟩
  subst ex exs
  cases rx
  cases rxs with
  | @cons _ uy _ _ ry rt =>
    cases rt
    have ⟨bs, rb⟩ := Dp.reads I d y uy hy ry
    have lay : PyData.canLayAll0 ds = true := SeqAt.canLay_of_shaped sl
    cases hl with
    | lst hs ha =>
      have ⟨its, rv, ⟨⟨cls, dd, data, sls⟩, n, ho, hc, hdn, hdt⟩, hlen⟩ := I.list hs
      simp only at hc hdt
      subst hc hdt
      have ⟨as, ra⟩ := Dp.readsAll I ds _ its ha rv
      have em : its.map (SeqAt.readOf s.heap) = ds := SeqAt.readsAll_map ds its as lay ra
      refine call_meets PySem.F.slot_list_count ⟨_, ho, rfl⟩ PySem.F.entry_list_count (PySem.F.args_list_count_2 _ _) (SeqAt.list_countAt l its.toArray n dd sls uy (fun u => PyData.eqv (SeqAt.readOf s.heap u) d)) ⟨ho, SeqAt.items_eqAt (vs := its.toArray) (show ReadsAll s.heap its.toArray.toList ds as from ra) rb lay (SeqAt.canLay_of_shaped sd) (room_in_shaped sd hu), ?_⟩
      have ec : its.toArray.toList.countP (fun u => PyData.eqv (SeqAt.readOf s.heap u) d) = ds.countP fun z => PyData.eqv z d := by
        rw [← em, List.countP_map]
        rfl
      rw [ec]
      exact ⟨.int _, H, I.tok _, ⟨_, rfl⟩, q⟩
end
section
variable {X : Cx} {c : Cw} {M : Addr → Prop} {Γ : List Sl}
theorem pd_howOften {o e : Expr} {apos cpos : Pos} {ds : List PyData} {d : PyData} (hu : X.A.units + 65 < cLine) (ho : PD X c M Γ o (.list ds)) (he : PD X c M Γ e d) (ss : SeqAt.shaped (.list ds) = true) (sd : SeqAt.shaped d = true) (hs : starEach [e] X.env = (false, eval e X.env) :: starEach [] X.env := by rfl)
    (hp : PE X o (tV c M Γ (isD M (.list ds))) → PAr X c M Γ [e] [.d d] → PE X (.Call (.Attribute o "count" apos) [e] [] cpos) (tBM X.K "list" (rHowOften X.K) (tV c M Γ (isD M (.list ds))) (tAr c M Γ [.d d])) := by exact fun a b => pe_bm PySem.F.plainAttrs_list PySem.F.slot_list_count PySem.F.type_list_count (mt_howOften (by assumption)) a b) :
    PD X c M Γ (.Call (.Attribute o "count" apos) [e] [] cpos) (nI (ds.countP fun z => PyData.eqv z d)) :=
  (hp ho (ar_d he ar_nil hs)).mono fun σ H Q ⟨r, q⟩ => ⟨r, fun v H1 hv x1 b1 => by
    have ⟨l, vs, ev, na, ha, all⟩ := hv.lstE
    subst ev
    refine ⟨.inl ⟨rfl, _, SqL.of ha⟩, r.ext x1 b1, fun us H2 hus x2 b2 => ?_⟩
    have ⟨u, eu, tu⟩ := hus.one_d
    subst eu
    exact ⟨l, u, d, ds, rfl, rfl, (hv.ext x2 r.sub).dp, tu.dp, ss, sd, q _ H2 (.int _) (x1.trans x2) b2⟩⟩
end
/-- what a stretch may count on while a refusal is in hand: its dict -/
def cwX (dx : Addr) (fs : List (Str × V)) : Cw := ⟨[], fun a => a = dx, fun H => H dx = some (.xd fs), fun m H H' off x h => x.oth dx _ (fun z => off _ z rfl) (fun ps z => by cases z) h⟩
section
variable {X : Cx} {a D dx : Addr} {oe : Obj} {pn : List (Addr × Obj)} {fs : List (Str × V)}
theorem call_isEx (C : ExcC X.K D) (hz : Zc (.ref D) (some dx) oe) (hf : ∃ vs, oe.data = .fields vs) : CallR (X.suite a ((a, oe) :: pn)) (.builtin "isinstance") (fun xs H Q => ∃ (k : V) (kv : Value) (b : Bool), xs = [.ref a, k] ∧ ClsV k kv ∧ H dx = some (.xd fs) ∧ PySem.W.kitOne X.K (.ref D) kv = some b ∧ Q (.bl b) H) := by
  intro pins s σ H xs us Q I r ⟨k, kv, b, ex, hk, hd, e, q⟩
  subst ex
  have ⟨u1, u2, eu, r1, r2⟩ := vals2 r
  subst eu
  have e1 : u1 = Value.ref a := r1
  subst e1
  have e2 := hk.eq r2
  subst e2
  have ⟨ha, _⟩ := I.pin (a, oe) (List.mem_append_left _ List.mem_cons_self)
  have ⟨vs, hv⟩ := hf
  have hx : ObjOk X.prog X.w H s.heap dx (.xd fs) := I.hok dx _ hd
  have ⟨mA, hns, _⟩ := hx
  have ⟨od, ho, _⟩ := lookIn_ns hns
  have J : PySem.W.InstAt s.heap a oe D (some od) := ⟨ha, hz.1, by unfold PySem.W.notCls; rw [hv] <;> rfl, by rw [hz.2]; exact ho⟩
  have ⟨cd, hc, _⟩ := PySem.W.any_some C.hd
  exact PySem.W.kia_one (PySem.W.kitx_exc (gt := none) (by rw [hc]; rfl) C.hg C.hk C.hs C.ha C.hn C.ht C.hm) I.kIn J e (fun z => nomatch z) fun tk => ⟨.bl b, H, I.tok tk, rfl, q⟩
variable {M : Addr → Prop} {Γ : List Sl}
/-- isinstance(e, k), e the refusal in hand -/
theorem pd_isE (i : Nat) {x y : Str} {k : V} {kv : Value} {b : Bool} {p0 p1 p2 pos : Pos} (C : ExcC X.K D) (hz : Zc (.ref D) (some dx) oe) (hf : ∃ vs, oe.data = .fields vs) (hm : X.mg "isinstance" = none) (he : PE (X.suite a ((a, oe) :: pn)) (.Name x p1) (tVar i)) (g : Γ[i]? = some (.r a)) (hk : PE (X.suite a ((a, oe) :: pn)) (.Name y p2) (tC k)) (kc : ClsV k kv) (e : PySem.W.kitOne X.K (.ref D) kv = some b)
    (hg : Gl (X.suite a ((a, oe) :: pn)) "isinstance" := by rfl) (hs : starEach [.Name x p1, .Name y p2] (X.suite a ((a, oe) :: pn)).env = (false, eval (.Name x p1) (X.suite a ((a, oe) :: pn)).env) :: starEach [.Name y p2] (X.suite a ((a, oe) :: pn)).env := by rfl) :
    PD (X.suite a ((a, oe) :: pn)) (cwX dx fs) M Γ (.Call (.Name "isinstance" p0) [.Name x p1, .Name y p2] [] pos) (.bool b) :=
  (pe_callB (call_isEx (fs := fs) C hz hf) hg hm (by decide +kernel) (pa_cons he (pa_cons hk pa_nil) hs) (he := hs)).mono fun σ H Q ⟨r, q⟩ => by
    have ⟨o, eo, e1⟩ := r.sl.get g
    have e1 : o = some (.ref a) := e1
    subst e1
    exact ⟨_, eo, _, kv, b, rfl, kc, r.bx, e, q _ H (.bl b) (Ext.refl _ _) r.bx⟩
/-- e.row -/
theorem pd_rowE (i : Nat) {x n : Str} {r : Int} {p1 pos : Pos} (T : XfC X.K D) (no_ : PySem.W.findIn X.K (.ref D) n = some none) (hz : Zc (.ref D) (some dx) oe) (hf : ∃ vs, oe.data = .fields vs) (he : PE (X.suite a ((a, oe) :: pn)) (.Name x p1) (tVar i)) (g : Γ[i]? = some (.r a)) (l : fs.lookup n = some (.int r)) :
    PD (X.suite a ((a, oe) :: pn)) (cwX dx fs) M Γ (.Attribute (.Name x p1) n pos) (.int r) :=
  (pe_xf (X := X) (a := a) (oe := oe) (pn := pn) T no_ hz hf he).mono fun σ H Q ⟨rp, q⟩ => by
    have ⟨o, eo, e1⟩ := rp.sl.get g
    have e1 : o = some (.ref a) := e1
    subst e1
    exact ⟨_, eo, rfl, rfl, dx, fs, .int r, rfl, rp.bx, l, q _ H (.int r) (Ext.refl _ _) rp.bx⟩
end
end Bw
namespace Bw
open PySem PySem.Spec PyProof.Rows L2 GxR Gx RZ Nx TL
/-! ### a lambda, made and handed on -/
section
variable {X : Cx} {s : Shared} {H : Hp} {σ : L2.St} {pins : List (Addr × Obj)}
theorem ext_table {H : Hp} {P : Addr} {ps qs : Array Value} (hP : H P = some (.tbl ps)) (nm : P ∈ lamTabs) : Ext (fun a => a = P) H (upd H P (.tbl qs)) := by
  refine ⟨fun a xs e => ?_, fun a o n _ e => ?_, fun T ⟨⟨ps1, e, t⟩, u⟩ => ?_, fun a e => dom_upd e, fun T ps1 _ n e => ?_, fun d q e => ?_⟩
  · rw [upd_ne (ne_of e hP fun z => by cases z)]; exact e
  · rw [upd_ne n]; exact e
  · exact ⟨⟨ps1, by rw [upd_ne fun z => u (by rw [z]; exact nm)]; exact e, t⟩, u⟩
  · rw [upd_ne n]; exact e
  · rw [upd_ne (ne_of e hP (LamX.codeO_ne _))]; exact e
theorem lam_new {c P : Addr} {as : Arguments} {body : Expr} {sc : Scope} {pos : Pos} {E Q : Value → Shared → Prop} (I : Inv X pins σ H s) (B : LamX.TabB X.base X.mg c P) (code : X.env.code = .ref c) (nm : P ∈ lamTabs) (T : LamX.TabS H P (X.env.qual ++ "<lambda>")) (plain : defaultsOf as X.env = ([], [])) (has : ∀ y ∈ sc.names, y.2 = .free → ∃ c, X.env.cells.lookup y.1 = some c)
    (next : ∀ (f c1 : Addr) (pm ct : Value) (H1 : Hp) (s1 : Shared), Inv X pins σ H1 s1 → Ext (fun a => a = P) H H1 → LamX.TabS H1 P (X.env.qual ++ "<lambda>") → s1.heap.get? f = some (PySem.W.kla_obj "<lambda>" (X.env.qual ++ "<lambda>") as body sc (cloFrom X.env.cells sc.names []) pm c1 ct) → H1 f = none → f ∉ frs X.stack → s.heap.objs.size ≤ f → H1 c1 = some (LamX.CodeO c1 (X.env.qual ++ "<lambda>")) → Q (.ref f) s1) :
    wpAny (model X.prog X.w) X.A (eval (.Lambda as body sc pos) X.env) Q E s := by
  have ⟨ps, hP, tri, known⟩ := T
  have atP : s.heap.get? P = some { cls := .none, data := .fields ps } := I.hok P _ hP
  have bP := B.bm.keeps I.bk
  have off : ∀ f, s.heap.objs.size ≤ f → f ∉ frs X.stack := fun f le z => by
    rcases List.mem_cons.mp (I.stkSub f z) with here | there
    · exact Nat.lt_irrefl _ (Nat.lt_of_lt_of_le (here ▸ I.lt) le)
    · exact I.nofs le there
  refine PySem.W.kla_eval plain ?_
  cases e : codeAmong pos ps.toList with
  | some cv =>
    have ⟨c1, e1, h1⟩ := known pos cv e
    subst e1
    exact PySem.W.kla_makeFunctionHit (mg := X.mg) (c := c) (P := P) (ps := ps) (closure_ok has) I.ok.glob (I.mod.glob.keeps I.bk) code (B.code.keeps I.bk) atP tri e bP fun ct h1' tk keep le =>
      next h1'.objs.size c1 _ ct H _ (I.kept (t' := tk) fun b o z => Heap.get?_push_of_some _ (keep b o z)) (Ext.refl _ _) T (Heap.get?_push_size _ rfl) (I.hok.fresh le) (off _ le) le h1
  | none =>
    refine PySem.W.kla_makeFunction (mg := X.mg) (c := c) (P := P) (ps := ps) (closure_ok has) I.ok.glob (I.mod.glob.keeps I.bk) code (B.code.keeps I.bk) atP tri e B.gP bP fun c1 ct hn tk ext ge lt rec_ tab => ?_
    have ⟨c2, oc, vs, t, e2, hoc, hd, hv⟩ := rec_
    cases e2
    have le : s.heap.objs.size ≤ hn.objs.size := by omega
    have nC : H c1 = none := I.hok.fresh ge
    have apart : P ≠ c1 := ne_of_none hP nC
    have J := LamX.inv_table (t' := tk) (more := #[rawInt pos.line, rawInt pos.col, .ref c1]) (h' := hn.push (PySem.W.kla_obj "<lambda>" (X.env.qual ++ "<lambda>") as body sc (cloFrom X.env.cells sc.names []) ((X.mg "__name__").getD .none) c1 ct)) I hP
      (fun b o nb z => Heap.get?_push_of_some _ (ext b o nb z)) (Heap.get?_push_of_some _ tab) ge ⟨oc, vs, t, Heap.get?_push_of_some _ hoc, hd, hv⟩
    have x : Ext (fun a => a = P) H (upd (upd H P (.tbl (ps ++ #[rawInt pos.line, rawInt pos.col, .ref c1]))) c1 (LamX.CodeO c1 (X.env.qual ++ "<lambda>"))) := (ext_table hP nm).trans (Ext.new (by rw [upd_ne apart.symm]; exact nC))
    have eq : (ps ++ #[rawInt pos.line, rawInt pos.col, .ref c1]).toList = ps.toList ++ [rawInt pos.line, rawInt pos.col, .ref c1] := by simp
    refine next hn.objs.size c1 _ ct _ _ J x ⟨_, by rw [upd_ne apart, upd_same], by rw [eq]; exact PySem.TriplesOk_snoc _ _ _ _ tri, fun p cv among => ?_⟩ (Heap.get?_push_size _ rfl) ?_ (off _ le) le upd_same
    · rw [eq] at among
      rcases LamX.among_app _ tri among with z | z
      · have ⟨c0, e0, h0⟩ := known p cv z
        exact ⟨c0, e0, x.cod _ _ h0⟩
      · exact ⟨c1, z, upd_same⟩
    · have n2 : hn.objs.size ≠ P := Nat.ne_of_gt (Nat.lt_of_lt_of_le (Heap.lt_size atP) le)
      rw [upd_ne (Nat.ne_of_gt lt), upd_ne n2]
      exact I.hok.fresh le
end
/-- what is read of a def that is handed a lambda -/
def tLamb (P : Addr) (q : Str) (TT : (XK → Hp → VK → Prop) → Hp → VK → Prop) (t : XK → TE) : TE := fun σ H Q => LamX.TabS H P q ∧ ∀ H1, Ext (fun a => a = P) H H1 → LamX.TabS H1 P q → TT (fun E H' Q' => t E σ H' Q') H1 Q
section
variable {X : Cx}
/-- x(lambda: body), x a def that lets nothing out -/
theorem pe_lamb {TT : (XK → Hp → VK → Prop) → Hp → VK → Prop} {x a : Str} {st : Stmt} {g c P : Addr} {fd : FuncData} {k : Nat} {N : List Str} {as : Arguments} {body : Expr} {sc : Scope} {t : XK → TE} {p lpos pos : Pos} (D : Df X.K X.mg x st [a] g fd) (S : FnScope N [a] (defScope st)) (first : N[0]? = some a) (vis : Vis (defScope st) a)
    (gives : ∀ cdv, LamX.GivesTo X N x (defScope st) g cdv (defBody st) a (X.env.qual ++ "<lambda>") TT) (B : LamX.TabB X.base X.mg c P) (code : X.env.code = .ref c) (nm : P ∈ lamTabs) (hr : Room (k + 2) X.A) (L : LamX.LamS X.env.scope sc)
    (inner : ∀ (A : Around) (outer : List Env) (s : Shared) (H : Hp) (E : XK) (f c1 : Addr), Room k (A.deeper (LamX.lamEnv X sc s.heap.objs.size f c1)) → PE (LamX.lamCx X A outer s H E sc f c1) body (t E)) (hg : Gl X x := by rfl) (plain : defaultsOf as X.env = ([], []) := by rfl)
    (none_ : ∀ (q : Str) (cl : List (Str × Addr)) (pm cv ct : Value), bindArgs (PySem.W.kla_fn "<lambda>" q as body sc cl pm cv ct) ⟨[], []⟩ = pure [] := by intro _ _ _ _ _; rfl) (d1 : (x == ("__debug__" : Str)) = false := by decide) (d2 : (a == ("__debug__" : Str)) = false := by decide) (d3 : (a == ("__classdict__" : Str)) = false := by decide) :
    PE X (.Call (.Name x p) [.Lambda as body sc lpos] [] pos) (tLamb P (X.env.qual ++ "<lambda>") TT t) := by
  have ⟨oc, od, kV, doc, pm, an, cdv, ct, osl, same, lk, hcd⟩ := D.F.ex
  have bi := D.b
  subst same
  refine ⟨fun pins s σ H Q I ⟨T, h⟩ => wpAny_Call_Name_kw (ld_glob I hg D.g ?_ d1)⟩
  refine PySem.W.callWith_K (h₀ := X.base) I.ok.mod.kin D.F.kp ?_ (by rfl) (by rfl)
  show wpAny _ _ (spliced ((false, eval (.Lambda as body sc lpos) X.env) :: backTo pos (starEach [] X.env))) _ _ s
  refine Calls.spliced_cons (lam_new I B code nm T plain (L.has I.ok) fun f c1 pm1 ct1 H1 s1 I1 x1 T1 at_ fn off _ hc => Calls.spliced_nil ⟨I1.kIn, ?_⟩)
  have run : codeAny (model X.prog X.w) X.A (.call (.ref g) ⟨[.ref f], []⟩) (CR C8.CX0 X.stack X.prog X.w H1 s1 Q C8.E0) s1 := by
    refine LamX.run_ofS (N := N) (ps := [a]) (us := [.ref f]) (vs := [.ref f]) lk hcd S hr I1.env0 (bi s1 [.ref f] I1.kIn rfl) (.cons rfl .nil) rfl fun hr1 => ?_
    have ⟨u, pu, qu⟩ := gives cdv f c1 s1 H1 Q (fun E H' Q' => t E σ H' Q') (fun W pn xe E p1 p2 tk hW => LamX.pe_act (i := 0) I1 L at_ fn off (none_ _ _ _ _ _) tk hW hr1 (fun A outer s H hr2 => inner A outer s H E f c1 hr2) first vis d2 d3) hc (h H1 x1 T1)
    exact ⟨u, pu.nox, qu⟩
  refine wpAny_call (codeAny_mono run fun r s2 hq => ?_)
  cases r with
  | error u => exact (show False from hq).elim
  | ok fl =>
    cases fl with
    | ret w => exact I1.after hq
    | next => exact (hq : False).elim
    | brk => exact (hq : False).elim
    | cont => exact (hq : False).elim
end
end Bw
namespace Bw
open PySem PySem.Spec PyProof.Rows L2 GxR Gx RZ Nx TL
/-! ### _law_told -/
/-- the classes of refusals, in the order in which the law asks for them -/
abbrev kindNames : List Str := ["BadChoice", "BadCount", "BadFrame", "BadGiven", "BadPaper", "BadProgram", "BadText", "NoRoom", "TooMany"]
/-- a class of refusals that tell a row, by its place -/
structure Caught (K : PySem.W.Frag) (mg : Str → Option Value) (CB : Addr) (cs : List Addr) (j : Nat) : Prop where
  g : ∀ i, i < 9 → mg (kindNames.getD i Str.empty) = some (.ref (cs.getD i 0))
  kit : ∀ i, i < 9 → PySem.W.kitOne K (.ref (cs.getD j 0)) (.ref (cs.getD i 0)) = some (decide (i = j))
  val : PySem.W.kitOne K (.ref (cs.getD j 0)) (.type "ValueError") = some true
  exm : PySem.W.exmOne K (.ref (cs.getD j 0)) (.ref CB) = some true
  ec : ExcC K (cs.getD j 0)
  xf : XfC K (cs.getD j 0)
  row : PySem.W.findIn K (.ref (cs.getD j 0)) "row" = some none
  jr : j = 0 ∨ j = 4 ∨ j = 5 ∨ j = 6
/-- what is told of a refusal -/
abbrev toldBad (j : Nat) (r : Int) : PyData := .tuple [.str (kindNames.getD j Str.empty), .int r]
theorem Ext.same {dd : Addr} {o : HO} {H H' : Hp} (x : Ext (fun a => a = dd) H H') (h : H dd = some o) (h' : H' dd = some o) (nt : ∀ ps, o ≠ .tbl ps) : Ext no H H' :=
  ⟨x.tup, fun a u _ t e => by
    by_cases z : a = dd
    · subst z
      rw [h', ← h, e]
    · exact x.oth a u z t e, x.tab, x.dom, fun P ps i _ e => x.lam P ps i (fun z => by rw [z, h] at e; exact nt ps (Option.some.inj e)) e, x.cod⟩
/-- the answers to the questions of which class it is -/
abbrev whichD (j : Nat) : List PyData := (List.range 9).map fun i => .bool (decide (i = j))
theorem how_often : ∀ j, j < 9 → (((List.range 9).map fun i => PyData.bool (decide (i = j))).countP fun z => PyData.eqv z (.bool true)) = 1 := by decide +kernel
section
variable {X : Cx}
abbrev nTold : List Str := ["_law_work", "e", "_law_kinds", "_law_words", "_law_word"]
theorem scTold : FnScope nTold ["_law_work"] (defScope s_law_told) := ⟨rfl, rfl, rfl, by decide +kernel, rfl, by decide +kernel, by decide +kernel⟩
/-- what _law_told makes of what it is handed -/
def tTold (K : PySem.W.Frag) (mg : Str → Option Value) (CB : Addr) (cs : List Addr) : (XK → Hp → VK → Prop) → Hp → VK → Prop := fun tl H Q =>
  tl (fun cls d H' => ∃ (j : Nat) (dd : Addr) (r : Int), Caught K mg CB cs j ∧ cls = .ref (cs.getD j 0) ∧ d = some dd ∧ H' dd = some (.xd [("row", .int r)]) ∧ ∀ v H'', Td no H'' v (toldBad j r) → Ext no H' H'' → Q v H'') H Q
set_option maxHeartbeats 2100000 in
theorem told_gives {q : Str} {g CB : Addr} {cs : List Addr} (cdg : Value) (hm : X.mg "isinstance" = none) (hv : X.mg "ValueError" = none) (hB : X.mg "BoxError" = some (.ref CB)) (hu : X.A.units + 200 < cLine) : LamX.GivesTo X nTold "_law_told" (defScope s_law_told) g cdg (defBody s_law_told) "_law_work" q (tTold X.K X.mg CB cs) := by
  intro f c1 s H Q tl act hc h
  have hN := scTold.nd
  refine ⟨_, pss_one (ps_try_as (X := (cxOf C8.CX0 X.prog X.w X.K X.mg X.base nTold "_law_told" (defScope s_law_told) g cdg X.A X.stack s H C8.E0).nox) (x := "BoxError") (n := "e") (c := .ref CB) (i := 1) (Wout := fun _ _ _ _ => False)
      (tb := fun W D σ H => ∃ Ech : XK, (∀ cls d σ' H', Ech cls d H' → W cls d σ' H') ∧ σ[0]? = some (some (.ref f)) ∧ H c1 = some (LamX.CodeO c1 q) ∧ tl Ech H D.rt)
      (ts := fun a cls d D σ H1 => ∃ (j : Nat) (dd : Addr) (r : Int), Caught X.K X.mg CB cs j ∧ cls = .ref (cs.getD j 0) ∧ d = some dd ∧ H1 dd = some (.xd [("row", .int r)]) ∧ (σ.length = 5 → σ[1]? = some (some (.ref a))) ∧ ∀ v H'', Td no H'' v (toldBad j r) → Ext no H1 H'' → D.rt v H'')
      rfl rfl hN rfl rfl ⟨rfl, by decide, .inl hB⟩ LamX.takes0 (fun W pn xe tk _ => ?_) (fun a oe cls d pn hz hf => ?_)), ?_⟩
  · refine ⟨fun pins s' σ H' D I ⟨Ech, hW, h1, h2, h3⟩ => ?_⟩
    exact (pss_one (ps_ret (act W pn xe Ech _ _ tk hW))).run pins s' σ H' D I ⟨h1, h2, h3⟩
  · refine ⟨fun pins s' σ H1 D I ⟨j, dd, r, C, ec, ed, hd, at1, out⟩ => ?_⟩
    subst ec ed
    have len : σ.length = 5 := I.len
    have u65 : ((cxOf C8.CX0 X.prog X.w X.K X.mg X.base nTold "_law_told" (defScope s_law_told) g cdg X.A X.stack s H C8.E0).nox.suite a ((a, oe) :: pn)).A.units + 65 < cLine := by
      show X.A.units + 3 + 65 < cLine
      omega
    have cm : ∀ b, (cwX dd [("row", .int r)]).mx b → b = dd := fun _ z => z
    have j9 : j < 9 := by rcases C.jr with z | z | z | z <;> omega
    refine (?_ : HB ((cxOf C8.CX0 X.prog X.w X.K X.mg X.base nTold "_law_told" (defScope s_law_told) g cdg X.A X.stack s H C8.E0).nox.suite a ((a, oe) :: pn)) _ (As (cwX dd [("row", .int r)]) H1 (fun x => x = dd) (fun x => x = dd) [.any, .r a, .any, .any, .any]) { nx := fun _ _ => False, rt := fun v H'' => Td no H'' v (toldBad j r) ∧ Ext no H1 H'' }).run pins s' σ H1 D I ⟨⟨⟨?_, fun _ z => (nomatch z), hd, fun _ z => z, fun b z e => (by rw [z, hd] at e; cases e)⟩, Ext.refl _ _⟩, fun _ _ z => z.elim, fun v H'' z => out v H'' z.1 z.2, fun _ _ z => z.elim, fun _ _ z => z.elim⟩
    · have isE : ∀ (i : Nat) (y : Str) (Γ : List Sl) (p0 p1 p2 pos : Pos), Γ[1]? = some (.r a) → i < 9 → y = kindNames.getD i Str.empty → Gl ((cxOf C8.CX0 X.prog X.w X.K X.mg X.base nTold "_law_told" (defScope s_law_told) g cdg X.A X.stack s H C8.E0).nox.suite a ((a, oe) :: pn)) y → (y == ("__debug__" : Str)) = false →
          PD ((cxOf C8.CX0 X.prog X.w X.K X.mg X.base nTold "_law_told" (defScope s_law_told) g cdg X.A X.stack s H C8.E0).nox.suite a ((a, oe) :: pn)) (cwX dd [("row", .int r)]) (fun x => x = dd) Γ (.Call (.Name "isinstance" p0) [.Name "e" p1, .Name y p2] [] pos) (.bool (decide (i = j))) := fun i y Γ p0 p1 p2 pos g1 i9 ey hy hdb => by
        subst ey
        exact pd_isE 1 C.ec hz hf hm (pv 1) g1 (pe_glob (v := .ref (cs.getD i 0)) hy (C.g i i9) rfl hdb) (.own _) (C.kit i i9)
      have cnt := how_often j j9
      have sh : SeqAt.shaped (.list (whichD j)) = true := by rcases C.jr with z | z | z | z <;> subst z <;> decide +kernel
      have hitJ : (whichD j)[j]? = some (.bool true) := by rcases C.jr with z | z | z | z <;> subst z <;> rfl
      have early : ∀ (m : Nat) (y : PyData), m < j → (whichD j)[m]? = some y → PyData.eqv y (.bool true) = false := fun m y mj e => by
        rw [List.getElem?_map, List.getElem?_range (by omega)] at e
        have e2 : PyData.bool (decide (m = j)) = y := Option.some.inj e
        rw [← e2, decide_eq_false (Nat.ne_of_lt mj)]
        rfl
      have word : (kindNames.map PyData.str)[j]? = some (.str (kindNames.getD j Str.empty)) := by rcases C.jr with z | z | z | z <;> subst z <;> rfl
      have tells : inV (flatOf (.str (kindNames.getD j Str.empty))) (([.str "BadChoice", .str "BadPaper", .str "BadProgram", .str "BadText"] : List PyData).map flatOf) = true := by rcases C.jr with z | z | z | z <;> subst z <;> decide +kernel
      refine hb_cons (hs_set 2 (d := .list [.bool (decide (0 = j)), .bool (decide (1 = j)), .bool (decide (2 = j)), .bool (decide (3 = j))]) cm hN (PV.lst (pn_lst (ar_d (isE 0 _ _ _ _ _ _ rfl (by decide) (by rfl) (by rfl) (by decide)) (ar_d (isE 1 _ _ _ _ _ _ rfl (by decide) (by rfl) (by rfl) (by decide)) (ar_d (isE 2 _ _ _ _ _ _ rfl (by decide) (by rfl) (by rfl) (by decide)) (ar_d (isE 3 _ _ _ _ _ _ rfl (by decide) (by rfl) (by rfl) (by decide)) ar_nil)))) (show 4 ≤ sizeLine by decide)))) ?_
      refine hb_cons (hs_set 2 (d := .list ([.bool (decide (0 = j)), .bool (decide (1 = j)), .bool (decide (2 = j)), .bool (decide (3 = j))] ++ [.bool (decide (4 = j)), .bool (decide (5 = j)), .bool (decide (6 = j))])) cm hN (PV.lst (pn_cat (pd_var 2 (pv 2) rfl) (PV.lst (pn_lst (ds := [.bool (decide (4 = j)), .bool (decide (5 = j)), .bool (decide (6 = j))]) (ar_d (isE 4 _ _ _ _ _ _ rfl (by decide) (by rfl) (by rfl) (by decide)) (ar_d (isE 5 _ _ _ _ _ _ rfl (by decide) (by rfl) (by rfl) (by decide)) (ar_d (isE 6 _ _ _ _ _ _ rfl (by decide) (by rfl) (by rfl) (by decide)) ar_nil))) (show 3 ≤ sizeLine by decide))) (show 4 + 3 ≤ sizeLine by decide)))) ?_
      refine hb_cons (hs_set 2 (d := .list (whichD j)) cm hN (PV.lst (pn_cat (ds := [.bool (decide (0 = j)), .bool (decide (1 = j)), .bool (decide (2 = j)), .bool (decide (3 = j))] ++ [.bool (decide (4 = j)), .bool (decide (5 = j)), .bool (decide (6 = j))]) (pd_var 2 (pv 2) rfl) (PV.lst (pn_lst (ds := [.bool (decide (7 = j)), .bool (decide (8 = j))]) (ar_d (isE 7 _ _ _ _ _ _ rfl (by decide) (by rfl) (by rfl) (by decide)) (ar_d (isE 8 _ _ _ _ _ _ rfl (by decide) (by rfl) (by rfl) (by decide)) ar_nil)) (show 2 ≤ sizeLine by decide))) (by show 7 + 2 ≤ sizeLine; decide)))) ?_
      refine hb_cons (hs_if (b := !decide ((((whichD j).countP fun z => PyData.eqv z (.bool true) : Nat) : Int) = 1) || !true) cm (pq_or (pq_neI (pd_howOften u65 (pd_var 2 (pv 2) rfl) pd_bl sh (by decide)) pd_int) fun _ => pq_not (pq_val (pd_isE 1 C.ec hz hf hm (pv 1) rfl (pe_bltn (v := .ty "ValueError") (by rfl) hv (by decide +kernel) rfl) (.ty _) C.val))) (fun e => by
        rw [show ((whichD j).countP fun z => PyData.eqv z (.bool true)) = 1 from cnt] at e
        cases e) (fun _ => hb_nil fun σ H' h => h)) ?_
      refine hb_cons (hs_set 3 (d := .list [.str "BadChoice", .str "BadCount", .str "BadFrame", .str "BadGiven", .str "BadPaper", .str "BadProgram", .str "BadText", .str "NoRoom"]) cm hN (PV.lst (pn_lst (ar_d pd_str (ar_d pd_str (ar_d pd_str (ar_d pd_str (ar_d pd_str (ar_d pd_str (ar_d pd_str (ar_d pd_str ar_nil)))))))) (by decide)))) ?_
      refine hb_cons (hs_set 4 (d := .str (kindNames.getD j Str.empty)) cm hN (pd_ixD (n := j) (ds := kindNames.map PyData.str) (PV.lst (pn_cat (ds := [.str "BadChoice", .str "BadCount", .str "BadFrame", .str "BadGiven", .str "BadPaper", .str "BadProgram", .str "BadText", .str "NoRoom"]) (es := [.str "TooMany"]) (pd_var 3 (pv 3) rfl) (PV.lst (pn_lst (ar_d pd_str ar_nil) (by decide))) (by decide))) (pd_index u65 (pd_var 2 (pv 2) rfl) pd_bl sh (by decide) hitJ rfl early) word)) ?_
      refine hb_one (hs_ret cm (pd_tup (ds := [.str (kindNames.getD j Str.empty), .int r]) (ar_d (pd_var 4 (pv 4) rfl) (ar_d (pv_if (k := inV (flatOf (.str (kindNames.getD j Str.empty))) (([.str "BadChoice", .str "BadPaper", .str "BadProgram", .str "BadText"] : List PyData).map flatOf)) (pq_inT (pd_var 4 (pv 4) rfl) (pd_tup (ar_d pd_str (ar_d pd_str (ar_d pd_str (ar_d pd_str ar_nil)))) (by decide)) rfl rfl) back_d (fun _ => pd_rowE 1 C.xf C.row hz hf (pv 1) rfl rfl) (fun e => by rw [tells] at e; cases e)) ar_nil)) (show 2 ≤ sizeLine by decide)) fun v H' tv x b => ⟨tv.mono (fun _ z => z.elim), x.same hd b fun ps z => by cases z⟩)
    · match σ, len, at1 with
      | [o0, o1, o2, o3, o4], _, at1 => exact .cons trivial (.cons (by have e := at1 rfl; exact Option.some.inj e) (.cons trivial (.cons trivial (.cons trivial .nil))))
  · refine ⟨fun cls d H' => ∃ (j : Nat) (dd : Addr) (r : Int), Caught X.K X.mg CB cs j ∧ cls = .ref (cs.getD j 0) ∧ d = some dd ∧ H' dd = some (.xd [("row", .int r)]) ∧ ∀ v H'', Td no H'' v (toldBad j r) → Ext no H' H'' → Q v H'', fun cls d σ' H' ⟨j, dd, r, C, ec, ed, hd, out⟩ => ⟨true, by rw [ec]; exact C.exm, fun _ a na => ⟨j, dd, r, C, ec, ed, hd, fun len => ?_, out⟩, fun e => nomatch e⟩, rfl, hc, h⟩
    rw [List.length_set] at len
    rw [List.getElem?_set_self (by omega)]
end
end Bw
namespace Bw
open PySem PySem.Spec PyProof.Rows L2 GxR Gx RZ Nx TL
/-! ### stretches that make lambdas -/
theorem tabS_ext {m : Addr → Prop} {H H' : Hp} {P : Addr} {q : Str} (i : P ∈ lamTabs) (n : ¬ m P) (x : Ext m H H') (t : LamX.TabS H P q) : LamX.TabS H' P q :=
  have ⟨ps, h, tri, known⟩ := t
  ⟨ps, x.lam P ps i n h, tri, fun pos cv e =>
    have ⟨c, e1, e2⟩ := known pos cv e
    ⟨c, e1, x.cod _ _ e2⟩⟩
/-- the lambdas' tables beside what a stretch may count on -/
def Cw.lam (c : Cw) (T : List (Addr × Str)) : Cw := ⟨c.Ts, fun a => c.mx a ∨ ∃ q, (a, q) ∈ T, fun H => c.Bx H ∧ LamX.Tabs T H ∧ ∀ p ∈ T, p.1 ∈ lamTabs,
  fun m H H' off x h => ⟨c.st m H H' (fun a ma z => off a ma (.inl z)) x h.1, fun p hp => tabS_ext (h.2.2 p hp) (fun z => off _ z (.inr ⟨p.2, hp⟩)) x (h.2.1 p hp), h.2.2⟩⟩
theorem Reps.unlam {c : Cw} {T : List (Addr × Str)} {M : Addr → Prop} {H : Hp} : ∀ {σ : List (Option V)} {Γ : List Sl}, Reps (c.lam T) M H σ Γ → Reps c M H σ Γ
  | _, _, .nil => .nil
  | _, _, .cons (s := .any) h t => .cons trivial (Reps.unlam t)
  | _, _, .cons (s := .d _) h t => .cons (s := .d _) h (Reps.unlam t)
  | _, _, .cons (s := .r _) h t => .cons (s := .r _) h (Reps.unlam t)
  | _, _, .cons (s := .l _ _ _) h t => .cons (s := .l _ _ _) ⟨h.1, h.2.1, fun z => h.2.2.1 (.inl z), h.2.2.2⟩ (Reps.unlam t)
/-- the tables lie apart from what else may change -/
abbrev Off (c : Cw) (T : List (Addr × Str)) : Prop := ∀ H, c.Bx H → LamX.Tabs T H → ∀ p ∈ T, ¬ c.mx p.1
section
variable {X : Cx} {c : Cw} {T : List (Addr × Str)} {M : Addr → Prop} {Γ : List Sl}
theorem PV.up {e : Expr} {R : RV} (off : Off c T) (h : PV X c M Γ e R) : PV X (c.lam T) M Γ e R := h.mono fun σ H Q ⟨r, q⟩ =>
  ⟨⟨r.sl.unlam, r.tb, r.bx.1, fun a z => r.sub a (.inl z), r.al⟩, fun v H' hv x b => q v H' hv (x.mono fun _ z => .inl z) ⟨b, fun p hp => tabS_ext (r.bx.2.2 p hp) (off H r.bx.1 r.bx.2.1 p hp) x (r.bx.2.1 p hp), r.bx.2.2⟩⟩
theorem off_none {Ts : List Addr} : Off (cw0 Ts) T := fun _ _ _ _ _ z => z
theorem off_box {Ts : List Addr} {b l : Addr} : Off (cwB Ts b l) T := fun H bo t p hp z => by
  have ⟨ps, e, _⟩ := t p hp
  have ⟨ns, z', e1, e2, _⟩ := bo.ex
  rcases z with z | z
  · rw [z, e1] at e
    cases e
  · rw [z, e2] at e
    cases e
/-- how a lambda's body ends: it hands back, or it refuses -/
def tOut (W : WX) (c : Cw) (M : Addr → Prop) (Γ : List Sl) : Out → TE
  | .val d => tV c M Γ (isD M d)
  | .bad C r => fun σ H _ => Rp c M H σ Γ ∧ ∀ dx H', Ext c.mx H H' → c.Bx H' → H' dx = some (.xd [("row", .int r)]) → W (.ref C) (some dx) σ H'
theorem po_call {W : WX} {x : Str} {st : Stmt} {ps : List Str} {f : Addr} {fd : FuncData} {k : Nat} {Ts : List Addr} {R : List PyData → Out → Prop} {e : Expr} {es : List Expr} {p pos : Pos} {ds : List PyData} {o : Out} (tk : Takes X W) (D : Df X.K X.mg x st ps f fd) (G : FnOk X.prog X.w X.K X.mg X.base (L2.CX X.prog X.w) k f fd ps (spFunX Ts R)) (hr : Room k X.A) (ha : PAr X c M Γ (e :: es) (ofD ds)) (h : R ds o)
    (ts : ∀ T ∈ Ts, T ∈ c.Ts := by simp) (hg : Gl X x := by rfl) (hdb : (x == ("__debug__" : Str)) = false := by decide) (he : starEach (e :: es) X.env = (false, eval e X.env) :: starEach es X.env := by rfl) (hpl : (backTo pos (starEach es X.env)).any (·.1) = false := by rfl) : PE X (.Call (.Name x p) (e :: es) [] pos) (tOut W c M Γ o) := by
  cases o with
  | val d => exact pd_callX tk D G hr ha h ts hg hdb he hpl
  | bad C r =>
    exact (pe_callS G hr hg D.g D.F.kp D.b (fun σ => L2.passAt tk σ) ha hdb he hpl).mono fun σ H Q ⟨rp, q⟩ => ⟨rp, fun vs H1 hvs x1 b1 => by
      have r1 := rp.ext x1 b1
      exact ⟨M, ds, .bad C r, hvs.data, r1.al, fun T t => r1.tb T (ts T t), h, fun d' e => (nomatch e), fun C' r' e dx H2 x2 hd => by
        cases e
        exact q dx H2 (x1.trans x2.of0) (c.st no _ _ (fun _ z => z.elim) x2 b1) hd⟩⟩
/-- what _law_told makes of an end -/
def ToldAs (K : PySem.W.Frag) (mg : Str → Option Value) (CB : Addr) (cs : List Addr) (d : PyData) : Out → Prop
  | .val y => d = y
  | .bad C r => ∃ j, Caught K mg CB cs j ∧ C = cs.getD j 0 ∧ d = toldBad j r
theorem told_td {M : Addr → Prop} {H : Hp} {v : V} {j : Nat} {r : Int} (h : Td no H v (toldBad j r)) : Td M H v (toldBad j r) := by
  have ⟨a, vs, e, ha, all⟩ := h.tupE
  subst e
  have ⟨v1, v2, e2, t1, t2⟩ := all.two
  subst e2
  rw [t1.strE, t2.intE] at ha
  exact .tup ha (.cons (.str _) (.cons (.int _) .nil))
/-- _law_told(lambda: body) -/
theorem pd_told {CB g cc P : Addr} {cs : List Addr} {fd : FuncData} {k : Nat} {as : Arguments} {body : Expr} {sc : Scope} {d : PyData} {o : Out} {p lpos pos : Pos} (D : Df X.K X.mg "_law_told" s_law_told ["_law_work"] g fd) (hm : X.mg "isinstance" = none) (hv : X.mg "ValueError" = none) (hB : X.mg "BoxError" = some (.ref CB)) (told : ToldAs X.K X.mg CB cs d o) (B : LamX.TabB X.base X.mg cc P) (code : X.env.code = .ref cc)
    (mem : (P, X.env.qual ++ "<lambda>") ∈ T) (one : ∀ p ∈ T, p.1 = P → p.2 = X.env.qual ++ "<lambda>") (nm : P ∈ lamTabs) (off : Off c T) (hr : Room (k + 2) X.A) (L : LamX.LamS X.env.scope sc)
    (inner : ∀ (A : Around) (outer : List Env) (s : Shared) (H : Hp) (E : XK) (f c1 : Addr), Room k (A.deeper (LamX.lamEnv X sc s.heap.objs.size f c1)) → PE (LamX.lamCx X A outer s H E sc f c1) body (tOut (fun cls d _ H' => E cls d H') (c.lam T) M Γ o)) (hg : Gl X "_law_told" := by rfl) (plain : defaultsOf as X.env = ([], []) := by rfl)
    (none_ : ∀ (q : Str) (cl : List (Str × Addr)) (pm cv ct : Value), bindArgs (PySem.W.kla_fn "<lambda>" q as body sc cl pm cv ct) ⟨[], []⟩ = pure [] := by intro _ _ _ _ _; rfl) :
    PD X (c.lam T) M Γ (.Call (.Name "_law_told" p) [.Lambda as body sc lpos] [] pos) d :=
  (pe_lamb (t := fun E => tOut (fun cls d _ H' => E cls d H') (c.lam T) M Γ o) D scTold rfl (.inl rfl) (fun cdv => told_gives (cs := cs) cdv hm hv hB (by have := hr.un; omega)) B code nm hr L inner hg plain none_).mono fun σ H Q ⟨r, q⟩ => ⟨r.bx.2.1 _ mem, fun H1 x1 t1 => by
    have x1m : Ext (c.lam T).mx H H1 := x1.mono fun a z => .inr ⟨X.env.qual ++ "<lambda>", by rw [z]; exact mem⟩
    have b1 : (c.lam T).Bx H1 := ⟨c.st _ H H1 (fun a z => by rw [z]; exact off H r.bx.1 r.bx.2.1 _ mem) x1 r.bx.1, fun p hp => by
      by_cases z : p.1 = P
      · have e2 := one p hp z
        rw [z, e2]
        exact t1
      · exact tabS_ext (r.bx.2.2 p hp) z x1 (r.bx.2.1 p hp), r.bx.2.2⟩
    have r1 := r.ext x1m b1
    cases o with
    | val y =>
      have ed : d = y := told
      subst ed
      exact ⟨r1, fun v H' hv x b => q v H' hv (x1m.trans x) b⟩
    | bad C r0 =>
      have ⟨j, Cj, eC, ed⟩ := told
      subst eC ed
      exact ⟨r1, fun dx H' x b hd => ⟨j, dx, r0, Cj, rfl, rfl, hd, fun v H'' tv x2 => q v H'' (told_td tv) ((x1m.trans x).trans x2.of0) ((c.lam T).st no _ _ (fun _ z => z.elim) x2 b)⟩⟩⟩
end
/-- behind a change of one table -/
theorem lam_step {c : Cw} {T : List (Addr × Str)} {P : Addr} {q : Str} {H H1 : Hp} (off : Off c T) (mem : (P, q) ∈ T) (one : ∀ p ∈ T, p.1 = P → p.2 = q) (b : (c.lam T).Bx H) (x1 : Ext (fun a => a = P) H H1) (t1 : LamX.TabS H1 P q) : Ext (c.lam T).mx H H1 ∧ (c.lam T).Bx H1 :=
  ⟨x1.mono fun a z => .inr ⟨q, by rw [z]; exact mem⟩, c.st _ H H1 (fun a z => by rw [z]; exact off H b.1 b.2.1 _ mem) x1 b.1, fun p hp => by
    by_cases z : p.1 = P
    · have e2 := one p hp z
      rw [z, e2]
      exact t1
    · exact tabS_ext (b.2.2 p hp) z x1 (b.2.1 p hp), b.2.2⟩
end Bw
namespace Bw
open PySem PySem.Spec PyProof.Rows L2 GxR Gx RZ Nx TL
/-! ### a lambda that is called further down -/
end Bw
namespace Bw
open PySem PySem.Spec PyProof.Rows L2 GxR Gx RZ Nx TL
/-! ### _law_told(x), x a lambda that was handed in -/
end Bw
namespace Bw
open PySem PySem.Spec PyProof.Rows L2 GxR Gx RZ Nx TL
/-! ### some objects known to the object, for a while -/
/-- an object that is known, and nothing more of it -/
abbrev known (a : Addr) (o : Obj) : HO := .frz o (.ext fun h => h.get? a = some o)
def withC (H : Hp) (C : List (Addr × Obj)) : Hp := fun a => match C.lookup a with
  | some o => some (known a o)
  | none => H a
def lessC (H : Hp) (C : List (Addr × Obj)) : Hp := fun a => match C.lookup a with
  | some _ => none
  | none => H a
variable {P : Program} {w : World} {H H1 : Hp} {C : List (Addr × Obj)}
theorem withC_in {a : Addr} {o : Obj} (e : C.lookup a = some o) : withC H C a = some (known a o) := by
  unfold withC
  rw [e]
theorem withC_out {a : Addr} (e : C.lookup a = none) : withC H C a = H a := by
  unfold withC
  rw [e]
theorem lessC_in {a : Addr} {o : Obj} (e : C.lookup a = some o) : lessC H C a = none := by
  unfold lessC
  rw [e]
theorem lessC_out {a : Addr} (e : C.lookup a = none) : lessC H C a = H a := by
  unfold lessC
  rw [e]
theorem known_ok {h : Heap} {a : Addr} {o : Obj} (e : h.get? a = some o) : ObjOk P w H h a (known a o) := ⟨e, e, ⟨o, e⟩, fun h1 h2 e1 k => k o e1⟩
/-- what is known of an object with fewer, or more, about it -/
theorem obj_under {h : Heap} {a : Addr} (up : ∀ b o, (∀ z y, o ≠ HO.frz z y) → H b = some o → H1 b = some o) : ∀ o : HO, ObjOk P w H h a o → ObjOk P w H1 h a o
  | .lst _, x => x
  | .tup _, x => x
  | .dK _, x => x
  | .dT kvs, x => by
    have ⟨x1, x2, xs, x3, x4⟩ := x
    refine ⟨x1, x2, xs, ?_, x4⟩
    have step : ∀ {l1 : List (List Key × V)} {l2 : List (List Key × Addr × Value)}, Paired (fun (p : List Key × V) (q : List Key × Addr × Value) => p.1 = q.1 ∧ H q.2.1 = some (.tup (p.1.map kV)) ∧ RelV p.2 q.2.2) l1 l2 → Paired (fun (p : List Key × V) (q : List Key × Addr × Value) => p.1 = q.1 ∧ H1 q.2.1 = some (.tup (p.1.map kV)) ∧ RelV p.2 q.2.2) l1 l2 := by
      intro l1 l2 t
      induction t with
      | nil => exact .nil
      | cons h t ih => exact .cons ⟨h.1, up _ _ (fun _ _ z => by cases z) h.2.1, h.2.2⟩ ih
    exact step x3
  | .set _ _, x => x
  | .ins _ dx _, x => ⟨up _ _ (fun _ _ z => by cases z) x.1, x.2⟩
  | .own _, x => x
  | .xd _, x => x
  | .met _ _, x => x
  | .rng _ _, x => x
  | .frz _ u, x => ⟨x.1, obj_under up u x.2⟩
  | .tbl _, x => x
  | .ext _, x => x
section
variable {fs : List Addr} {h h1 : Heap}
/-- run with some objects known, told without -/
theorem un_down (off : ∀ a o, C.lookup a = some o → H a = none) (at_ : ∀ a o, C.lookup a = some o → h.get? a = some o) (ok : HOk P w H1 h1) (u : Un fs [] (withC H C) H1 h h1) : Un fs [] H (lessC H1 C) h h1 ∧ HOk P w (lessC H1 C) h1 := by
  have stays : ∀ a o, C.lookup a = some o → h1.get? a = some o := fun a o e => (ok a _ (u.frzs a _ _ (withC_in (H := H) e))).1
  have same : ∀ a o, C.lookup a = some o → ∀ z, h.get? a = some z → h1.get? a = some z := fun a o e z ez => by
    rw [at_ a o e] at ez
    rw [← ez]
    exact stays a o e
  refine ⟨⟨fun b o q n nf ne => ?_, fun b o q n f ne => ?_, fun b o q n ne => ?_, fun b o q ne => u.there b o q ne, fun b xs e => ?_, fun b o x e => ?_, fun b ps e => ?_⟩, fun a o e => ?_⟩
  · cases ec : C.lookup b with
    | some z => exact same b z ec o q
    | none => exact u.keep b o q (by rw [withC_out ec]; exact n) nf ne
  · cases ec : C.lookup b with
    | some z => exact ⟨o.slots, same b z ec o q⟩
    | none => exact u.slot b o q (by rw [withC_out ec]; exact n) f ne
  · cases ec : C.lookup b with
    | some z => exact lessC_in ec
    | none =>
      rw [lessC_out ec]
      exact u.free b o q (by rw [withC_out ec]; exact n) ne
  · cases ec : C.lookup b with
    | some z => rw [off b z ec] at e; cases e
    | none =>
      rw [lessC_out ec]
      exact u.tups b xs (by rw [withC_out ec]; exact e)
  · cases ec : C.lookup b with
    | some z => rw [off b z ec] at e; cases e
    | none =>
      rw [lessC_out ec]
      exact u.frzs b o x (by rw [withC_out ec]; exact e)
  · cases ec : C.lookup b with
    | some z => rw [off b z ec] at e; cases e
    | none =>
      rw [lessC_out ec]
      exact u.tbls b ps (by rw [withC_out ec]; exact e)
  · cases ec : C.lookup a with
    | some z => rw [lessC_in ec] at e; cases e
    | none =>
      rw [lessC_out ec] at e
      refine obj_under (fun b z nz eb => ?_) o (ok a o e)
      cases eb2 : C.lookup b with
      | some y =>
        have := u.frzs b _ _ (withC_in (H := H) eb2)
        rw [eb] at this
        exact (nz _ _ (Option.some.inj this)).elim
      | none => rw [lessC_out eb2]; exact eb
/-- run without some objects, told with them known -/
theorem un_up (off : ∀ a o, C.lookup a = some o → H a = none) (at_ : ∀ a o, C.lookup a = some o → h.get? a = some o) (nf : ∀ a o, C.lookup a = some o → a ∉ fs) (ok : HOk P w H1 h1) (u : Un fs [] H H1 h h1) : Un fs [] (withC H C) (withC H1 C) h h1 ∧ HOk P w (withC H1 C) h1 := by
  have ne0 : ∀ b : Addr, b ∉ ([] : List Addr) := fun b z => by cases z
  have out : ∀ b o, withC H C b = some o → (∀ z, o ≠ known b z) → C.lookup b = none := fun b o e nz => by
    cases ec : C.lookup b with
    | some z => rw [withC_in ec] at e; exact (nz z (Option.some.inj e).symm).elim
    | none => rfl
  have gone : ∀ b, withC H C b = none → C.lookup b = none := fun b e => by
    cases ec : C.lookup b with
    | some z => rw [withC_in ec] at e; cases e
    | none => rfl
  refine ⟨⟨fun b o q n nf ne => ?_, fun b o q n f ne => ?_, fun b o q n ne => ?_, fun b o q ne => u.there b o q ne, fun b xs e => ?_, fun b o x e => ?_, fun b ps e => ?_⟩, fun a o e => ?_⟩
  · have ec := gone b n
    rw [withC_out ec] at n
    exact u.keep b o q n nf ne
  · have ec := gone b n
    rw [withC_out ec] at n
    exact u.slot b o q n f ne
  · have ec := gone b n
    rw [withC_out ec] at n ⊢
    exact u.free b o q n ne
  · have ec := out b _ e fun z y => by cases y
    rw [withC_out ec] at e ⊢
    exact u.tups b xs e
  · cases ec : C.lookup b with
    | some z =>
      rw [withC_in ec] at e ⊢
      exact e
    | none =>
      rw [withC_out ec] at e ⊢
      exact u.frzs b o x e
  · have ec := out b _ e fun z y => by cases y
    rw [withC_out ec] at e ⊢
    exact u.tbls b ps e
  · cases ec : C.lookup a with
    | some z =>
      rw [withC_in ec] at e
      rw [← Option.some.inj e]
      exact known_ok (u.keep a z (at_ a z ec) (off a z ec) (nf a z ec) (ne0 a))
    | none =>
      rw [withC_out ec] at e
      refine obj_under (fun b z nz eb => ?_) o (ok a o e)
      cases eb2 : C.lookup b with
      | some y => rw [u.free b y (at_ b y eb2) (off b y eb2) (ne0 b)] at eb; cases eb
      | none => rw [withC_out eb2]; exact eb
end
end Bw
namespace Bw
open PySem PySem.Spec PyProof.Rows L2 GxR Gx RZ Nx TL
/-! ### a closure that is known by its object and its cells -/
variable {P : Program} {w : World} {H H1 : Hp} {C : List (Addr × Obj)}
/-- the same of a refusal -/
theorem ub_up {fs : List Addr} {h B h1 : Heap} {a : Addr} (off : ∀ a o, C.lookup a = some o → H a = none) (at_ : ∀ a o, C.lookup a = some o → h.get? a = some o) (nf : ∀ a o, C.lookup a = some o → a ∉ fs) (ok : HOk P w H1 B) (u : UB fs H H1 h B h1) (na : H1 a = none) (nb : B.get? a = none) : UB fs (withC H C) (withC H1 C) h B h1 ∧ HOk P w (withC H1 C) B ∧ withC H1 C a = none := by
  have out : ∀ b o, withC H C b = some o → (∀ z, o ≠ known b z) → C.lookup b = none := fun b o e nz => by
    cases ec : C.lookup b with
    | some z => rw [withC_in ec] at e; exact (nz z (Option.some.inj e).symm).elim
    | none => rfl
  have gone : ∀ b, withC H C b = none → C.lookup b = none := fun b e => by
    cases ec : C.lookup b with
    | some z => rw [withC_in ec] at e; cases e
    | none => rfl
  have stays : ∀ b z, C.lookup b = some z → B.get? b = some z := fun b z e => u.keep b z (at_ b z e) (off b z e) (nf b z e)
  refine ⟨⟨fun b o q n nf => ?_, u.slot, fun b o q n => ?_, u.there, fun b xs e => ?_, fun b o x e => ?_, fun b ps e => ?_⟩, fun b o e => ?_, ?_⟩
  · have ec := gone b n
    rw [withC_out ec] at n
    exact u.keep b o q n nf
  · have ec := gone b n
    rw [withC_out ec] at n ⊢
    exact u.free b o q n
  · have ec := out b _ e fun z y => by cases y
    rw [withC_out ec] at e ⊢
    exact u.tups b xs e
  · cases ec : C.lookup b with
    | some z =>
      rw [withC_in ec] at e ⊢
      exact e
    | none =>
      rw [withC_out ec] at e ⊢
      exact u.frzs b o x e
  · have ec := out b _ e fun z y => by cases y
    rw [withC_out ec] at e ⊢
    exact u.tbls b ps e
  · cases ec : C.lookup b with
    | some z =>
      rw [withC_in ec] at e
      rw [← Option.some.inj e]
      exact known_ok (stays b z ec)
    | none =>
      rw [withC_out ec] at e
      refine obj_under (fun b z nz eb => ?_) o (ok b o e)
      cases eb2 : C.lookup b with
      | some y => rw [u.free b y (at_ b y eb2) (off b y eb2)] at eb; cases eb
      | none => rw [withC_out eb2]; exact eb
  · cases ec : C.lookup a with
    | some z => rw [stays a z ec] at nb; cases nb
    | none => rw [withC_out ec]; exact na
/-- the context of a closure's body -/
abbrev cloEnv (q : Str) (sc : Scope) (cells : List (Str × Addr)) (L f c1 : Addr) : Env := PySem.W.envX q sc L f (.ref c1) cells
def cloCx (Z : Cx) (N : List Str) (q : Str) (sc : Scope) (cells : List (Str × Addr)) (A : Around) (outer : List Env) (s : Shared) (H : Hp) (E : XK) (f c1 : Addr) : Cx :=
  { prog := Z.prog, w := Z.w, K := Z.K, mg := Z.mg, base := Z.base, A := A.deeper (cloEnv q sc cells s.heap.objs.size f c1), N := N, s_0 := s, H_0 := H, env := cloEnv q sc cells s.heap.objs.size f c1, outer := outer
    stack := cloEnv q sc cells s.heap.objs.size f c1 :: outer, ex := [], fn := fun _ => false, calm := true, pn := []
    xe := fun e s' => wpAny (model Z.prog Z.w) (A.deeper (cloEnv q sc cells s.heap.objs.size f c1)) (leaving (cloEnv q sc cells s.heap.objs.size f c1) e) (fun _ t => L2.CX Z.prog Z.w outer H s E e t) (fun e' t => L2.CX Z.prog Z.w outer H s E e' t) s' }
/-- what must be so of a closure's scope and cells -/
structure CloOk (N : List Str) (sc : Scope) (cells : List (Str × Addr)) (C : List (Addr × Obj)) (σ : L2.St) : Prop where
  kind : sc.kind = .function
  co : sc.isCoroutine = false
  gen : sc.isGenerator = false
  noCell : ∀ y, sc.names.lookup y ≠ some .cell
  inj : ∀ y z c, cells.lookup y = some c → cells.lookup z = some c → y = z
  has : ∀ y, sc.names.lookup y = some .free → ∃ c, cells.lookup y = some c
  free : ∀ y c, cells.lookup y = some c → ∃ o u, C.lookup c = some o ∧ o.data = .cell u
  len : σ.length = N.length
  var : ∀ (i : Nat) (y : Str) (v : V), N[i]? = some y → σ[i]? = some (some v) → Vis sc y → sc.names.lookup y = some .free ∧ ∀ c, cells.lookup y = some c → ∃ o u, C.lookup c = some o ∧ o.data = .cell (some u) ∧ RelV v u
theorem clo_start {Z : Cx} {N : List Str} {q : Str} {sc : Scope} {cells : List (Str × Addr)} {A : Around} {outer : List Env} {s : Shared} {H : Hp} {E : XK} {f c1 : Addr} {σ : L2.St} {h1 : Heap} {tk : Nat} {m : Str → Option Value} (ok : CloOk N sc cells C σ) (e0 : Env0 Z.prog Z.w Z.K Z.mg Z.base A outer s H) (hd : A.handled = none)
    (off : ∀ a o, C.lookup a = some o → H a = none) (at_ : ∀ a o, C.lookup a = some o → s.heap.get? a = some o) (ns : h1.Ns s.heap.objs.size m) (keeps : ∀ b o, s.heap.get? b = some o → h1.get? b = some o) : Inv (cloCx Z N q sc cells A outer s H E f c1) [] σ H { s with heap := h1, toks := tk } := by
  have none_ : ∀ b : Addr, b ∉ (cloCx Z N q sc cells A outer s H E f c1).ex := fun b z => nomatch (show b ∈ ([] : List Addr) from z)
  have cel : ∀ {c : Addr} {o : Obj} {u : Option Value}, C.lookup c = some o → o.data = .cell u → h1.IsCell c u := fun {c o u} e d => ⟨o, keeps _ _ (at_ _ _ e), d⟩
  have isOk : (cloCx Z N q sc cells A outer s H E f c1).Ok := {
    mod := e0.mod, kind := ok.kind, glob := rfl, blt := rfl, above := Nat.le_refl _, inj := ok.inj
    has := fun y hy => hy.elim (fun z => absurd z (ok.noCell y)) (ok.has y)
    cab := fun y c z => nomatch (show false = true from z)
    hd := fun _ => hd, frames := Around.frames_deeper e0.frames, stk := .inr ⟨rfl, rfl⟩, exf := fun b z => absurd z (none_ b), bs := e0.bs, bsz := e0.bsz, noex := fun b _ _ => none_ b, exfs := fun b z => absurd z (none_ b), funs := e0.funs, frf := e0.frf }
  exact {
    ok := isOk, os := rfl, bare := e0.bare, base := Un.kept keeps
    loc := ⟨m, ns, fun i y v e1 e2 vis => by
      have ⟨fr, cs⟩ := ok.var i y v e1 e2 vis
      have ⟨c, ec⟩ := ok.has y fr
      have ⟨o, u, eo, d, r⟩ := cs c ec
      exact ⟨u, r, .inr ⟨.inr fr, c, ec, cel eo d⟩⟩⟩
    cell := fun y c e => by
      have ⟨o, u, eo, d⟩ := ok.free y c e
      exact ⟨_, cel eo d⟩
    free := e0.hok.fresh (Nat.le_refl _)
    freeC := fun y c e => by
      have ⟨o, u, eo, _⟩ := ok.free y c e
      exact off c o eo
    pin := fun p hp => nomatch (show p ∈ ([] : List (Addr × Obj)) from hp)
    hok := e0.hok.kept keeps, len := ok.len }
end Bw
namespace Bw
open PySem PySem.Spec PyProof.Rows L2 GxR Gx RZ Nx TL
/-! ### a known closure, called -/
/-- none of these is held -/
abbrev offC (H : Hp) (C : List (Addr × Obj)) : Prop := ∀ a o, C.lookup a = some o → H a = none
end Bw
namespace Bw
open PySem PySem.Spec PyProof.Rows L2 GxR Gx RZ Nx TL
/-! ### _law_told(x), x a known closure -/
end Bw
namespace Bw
open PySem PySem.Spec PyProof.Rows L2 GxR Gx RZ Nx TL
/-! ### known objects, seen by the data -/
mutual
theorem Td.under {M : Addr → Prop} {H H1 : Hp} (up : ∀ a o, (∀ z y, o ≠ HO.frz z y) → H a = some o → H1 a = some o) : ∀ {v : V} {d : PyData}, Td M H v d → Td M H1 v d
  | _, _, .non => .non
  | _, _, .bl b => .bl b
  | _, _, .int i => .int i
  | _, _, .str s => .str s
  | _, _, .tup h all => .tup (up _ _ (fun _ _ z => by cases z) h) (TdAll.under up all)
  | _, _, .lst n h all => .lst n (up _ _ (fun _ _ z => by cases z) h) (TdAll.under up all)
theorem TdAll.under {M : Addr → Prop} {H H1 : Hp} (up : ∀ a o, (∀ z y, o ≠ HO.frz z y) → H a = some o → H1 a = some o) : ∀ {vs : List V} {ds : List PyData}, TdAll M H vs ds → TdAll M H1 vs ds
  | _, _, .nil => .nil
  | _, _, .cons h t => .cons (Td.under up h) (TdAll.under up t)
end
variable {H H1 : Hp} {C : List (Addr × Obj)}
/-- these are known -/
abbrev knowsC (H : Hp) (C : List (Addr × Obj)) : Prop := ∀ a o, C.lookup a = some o → H a = some (known a o)
theorem up_less (kn : knowsC H C) : ∀ a o, (∀ z y, o ≠ HO.frz z y) → H a = some o → lessC H C a = some o := fun a o nz e => by
  cases ec : C.lookup a with
  | some z => rw [kn a z ec] at e; exact (nz _ _ (Option.some.inj e).symm).elim
  | none => rw [lessC_out ec]; exact e
theorem up_with (off : offC H C) : ∀ a o, H a = some o → withC H C a = some o := fun a o e => by
  cases ec : C.lookup a with
  | some z => rw [off a z ec] at e; cases e
  | none => rw [withC_out ec]; exact e
theorem knows_with : knowsC (withC H C) C := fun _ _ e => withC_in e
theorem tab_less {P : Addr} (kn : knowsC H C) (t : TabG H P) : TabG (lessC H C) P := by
  have ⟨⟨ps, e, tri⟩, out⟩ := t
  exact ⟨⟨ps, up_less kn _ _ (fun _ _ z => by cases z) e, tri⟩, out⟩
/-- behind a stretch without them, with them again -/
theorem ext_with {m : Addr → Prop} (kn : knowsC H C) (off : offC H1 C) (x : Ext m (lessC H C) H1) : Ext m H (withC H1 C) := by
  refine ⟨fun a xs e => up_with off _ _ (x.tup a xs (up_less kn _ _ (fun _ _ z => by cases z) e)), fun a o n nt e => ?_, fun T t => ?_, fun a e => ?_, fun T ps i n e => up_with off _ _ (x.lam T ps i n (up_less kn _ _ (fun _ _ z => by cases z) e)), fun a q e => up_with off _ _ (x.cod a q (up_less kn _ _ (fun _ _ z => by cases z) e))⟩
  · cases ec : C.lookup a with
    | some z =>
      rw [kn a z ec] at e
      rw [withC_in ec, e]
    | none =>
      rw [withC_out ec]
      exact x.oth a o n nt (by rw [lessC_out ec]; exact e)
  · have ⟨⟨ps, e, tri⟩, out⟩ := x.tab T (tab_less kn t)
    exact ⟨⟨ps, up_with off _ _ e, tri⟩, out⟩
  · cases ec : C.lookup a with
    | some z => rw [withC_in ec] at e; cases e
    | none =>
      rw [withC_out ec] at e
      have := x.dom a e
      rwa [lessC_out ec] at this
end Bw
namespace Bw
open PySem PySem.Spec PyProof.Rows L2 GxR Gx RZ Nx TL
/-! ### [x for x in fs if ..], fs a list of references, none of them kept -/
section
variable {X : Cx} {c : Cw} {M : Addr → Prop} {Γ : List Sl}
theorem lcNo_read {K : PySem.W.Frag} {own : List (Str × Nat)} {j i : Nat} {lw : Addr} {fs : List Addr} {te : TE} (slot : Γ[j]? = some (.r lw)) (bx : ∀ H, c.Bx H → H lw = some (.lst (fs.map V.ref))) (eo : own.map (·.2) = [i]) (any : Γ[i]? = some .any) (σ : L2.St) (H : Hp) (Q : VK)
    (h : tV c M Γ (isN M []) σ H Q) : tLc (iList K (tVar j)) (gName i) (fun σ H Q => ∃ q : (Addr → Prop) × Addr, ((∀ a, M a → q.1 a) ∧ q.2 ∈ fs) ∧ tQ c q.1 (Γ.set i (.r q.2)) false σ H Q) te (own.map (·.2)) σ H Q := by
  have ⟨r, q⟩ := h
  have ⟨o, eo1, e1⟩ := r.sl.get slot
  have e1 : o = some (.ref lw) := e1
  subst e1
  rw [eo]
  refine ⟨.ref lw, eo1, lw, rfl, ⟨_, SqL.of (bx H r.bx)⟩, fun D nD => ?_⟩
  have nmx : ¬ c.mx D := fun z => r.al D (r.sub D z) nD
  have nl : ∀ a xs k, Sl.l a xs k ∈ Γ → ¬ a = D := fun a xs k h z => r.al a (r.sl.out a xs k h).2 (by rw [z]; exact nD)
  refine ⟨fun n mm H2 => mm = fs.length - n ∧ n ≤ fs.length ∧ Rp c (plus M D) H2 σ Γ ∧ Ext c.mx H H2 ∧ H2 D = some (.lst []), ⟨_, rfl, Nat.zero_le _, r.plus nD, Ext.new nD, upd_same⟩, fun n mm H2 ⟨e2, le, r2, x2, hD⟩ => ?_⟩
  subst e2
  have at2 := bx H2 r2.bx
  by_cases last : n = fs.length
  · subst last
    exact .inl ⟨⟨_, SqL.of at2, by rw [List.length_map]; exact Nat.le_refl _⟩, q _ _ ⟨D, [], rfl, nD, hD, .nil⟩ x2 r2.bx⟩
  · have lt : n < fs.length := by omega
    have ef : (fs.map V.ref)[n]? = some (.ref fs[n]) := by rw [List.getElem?_map, List.getElem?_eq_getElem lt]; rfl
    have mf : fs[n] ∈ fs := List.getElem_mem lt
    generalize fs[n] = f at ef mf
    refine .inr ⟨⟨_, _, SqL.of at2, ef⟩, fun H' => n + 1 ≤ fs.length ∧ Rp c (plus M D) H' σ Γ ∧ Ext c.mx H H' ∧ H' D = some (.lst []), fun H' z => ⟨_, by omega, rfl, z⟩, fun x H3 ⟨eH, hx⟩ => ?_⟩
    subst eH
    have ex : x = .ref f := Option.some.inj ((hx _ (SqL.of at2)).symm.trans ef)
    subst ex
    have rw3 : Rp c (plus M D) H3 (L2.wipe σ [i]) Γ := by
      have := r2.wipe [i]
      rwa [show wipeG Γ [i] = Γ from ?_] at this
      show Γ.set i .any = Γ
      refine List.ext_getElem? fun m => ?_
      by_cases z : i = m
      · rw [← z, List.getElem?_set_self (List.getElem?_eq_some_iff.mp any).1, any]
      · rw [List.getElem?_set_ne z]
    refine ⟨?_, (plus M D, f), ⟨fun a z => .inl z, mf⟩, rw3.set (s := .r f) i rfl, fun H4 x4 b4 => ?_⟩
    · refine wipe_eq (by rw [List.length_set, wipe_length]) fun m hm => ?_
      rw [List.getElem?_set_ne fun z => hm (by rw [z]; exact List.mem_cons_self ..)]
    · show if false = true then _ else _
      simp only [if_false, Bool.false_eq_true]
      exact ⟨lt, r2.ext x4 b4, x2.trans x4, x4.lst nmx hD⟩
end
end Bw
namespace Bw
open PySem PySem.Spec PyProof.Rows L2 GxR Gx RZ Nx TL
/-! ### _law_all -/
section
variable {X : Cx} {c : Cw} {M : Addr → Prop} {Γ : List Sl}
theorem pn_lcNo {x y : Str} {scope : Scope} {own : List (Str × Nat)} {p1 p2 p3 pos : Pos} {j i : Nat} {lw : Addr} {fs : List Addr} {ifs : List Expr} {te : TE} (hc : X.calm = true) (hN : X.N.Nodup) (hj : PE X (.Name y p3) (tVar j)) (ok : BlkOk X.N X.env.scope scope own)
    (hg : ∀ (s : Shared) (H : Hp) (C : Addr) (cl : List (Str × Addr)) (fp : List Addr), PG (X.blk s H scope (compEnvC scope cl C X.env) fp) (.Name x p2) (gName i))
    (ht : ∀ (s : Shared) (H : Hp) (C : Addr) (cl : List (Str × Addr)) (fp : List Addr), ∀ M', (∀ a, M a → M' a) → ∀ f ∈ fs, PTs (X.blk s H scope (compEnvC scope cl C X.env) fp) ifs (tQ c M' (Γ.set i (.r f)) false))
    (he : ∀ (s : Shared) (H : Hp) (C : Addr) (cl : List (Str × Addr)) (fp : List Addr), PE (X.blk s H scope (compEnvC scope cl C X.env) fp) (.Name x p1) te)
    (slot : Γ[j]? = some (.r lw)) (bx : ∀ H, c.Bx H → H lw = some (.lst (fs.map V.ref))) (eo : own.map (·.2) = [i]) (any : Γ[i]? = some .any) (hs : ∀ v, foldedSetIterable (.Name y p3) X.env v = pure v := by intro _; rfl) : PN X c M Γ (.ListComp (.Name x p1) [⟨.Name x p2, .Name y p3, ifs, 0⟩] scope pos) [] :=
  (pe_lc (g := gName i) hc hN (pi_list hj) ok hg (fun s H C cl fp => PTs.ex (C := fun q : (Addr → Prop) × Addr => (∀ a, M a → q.1 a) ∧ q.2 ∈ fs) fun q hq => ht s H C cl fp q.1 hq.1 q.2 hq.2) he hs).mono fun σ H Q h => lcNo_read slot bx eo any σ H Q h
end
def spAll (c : Cw) (lw : Addr) (d : PyData) : Sp := fun vs H Q _ => ∃ (M : Addr → Prop) (v : V), vs = [.ref lw, v] ∧ Td M H v d ∧ c.Bx H ∧ (∀ T ∈ c.Ts, TabG H T) ∧ (∀ a, c.mx a → M a) ∧ (∀ a, M a → H a ≠ none) ∧ ∀ H', Ext c.mx H H' → c.Bx H' → Q (.bl true) H'
section
variable {base : Heap} {K : PySem.W.Frag} {mg : Str → Option Value} {P : Program} {w : World}
abbrev nAll : List Str := ["_law_works", "_law_due", "_law_work"]
theorem scAll : FnScope nAll ["_law_works", "_law_due"] (defScope s_law_all) := ⟨rfl, rfl, rfl, by decide +kernel, rfl, by decide +kernel, by decide +kernel⟩
theorem ok_all {f fA lw : Addr} {fd fdA : FuncData} {c : Cw} {fs : List Addr} {d : PyData} {k n : Nat} (D : Df K mg "_law_all" s_law_all ["_law_works", "_law_due"] f fd) (DA : Df K mg "_law_alike" s_alike ["_law_found", "_law_due"] fA fdA) (GA : FnOk P w K mg base CX0 n fA fdA ["_law_found", "_law_due"] (spFun [] (RAlike n))) (nk : n ≤ k) (lv : Lv n d = true) (bx : ∀ H, c.Bx H → H lw = some (.lst (fs.map V.ref)))
    (told : ∀ g ∈ fs, ∀ (Y : Cx) (M : Addr → Prop) (Γ : List Sl) (i : Nat) (p p1 pos : Pos), Y.prog = P → Y.w = w → Y.K = K → Y.mg = mg → Y.base = base → Room k Y.A → Y.N[i]? = some ("_law_work" : Str) → Vis Y.env.scope "_law_work" → Γ[i]? = some (.r g) → Gl Y "_law_told" → PD Y c M Γ (.Call (.Name "_law_told" p) [.Name "_law_work" p1] [] pos) d) : FnOk P w K mg base CX0 (k + 1) f fd ["_law_works", "_law_due"] (spAll c lw d) := by
  refine D.F.ok scAll (fun vs H Q E h => ?_) (fun cdv A outer s H vs Q E hr h => ?_)
  · have ⟨M, v, e, _⟩ := h
    rw [e]
    rfl
  have ⟨M, v, e, tv, b, tabs, sub, al, out⟩ := h
  subst e
  have hN := scAll.nd
  have hrn := hr.mono nk
  have E0 : ∀ T ∈ ([] : List Addr), T ∈ c.Ts := fun _ z => by cases z
  refine ⟨_, (?_ : HB (cxOf CX0 P w K mg base nAll "_law_all" (defScope s_law_all) f cdv A outer s H E).nox (defBody s_law_all) (As c H c.mx M [.r lw, .d d, .any]) { nx := fun _ _ => False, rt := fun v H' => v = .bl true ∧ Ext c.mx H H' ∧ c.Bx H' }), ⟨⟨.cons rfl (.cons ⟨v, rfl, tv⟩ (.cons trivial .nil)), tabs, b, sub, al⟩, Ext.refl _ _⟩, fun _ _ z => z.elim, fun u H' z => by rw [z.1]; exact out H' z.2.1 z.2.2, fun _ _ z => z.elim, fun _ _ z => z.elim⟩
  refine hb_one (hs_ret (fun _ z => z) (pd_eqD hr.units (PV.lst (pn_lcNo (te := tVar 2) (j := 0) (i := 2) (own := [("_law_work", 2)]) (lw := lw) (fs := fs) rfl hN (pv 0) (blkOk_by (N := nAll) (sc := defScope s_law_all) (by decide +kernel)) (fun _ _ _ _ _ => pg_name (i := 2) hN rfl (Or.inl rfl)) (fun s3 H3 C cl fp M' up g hg => ?_) (fun _ _ _ _ _ => pv 2) rfl bx rfl rfl)) (PV.lst (pn_lst (ds := []) ar_nil (by decide))) rfl rfl) fun u H' tu x b' => ⟨tu.blE, x, b'⟩)
  refine pts_one (show PQ _ c M' _ _ (!true) from pq_not (pq_val ?_))
  refine pd_call (ds := [d, d]) DA GA hrn ?_ ⟨d, rfl, rfl, lv⟩ E0
  exact ar_d (told g hg _ M' _ 2 _ _ _ (by rfl) (by rfl) (by rfl) (by rfl) (by rfl) (by exact hr) (by rfl) (by exact .inl rfl) (by rfl) (by rfl)) (ar_d (pd_var 1 (pv 1) rfl) ar_nil)
end
end Bw
namespace Bw
open PySem PySem.Spec PyProof.Rows L2 GxR Gx RZ Nx TL
/-! ### the cells of a lambda that was just made -/
/-- a lambda's scope, within N's -/
structure LamF (N : List Str) (top sc : Scope) : Prop where
  kind : sc.kind = .function
  co : sc.isCoroutine = false
  gen : sc.isGenerator = false
  noCell : ∀ y ∈ sc.names, y.2 ≠ .cell
  loc : ∀ y ∈ sc.names, y.2 = .local → y.1 ∉ N
  free : ∀ y ∈ sc.names, y.2 = .free → top.names.lookup y.1 = some .cell ∨ top.names.lookup y.1 = some .free
def lamFB (N : List Str) (top sc : Scope) : Bool :=
  decide (sc.kind = .function) && (!sc.isCoroutine && (!sc.isGenerator && sc.names.all fun y => !decide (y.2 = .cell) && ((!decide (y.2 = .local) || !decide (y.1 ∈ N)) && (!decide (y.2 = .free) || (decide (top.names.lookup y.1 = some .cell) || decide (top.names.lookup y.1 = some .free))))))
theorem lamF_by {N : List Str} {top sc : Scope} (h : lamFB N top sc = true) : LamF N top sc := by
  unfold lamFB at h
  rw [Bool.and_eq_true, Bool.and_eq_true, Bool.and_eq_true, decide_eq_true_eq, Bool.not_eq_true', Bool.not_eq_true', List.all_eq_true] at h
  have ⟨h1, h2, h3, h4⟩ := h
  have each : ∀ y ∈ sc.names, y.2 ≠ .cell ∧ (y.2 = .local → y.1 ∉ N) ∧ (y.2 = .free → top.names.lookup y.1 = some .cell ∨ top.names.lookup y.1 = some .free) := fun y hy => by
    have z := h4 y hy
    rw [Bool.and_eq_true, Bool.and_eq_true, Bool.or_eq_true, Bool.or_eq_true, Bool.or_eq_true, Bool.not_eq_true', Bool.not_eq_true', Bool.not_eq_true', Bool.not_eq_true', decide_eq_false_iff_not, decide_eq_false_iff_not, decide_eq_false_iff_not, decide_eq_false_iff_not, decide_eq_true_eq, decide_eq_true_eq] at z
    exact ⟨z.1, fun e => z.2.1.resolve_left fun n => n e, fun e => z.2.2.resolve_left fun n => n e⟩
  exact ⟨h1, h2, h3, fun y hy => (each y hy).1, fun y hy => (each y hy).2.1, fun y hy => (each y hy).2.2⟩
section
variable {X : Cx} {H : Hp} {s : Shared} {pins : List (Addr × Obj)} {σ : L2.St}
/-- what is so of objects that are to be known for a while, in X at s -/
def Idle (X : Cx) (H : Hp) (s : Shared) (C : List (Addr × Obj)) : Prop := ∀ a o, C.lookup a = some o → s.heap.get? a = some o ∧ H a = none ∧ X.base.get? a = none ∧ a ∉ frs X.stack
theorem cell_idle (I : Inv X pins σ H s) (fnT : ∀ y, X.fn y = true) {y : Str} {c : Addr} (e : X.env.cells.lookup y = some c) : ∃ o u, s.heap.get? c = some o ∧ o.data = .cell u ∧ H c = none ∧ X.base.get? c = none ∧ c ∉ frs X.stack := by
  have ⟨u, o, ho, hd⟩ := I.cell y c e
  have ge := I.ok.cab y c (fnT y) e
  refine ⟨o, u, ho, hd, I.freeC y c e, ?_, fun z => ?_⟩
  · cases eb : X.base.get? c with
    | none => rfl
    | some b => exact absurd (Nat.lt_of_lt_of_le (Heap.lt_size eb) (Nat.le_trans I.ok.bsz ge)) (Nat.lt_irrefl _)
  · have old : ∀ b ∈ X.fs, b ≠ c := fun b hb eb => by
      have ⟨_, ob, hob, _⟩ := I.ok.funs.mem hb
      rw [eb] at hob
      exact absurd (Nat.lt_of_lt_of_le (Heap.lt_size hob) ge) (Nat.lt_irrefl _)
    rcases I.ok.stk with es | ⟨es, ef⟩
    · rw [es] at z
      exact old c z rfl
    · rw [es] at z
      have z : c ∈ (X.env :: X.outer).filterMap (·.frame) := z
      rw [List.filterMap_cons_some ef] at z
      rcases List.mem_cons.mp z with here | there
      · exact I.cne y c e here
      · exact old c there rfl
/-- all cells of some names -/
theorem cells_idle (I : Inv X pins σ H s) (fnT : ∀ y, X.fn y = true) : ∀ l : List (Str × Addr), (∀ p ∈ l, ∃ y, X.env.cells.lookup y = some p.2) → ∃ C : List (Addr × Obj), (∀ p ∈ l, ∃ o, C.lookup p.2 = some o) ∧ Idle X H s C ∧ ∀ a o, C.lookup a = some o → ∃ u, o.data = .cell u
  | [], _ => ⟨[], fun _ z => (by cases z), fun _ _ e => (by cases e), fun _ _ e => (by cases e)⟩
  | p :: l, h => by
    have ⟨C, h1, h2, h3⟩ := cells_idle I fnT l fun z hz => h z (List.mem_cons_of_mem _ hz)
    have ⟨y, ey⟩ := h p (List.mem_cons_self ..)
    have ⟨o, u, ho, hd, hn, hb, hs⟩ := cell_idle I fnT ey
    have look : ∀ a z, ((p.2, o) :: C).lookup a = some z → (a = p.2 ∧ z = o) ∨ C.lookup a = some z := fun a z e => by
      rw [List.lookup_cons] at e
      by_cases k : (a == p.2) = true
      · rw [k] at e
        exact .inl ⟨eq_of_beq k, (Option.some.inj e).symm⟩
      · rw [Bool.eq_false_iff.mpr k] at e
        exact .inr e
    refine ⟨(p.2, o) :: C, fun z hz => ?_, fun a z e => ?_, fun a z e => ?_⟩
    · by_cases k : z.2 = p.2
      · exact ⟨o, by rw [k, List.lookup_cons, beq_self_eq_true]⟩
      · rcases List.mem_cons.mp hz with here | there
        · exact (k (by rw [here])).elim
        · have ⟨o2, e2⟩ := h1 z there
          exact ⟨o2, by rw [List.lookup_cons, beq_eq_false_iff_ne.mpr k]; exact e2⟩
    · rcases look a z e with ⟨ea, ez⟩ | old
      · rw [ea, ez]
        exact ⟨ho, hn, hb, hs⟩
      · exact h2 a z old
    · rcases look a z e with ⟨ea, ez⟩ | old
      · rw [ez]
        exact ⟨u, hd⟩
      · exact h3 a z old
end
end Bw
namespace Bw
open PySem PySem.Spec PyProof.Rows L2 GxR Gx RZ Nx TL
/-! ### into a def with some objects known, and out again -/
section
variable {X : Cx} {H : Hp} {s : Shared} {pins : List (Addr × Obj)} {σ : L2.St} {C : List (Addr × Obj)}
theorem env_known (I : Inv X pins σ H s) (idle : Idle X H s C) : Env0 X.prog X.w X.K X.mg X.base X.A X.stack s (withC H C) := by
  have J := I.env0
  refine ⟨J.frames, J.mod, fun b o e => ⟨(J.bs b o e).1, ?_⟩, J.bsz, J.funs, fun b hb => ?_, fun a o e => ?_, J.bare⟩
  · cases ec : C.lookup b with
    | some z => rw [(idle b z ec).2.2.1] at e; cases e
    | none => rw [withC_out ec]; exact (J.bs b o e).2
  · cases ec : C.lookup b with
    | some z => exact ((idle b z ec).2.2.2 hb).elim
    | none => rw [withC_out ec]; exact J.frf b hb
  · cases ec : C.lookup a with
    | some z =>
      rw [withC_in ec] at e
      rw [← Option.some.inj e]
      exact known_ok (idle a z ec).1
    | none =>
      rw [withC_out ec] at e
      exact obj_under (fun b z _ eb => up_with (fun x y ex => (idle x y ex).2.1) b z eb) o (J.hok a o e)
theorem go_known {k : Nat} {g : Addr} {fd : FuncData} {ps : List Str} {sp : Sp} {us : List Value} {vs : List V} {Q : VK} (I : Inv X pins σ H s) (idle : Idle X H s C) (G : FnOk X.prog X.w X.K X.mg X.base CX0 k g fd ps sp) (hr : Room k X.A) (hb : BindsTo s fd ⟨us, []⟩ (ps.zip us)) (r : Vals vs us) (h : sp vs (withC H C) (fun v H' => Q v (lessC H' C)) E0) :
    codeAny (model X.prog X.w) X.A (.call (.ref g) ⟨us, []⟩) (CR CX0 X.stack X.prog X.w H s Q E0) s :=
  codeAny_mono (G.run X.A X.stack s (withC H C) _ us vs _ E0 hr (env_known I idle) hb r h) fun res s2 hq => by
    cases res with
    | error e => exact hq
    | ok fl =>
      cases fl with
      | ret u =>
        have ⟨v, H3, os, ag, un, ok, rv, q⟩ := hq
        have ⟨y1, y2⟩ := un_down (fun a o e => (idle a o e).2.1) (fun a o e => (idle a o e).1) ok un
        exact ⟨v, _, os, ag, y1, y2, rv, q⟩
      | next => exact hq
      | brk => exact hq
      | cont => exact hq
end
end Bw
namespace Bw
open PySem PySem.Spec PyProof.Rows L2 GxR Gx RZ Nx TL
/-! ### what _law_all may count on -/
variable {H H1 : Hp} {C : List (Addr × Obj)}
theorem less_with (off : offC H C) : lessC (withC H C) C = H := funext fun a => by
  cases ec : C.lookup a with
  | some o => rw [lessC_in ec, off a o ec]
  | none => rw [lessC_out ec, withC_out ec]
theorem ext_less {m : Addr → Prop} (kn : knowsC H C) (x : Ext m H H1) : Ext m (lessC H C) (lessC H1 C) := by
  have part : ∀ a o, lessC H C a = some o → C.lookup a = none ∧ H a = some o := fun a o e => by
    cases ec : C.lookup a with
    | some z => rw [lessC_in ec] at e; cases e
    | none => rw [lessC_out ec] at e; exact ⟨rfl, e⟩
  refine ⟨fun a xs e => ?_, fun a o n t e => ?_, fun T t => ?_, fun a e => ?_, fun T ps i n e => ?_, fun a q e => ?_⟩
  · have ⟨z, e⟩ := part a _ e
    rw [lessC_out z]
    exact x.tup a xs e
  · have ⟨z, e⟩ := part a _ e
    rw [lessC_out z]
    exact x.oth a o n t e
  · have ⟨⟨ps, e, tri⟩, out⟩ := t
    have ⟨z, e⟩ := part T _ e
    have ⟨⟨qs, e2, tri2⟩, out2⟩ := x.tab T ⟨⟨ps, e, tri⟩, out⟩
    exact ⟨⟨qs, by rw [lessC_out z]; exact e2, tri2⟩, out2⟩
  · cases ec : C.lookup a with
    | some z => exact lessC_in ec
    | none =>
      rw [lessC_out ec] at e ⊢
      exact x.dom a e
  · have ⟨z, e⟩ := part T _ e
    rw [lessC_out z]
    exact x.lam T ps i n e
  · have ⟨z, e⟩ := part a _ e
    rw [lessC_out z]
    exact x.cod a q e
theorem only_td {M M' : Addr → Prop} {v : V} {d : PyData} (only : onlyT d = true) (t : Td M H v d) : Td M' H v d := (t.tp only).td
end Bw
namespace Bw
open PySem PySem.Spec PyProof.Rows L2 GxR Gx RZ Nx TL
/-! ### _law_all([lambda: ..], due) -/
end Bw
namespace Bw
open PySem PySem.Spec PyProof.Rows L2 GxR Gx RZ Nx TL
/-! ### a lambda that is made and known from there on -/
abbrev cloObj (q : Str) (as : Arguments) (body : Expr) (sc : Scope) (cells : List (Str × Addr)) (dV doc pm : Value) (c1 : Addr) (ct : Value) : Obj := PySem.W.kdv_obj "<lambda>" q as (.expr body) sc cells dV doc pm c1 ct
theorem LamF.hasF {X : Cx} {sc : Scope} (L : LamF X.N X.env.scope sc) (ok : X.Ok) : ∀ y ∈ sc.names, y.2 = .free → ∃ c, X.env.cells.lookup y.1 = some c := fun y hy e => by
  rcases L.free y hy e with own | far
  · exact ok.has _ (.inl own)
  · exact ok.has _ (.inr far)
section
variable {X : Cx} {s : Shared} {H : Hp} {σ : L2.St} {pins : List (Addr × Obj)}
theorem lamK_tail {c P : Addr} {as : Arguments} {body : Expr} {sc : Scope} {pos : Pos} {n : Nat} {dV : Value} {E Q : Value → Shared → Prop} (I : Inv X pins σ H s) (B : LamX.TabB X.base X.mg c P) (code : X.env.code = .ref c) (nm : P ∈ lamTabs) (T : LamX.TabS H P (X.env.qual ++ "<lambda>")) (has : ∀ y ∈ sc.names, y.2 = .free → ∃ c, X.env.cells.lookup y.1 = some c)
    (next : ∀ (f c1 : Addr) (doc pm ct : Value) (H1 : Hp) (s1 : Shared), Inv X pins σ (upd H1 f (known f (cloObj (X.env.qual ++ "<lambda>") as body sc (cloFrom X.env.cells sc.names []) dV doc pm c1 ct))) s1 → Ext (fun a => a = P) H H1 → LamX.TabS H1 P (X.env.qual ++ "<lambda>") → H1 f = none → H1 c1 = some (LamX.CodeO c1 (X.env.qual ++ "<lambda>")) → Q (.ref f) s1) :
    wpAny (model X.prog X.w) X.A (makeTail "<lambda>" (X.env.qual ++ "<lambda>") as (.expr body) sc X.env dV .none none pos n) Q E s := by
  have ⟨ps, hP, tri, among⟩ := T
  have atP : s.heap.get? P = some { cls := .none, data := .fields ps } := I.hok P _ hP
  have bP := B.bm.keeps I.bk
  cases e : codeAmong pos ps.toList with
  | some cv =>
    have ⟨c1, e1, h1⟩ := among pos cv e
    subst e1
    refine PySem.W.kdv_makeTailHit (mg := X.mg) (c := c) (P := P) (ps := ps) (closure_ok has) I.ok.glob (I.mod.glob.keeps I.bk) code (B.code.keeps I.bk) atP tri e bP fun ct doc hn tk keep le => ?_
    have J : Inv X pins σ H { s with heap := hn, toks := tk } := I.kept keep
    exact next hn.objs.size c1 doc _ ct H _ (J.laid (t' := tk) (fun b u z => Heap.get?_push_of_some _ z) (Nat.le_refl _) (known_ok (Heap.get?_push_size _ rfl))) (Ext.refl _ _) T (J.hok.fresh (Nat.le_refl _)) h1
  | none =>
    refine PySem.W.kdv_makeTail (mg := X.mg) (c := c) (P := P) (ps := ps) (closure_ok has) I.ok.glob (I.mod.glob.keeps I.bk) code (B.code.keeps I.bk) atP tri e B.gP bP fun c1 ct doc hn tk ext ge lt rec_ tab => ?_
    have ⟨c2, oc, vs, t, e2, hoc, hd, hv⟩ := rec_
    cases e2
    have nC : H c1 = none := I.hok.fresh ge
    have apart : P ≠ c1 := ne_of_none hP nC
    have J := LamX.inv_table (t' := tk) (more := #[rawInt pos.line, rawInt pos.col, .ref c1]) (h' := hn) I hP ext tab ge ⟨oc, vs, t, hoc, hd, hv⟩
    have x : Ext (fun a => a = P) H (upd (upd H P (.tbl (ps ++ #[rawInt pos.line, rawInt pos.col, .ref c1]))) c1 (LamX.CodeO c1 (X.env.qual ++ "<lambda>"))) := (ext_table hP nm).trans (Ext.new (by rw [upd_ne apart.symm]; exact nC))
    have eq : (ps ++ #[rawInt pos.line, rawInt pos.col, .ref c1]).toList = ps.toList ++ [rawInt pos.line, rawInt pos.col, .ref c1] := by simp
    refine next hn.objs.size c1 doc _ ct _ _ (J.laid (t' := tk) (fun b u z => Heap.get?_push_of_some _ z) (Nat.le_refl _) (known_ok (Heap.get?_push_size _ rfl))) x ⟨_, by rw [upd_ne apart, upd_same], by rw [eq]; exact PySem.TriplesOk_snoc _ _ _ _ tri, fun p cv z => ?_⟩ (J.hok.fresh (Nat.le_refl _)) upd_same
    rw [eq] at z
    rcases LamX.among_app _ tri z with y | y
    · have ⟨c0, e0, h0⟩ := among p cv y
      exact ⟨c0, e0, x.cod _ _ h0⟩
    · exact ⟨c1, y, upd_same⟩
/-- what a closure's defaults may be: none, or a tuple of one nought -/
inductive DfltAt (H : Hp) : Bool → Value → Prop where
  | non : DfltAt H false .none
  | tup (td : Addr) (h : H td = some (.tup [.int 0])) : DfltAt H true (.ref td)
theorem DfltAt.ext {m : Addr → Prop} {H H' : Hp} {b : Bool} {d : Value} (h : DfltAt H b d) (x : Ext m H H') : DfltAt H' b d := by
  cases h with
  | non => exact .non
  | tup td h => exact .tup td (x.tup _ _ h)
/-- a lambda: its text, and whether it has a param with a default -/
structure CloSp where
  q : Str
  as : Arguments
  body : Expr
  sc : Scope
  df : Bool
/-- such a closure lies at f, with these cells -/
def CloAt (H : Hp) (f : Addr) (sp : CloSp) (cells : List (Str × Addr)) : Prop := ∃ (c1 : Addr) (dV doc pm ct : Value), DfltAt H sp.df dV ∧ H c1 = some (LamX.CodeO c1 sp.q) ∧ H f = some (known f (cloObj sp.q sp.as sp.body sp.sc cells dV doc pm c1 ct))
theorem CloAt.ext {m : Addr → Prop} {H H' : Hp} {f : Addr} {sp : CloSp} {cells : List (Str × Addr)} (h : CloAt H f sp cells) (x : Ext m H H') (n : ¬ m f) : CloAt H' f sp cells :=
  have ⟨c1, dV, doc, pm, ct, d, hc, hf⟩ := h
  ⟨c1, dV, doc, pm, ct, d.ext x, x.cod _ _ hc, x.oth f _ n (fun _ z => by cases z) hf⟩
/-- a lambda as an expression: it is known from there on -/
def tLamK (P : Addr) (sp : CloSp) (cells : List (Str × Addr)) : TE := fun _ H Q => LamX.TabS H P sp.q ∧ ∀ (f : Addr) (H1 : Hp), Ext (fun a => a = P) H H1 → LamX.TabS H1 P sp.q → H f = none → CloAt H1 f sp cells → Q (.ref f) H1
section
theorem pe_lam0 {c P : Addr} {as : Arguments} {body : Expr} {sc : Scope} {pos : Pos} (B : LamX.TabB X.base X.mg c P) (code : X.env.code = .ref c) (nm : P ∈ lamTabs) (L : LamX.LamS X.env.scope sc) (plain : defaultsOf as X.env = ([], []) := by rfl) : PE X (.Lambda as body sc pos) (tLamK P ⟨X.env.qual ++ "<lambda>", as, body, sc, false⟩ (cloFrom X.env.cells sc.names [])) := by
  refine ⟨fun pins s σ H Q I ⟨T, next⟩ => PySem.W.kla_eval plain ?_⟩
  rw [makeFunction_eq]
  simp only [pure_bind, if_true, List.isEmpty_nil, List.filterMap_nil, List.zip_nil_right]
  exact lamK_tail I B code nm T (L.has I.ok) fun f c1 doc pm ct H1 s1 I1 x1 t1 nf hc => by
    have xn : Ext no H1 (upd H1 f (known f (cloObj (X.env.qual ++ "<lambda>") as body sc (cloFrom X.env.cells sc.names []) .none doc pm c1 ct))) := Ext.new nf
    exact ⟨.ref f, _, I1, rfl, next f _ (x1.trans xn.of0) (tabS_ext nm (fun z => z) xn t1) (x1.dom f nf) ⟨c1, .none, doc, pm, ct, .non, xn.cod _ _ hc, upd_same⟩⟩
theorem pe_lam1 {c P : Addr} {as : Arguments} {body : Expr} {sc : Scope} {pos p0 : Pos} {j : Nat} (B : LamX.TabB X.base X.mg c P) (code : X.env.code = .ref c) (nm : P ∈ lamTabs) (L : LamF X.N X.env.scope sc) (df : as.defaults = [.Constant (.int 0) j p0] := by rfl) (kw : as.kw_defaults = [] := by rfl) : PE X (.Lambda as body sc pos) (tLamK P ⟨X.env.qual ++ "<lambda>", as, body, sc, true⟩ (cloFrom X.env.cells sc.names [])) := by
  refine ⟨fun pins s σ H Q I ⟨T, next⟩ => PySem.W.kdv_lam (by rw [df]; rfl) kw ?_⟩
  rw [df]
  refine PySem.W.kdv_all1 (thn ((pe_int (X := X) (i := 0) (j := j) (pos := p0)).run pins s σ H (fun v H1 => v = .int 0 ∧ H1 = H) I ⟨rfl, rfl⟩) fun u s1 ⟨v, H1, I1, rv, ev, eH⟩ => PySem.W.kdv_all0 ?_)
  subst ev
  rw [eH] at I1
  rw [makeFunction_eq]
  simp only [List.zip_nil_right, List.filterMap_nil, List.isEmpty_nil, if_true, pure_bind, List.isEmpty_cons, Bool.false_eq_true, if_false]
  refine wpAny_bind (wpAny_newTextTuple (items := [u]) ?_)
  have nT : H s1.heap.objs.size = none := I1.hok.fresh (Nat.le_refl _)
  have I2 := I1.laid (t' := s1.toks) (a := s1.heap.objs.size) (o := .tup [.int 0]) (h' := s1.heap.push { cls := .type "tuple", data := .seq #[u] }) (fun b z e => Heap.get?_push_of_some _ e) (Nat.le_refl _) ⟨by show 1 ≤ sizeLine; decide, [u], .cons rv .nil, _, Heap.get?_push_size _ rfl, rfl, 0, rfl⟩
  have xt : Ext no H (upd H s1.heap.objs.size (.tup [.int 0])) := Ext.new nT
  exact lamK_tail I2 B code nm (tabS_ext nm (fun z => z) xt T) (L.hasF I2.ok) fun f c1 doc pm ct H2 s2 J x2 t2 nf hc => by
    have xn : Ext no H2 (upd H2 f (known f (cloObj (X.env.qual ++ "<lambda>") as body sc (cloFrom X.env.cells sc.names []) (.ref s1.heap.objs.size) doc pm c1 ct))) := Ext.new nf
    exact ⟨.ref f, _, J, rfl, next f _ ((xt.of0.trans x2).trans xn.of0) (tabS_ext nm (fun z => z) xn t2) (xt.dom f (x2.dom f nf)) ⟨c1, .ref s1.heap.objs.size, doc, pm, ct, .tup _ (xn.tup _ _ (x2.tup _ _ upd_same)), xn.cod _ _ hc, upd_same⟩⟩
end
end
end Bw
namespace Bw
open PySem PySem.Spec PyProof.Rows L2 GxR Gx RZ Nx TL
/-! ### such a closure, called -/
/-- how a call without arguments binds -/
def BndSp (sp : CloSp) : Prop := ∀ (cells : List (Str × Addr)) (dV doc pm ct : Value) (c1 : Addr) (t : Shared), (sp.df = false ∧ dV = .none ∨ ∃ (td : Addr) (o : Obj) (n : Nat) (tk : Tok), sp.df = true ∧ dV = .ref td ∧ t.heap.get? td = some o ∧ o.data = .seq #[.int 0 tk] n) → ∃ bs, BindsTo t (PySem.W.kdv_fn "<lambda>" sp.q sp.as (.expr sp.body) sp.sc cells dV doc pm (.ref c1) ct) ⟨[], []⟩ bs ∧ ∀ z ∈ bs, sp.sc.names.lookup z.1 = some .local
theorem pe_cloK {Z : Cx} {N : List Str} {y : Str} {sp : CloSp} {cells : List (Str × Addr)} {f : Addr} {k i : Nat} {σL : L2.St} {tb : XK → TE} {W : WX} {E : XK} {C : List (Addr × Obj)} {p1 p2 : Pos} (ok : CloOk N sp.sc cells C σL)
    (bnd : BndSp sp) (own : ∀ z ∈ sp.sc.names, z.2 ≠ .cell)
    (tk : Takes Z W) (hW : ∀ cls d σ' H', E cls d H' → offC H' C → W cls d σ' (withC H' C)) (hr : Room (k + 1) Z.A)
    (run : ∀ (c1 : Addr) (A : Around) (outer : List Env) (s' : Shared) (H' : Hp) (E : XK), Room k (A.deeper (cloEnv sp.q sp.sc cells s'.heap.objs.size f c1)) → PE (cloCx Z N sp.q sp.sc cells A outer s' H' E f c1) sp.body (tb E))
    (hN : Z.N[i]? = some y) (hv : Vis Z.env.scope y) (hd : (y == ("__debug__" : Str)) = false := by decide) (hcd : (y == ("__classdict__" : Str)) = false := by decide) :
    PE Z (.Call (.Name y p1) [] [] p2) (fun σZ HZ Q => σZ[i]? = some (some (.ref f)) ∧ CloAt HZ f sp cells ∧ (∀ a o, C.lookup a = some o → HZ a = some (known a o)) ∧ tb E σL (lessC HZ C) fun v H' => offC H' C → Q v (withC H' C)) := by
  refine ⟨fun pinsZ sZ σZ HZ Q IZ ⟨at_, ⟨c1, dV, doc, pm, ct, dfl, code, hf⟩, kn, told⟩ => ?_⟩
  refine wpAny_Call_Name_kw (thn ((pe_var (X := Z) (pos := p1) (i := i) hN hv hd hcd).run pinsZ sZ σZ HZ (fun v H1 => v = .ref f ∧ H1 = HZ) IZ ⟨.ref f, at_, rfl, rfl⟩) fun u t ⟨v, H1, J, rv, ev, eH⟩ => ?_)
  subst ev
  rw [eH] at J
  have eu : u = Value.ref f := rv
  subst eu
  have atT := (J.hok f _ hf).1
  have atC : ∀ a o, C.lookup a = some o → t.heap.get? a = some o := fun a o e => (J.hok a _ (kn a o e)).1
  have back : HZ = withC (lessC HZ C) C := funext fun a => by
    cases ec : C.lookup a with
    | some o => rw [withC_in ec, kn a o ec]
    | none => rw [withC_out ec, lessC_out ec]
  have off : ∀ a o, C.lookup a = some o → lessC HZ C a = none := fun a o e => lessC_in e
  have drop : ∀ b, HZ b = none → lessC HZ C b = none := fun b e => by
    cases ec : C.lookup b with
    | some o => exact lessC_in ec
    | none => rw [lessC_out ec]; exact e
  have J0 := J.env0
  have nf : ∀ a o, C.lookup a = some o → a ∉ frs Z.stack := fun a o e z => by
    have := J0.frf a z
    rw [kn a o e] at this
    cases this
  have e0 : Env0 Z.prog Z.w Z.K Z.mg Z.base Z.A Z.stack t (lessC HZ C) := ⟨J0.frames, J0.mod, fun b o e => ⟨(J0.bs b o e).1, drop b (J0.bs b o e).2⟩, J0.bsz, J0.funs, fun b z => drop b (J0.frf b z), fun a o e => by
    cases ec : C.lookup a with
    | some z => rw [lessC_in ec] at e; cases e
    | none =>
      rw [lessC_out ec] at e
      refine obj_under (fun b z nz eb => ?_) o (J0.hok a o e)
      cases eb2 : C.lookup b with
      | some x => rw [kn b x eb2] at eb; exact (nz _ _ (Option.some.inj eb).symm).elim
      | none => rw [lessC_out eb2]; exact eb, J0.bare⟩
  have ⟨⟨oc, cvs, tok, g1, g2, g3⟩, _, _⟩ := J.hok c1 _ code
  refine PySem.W.callWith_F0 ⟨_, _, _, _, atT⟩ (wpAny_call (codeAny_mono (?_ : codeAny (model Z.prog Z.w) Z.A (.call (.ref f) ⟨[], []⟩) (CR (L2.CX Z.prog Z.w) Z.stack Z.prog Z.w (lessC HZ C) t (fun v H' => offC H' C → Q v (withC H' C)) E) t) fun r t2 hq => ?_))
  · refine PySem.W.kla_callFunE hr.depth atT rfl ok.co ok.gen rfl ⟨c1, oc, cvs, tok, rfl, g1, g2, g3⟩ ?_
    have dfs : sp.df = false ∧ dV = .none ∨ ∃ (td : Addr) (o : Obj) (n : Nat) (tk : Tok), sp.df = true ∧ dV = .ref td ∧ t.heap.get? td = some o ∧ o.data = .seq #[.int 0 tk] n := by
      generalize hdf : sp.df = df0 at dfl
      cases dfl with
      | non => exact .inl ⟨rfl, rfl⟩
      | tup td h =>
        have ⟨_, its, vals, o, ho, _, n, hd⟩ := J.hok td _ h
        cases vals with
        | cons r1 rs =>
          cases rs
          have ⟨tk, e1⟩ := r1
          subst e1
          exact .inr ⟨td, o, n, tk, rfl, rfl, ho, hd⟩
    have ⟨bs, bnds, loc⟩ := bnd cells dV doc pm ct c1 t dfs
    refine bnds _ _ _ _ (wpAny_newFunctionEnv own loc (fun h1 ns sb => ⟨J.nolimit.fresh _ sb, ?_⟩) ok.kind)
    have keeps : ∀ b o, t.heap.get? b = some o → h1.get? b = some o := fun b o e => sb.extBut b o (Nat.ne_of_lt (Heap.lt_size e)) (Heap.get?_push_of_some _ e)
    have K0 := clo_start (Z := Z) (N := N) (q := sp.q) (sc := sp.sc) (cells := cells) (E := E) (f := f) (c1 := c1) (tk := t.toks + bs.length) ok e0 hr.hd off atC ns keeps
    exact PySem.W.kla_codeExpr (wpAny_mono ((run _ _ _ t (lessC HZ C) E (hr.deeper _)).run [] _ _ _ _ K0 told) (fun v t3 ⟨w1, H3, K3, r3, q3⟩ => ⟨w1, H3, K3.os, K3.bare, K3.base, K3.hok, r3, q3⟩) fun _ _ z => z)
  · have out : Passes (L2.CX Z.prog Z.w) Z (fun cls d H' => ∃ H3, H' = withC H3 C ∧ offC H3 C ∧ E cls d H3) := passes_call tk fun cls d σ' H' ⟨H3, e, z, x⟩ => by rw [e]; exact hW cls d σ' H3 x z
    cases r with
    | error e =>
      have ⟨a, B, H3, cls, d, ee, fly, hok, ub, na, os, ag, hE⟩ := hq
      have ⟨y1, y2, y3⟩ := ub_up off atC nf hok ub na fly.2.1
      rw [← back] at y1
      exact out pinsZ σZ HZ t e t2 J ⟨a, B, _, cls, d, ee, fly, y2, y1, y3, os, ag, H3, rfl, fun b z ez => ub.free b z (atC b z ez) (off b z ez), hE⟩
    | ok fl =>
      cases fl with
      | ret w1 =>
        have ⟨v, H3, os, ag, un, hok, r3, q3⟩ := hq
        have ⟨y1, y2⟩ := un_up off atC nf hok un
        rw [← back] at y1
        exact J.after ⟨v, _, os, ag, y1, y2, r3, q3 fun b z ez => un.free b z (atC b z ez) (off b z ez) (fun z => nomatch (show b ∈ ([] : List Addr) from z))⟩
      | next => exact (hq : False).elim
      | brk => exact (hq : False).elim
      | cont => exact (hq : False).elim
/-- what is read of a known closure that is called -/
def tCloK (C : List (Addr × Obj)) (f : Addr) (sp : CloSp) (cells : List (Str × Addr)) (σL : L2.St) (tb : XK → TE) : XK → Hp → VK → Prop := fun E HZ Q => CloAt HZ f sp cells ∧ (∀ a o, C.lookup a = some o → HZ a = some (known a o)) ∧ tb (fun cls d H' => offC H' C → E cls d (withC H' C)) σL (lessC HZ C) fun v H' => offC H' C → Q v (withC H' C)
theorem pe_toldCloK {Y : Cx} {N : List Str} {y : Str} {sp : CloSp} {cells : List (Str × Addr)} {f g CB : Addr} {cs : List Addr} {fd : FuncData} {k i : Nat} {σL : L2.St} {tb : XK → TE} {C : List (Addr × Obj)} {p p1 pos : Pos} (ok : CloOk N sp.sc cells C σL)
    (bnd : BndSp sp) (own : ∀ z ∈ sp.sc.names, z.2 ≠ .cell)
    (run : ∀ (Z : Cx) (c1 : Addr) (A : Around) (outer : List Env) (s' : Shared) (H' : Hp) (E : XK), Z.prog = Y.prog → Z.w = Y.w → Z.K = Y.K → Z.mg = Y.mg → Z.base = Y.base → Room k (A.deeper (cloEnv sp.q sp.sc cells s'.heap.objs.size f c1)) → PE (cloCx Z N sp.q sp.sc cells A outer s' H' E f c1) sp.body (tb E))
    (D : Df Y.K Y.mg "_law_told" s_law_told ["_law_work"] g fd) (hm : Y.mg "isinstance" = none) (hv : Y.mg "ValueError" = none) (hB : Y.mg "BoxError" = some (.ref CB)) (hr : Room (k + 2) Y.A) (hN : Y.N[i]? = some y) (vis : Vis Y.env.scope y) (hg : Gl Y "_law_told") (hd : (y == ("__debug__" : Str)) = false := by decide) (hcd : (y == ("__classdict__" : Str)) = false := by decide) :
    PE Y (.Call (.Name "_law_told" p) [.Name y p1] [] pos) (fun σY HY Q => σY[i]? = some (some (.ref f)) ∧ CloAt HY f sp cells ∧ tTold Y.K Y.mg CB cs (tCloK C f sp cells σL tb) HY Q) := by
  have ⟨oc, od, kV, doc, pm2, an, cdv, ct2, osl, same, lk, hcdv⟩ := D.F.ex
  have bi := D.b
  subst same
  refine ⟨fun pinsY sY σY HY Q I ⟨at_, ⟨c1, dV, doc, pm, ct, dfl, code, hf⟩, told⟩ => wpAny_Call_Name_kw (ld_glob I hg D.g ?_ (by decide))⟩
  refine PySem.W.callWith_K (h₀ := Y.base) I.ok.mod.kin D.F.kp ?_ (by rfl) (by rfl)
  show wpAny _ _ (spliced ((false, eval (.Name y p1) _) :: backTo pos (starEach [] _))) _ _ sY
  refine Calls.spliced_cons (thn ((pe_var (X := Y) (pos := p1) (i := i) hN vis hd hcd).run pinsY sY σY HY (fun v H1 => v = .ref f ∧ H1 = HY) I ⟨.ref f, at_, rfl, rfl⟩) fun u t ⟨v, H1, J, rv, ev, eH⟩ => Calls.spliced_nil ⟨J.kIn, ?_⟩)
  subst ev
  rw [eH] at J
  have eu : u = Value.ref f := rv
  subst eu
  have go : codeAny (model Y.prog Y.w) Y.A (.call (.ref g) ⟨[.ref f], []⟩) (CR C8.CX0 Y.stack Y.prog Y.w HY t Q C8.E0) t := by
    refine LamX.run_ofS (N := nTold) (ps := ["_law_work"]) (us := [.ref f]) (vs := [.ref f]) lk hcdv scTold hr J.env0 (bi t [.ref f] J.kIn rfl) (.cons rfl .nil) rfl fun hr1 => ?_
    have act : ∀ (W : WX) (pn : List (Addr × Obj)) (xe : Value → Shared → Prop) (E : XK) (p1 p2 : Pos), Takes ((cxOf C8.CX0 Y.prog Y.w Y.K Y.mg Y.base nTold "_law_told" (defScope s_law_told) g cdv Y.A Y.stack t HY C8.E0).tr pn xe) W → (∀ cls d σ' H', E cls d H' → W cls d σ' H') →
        PE ((cxOf C8.CX0 Y.prog Y.w Y.K Y.mg Y.base nTold "_law_told" (defScope s_law_told) g cdv Y.A Y.stack t HY C8.E0).tr pn xe) (.Call (.Name "_law_work" p1) [] [] p2) (fun σZ HZ Q => σZ[0]? = some (some (.ref f)) ∧ HZ c1 = some (LamX.CodeO c1 sp.q) ∧ tCloK C f sp cells σL tb E HZ Q) := fun W pn xe E p1 p2 tk hW =>
      (pe_cloK (i := 0) (E := fun cls d H' => offC H' C → E cls d (withC H' C)) ok bnd own tk (fun cls d σ' H' x z => hW cls d σ' _ (x z)) hr1 (fun c1 A outer s' H' E' rm => run _ c1 A outer s' H' E' rfl rfl rfl rfl rfl rm) rfl (.inl rfl)).mono fun σZ HZ Q ⟨h1, h2, h3, h4, h5⟩ => ⟨h1, h3, h4, h5⟩
    have roomy : Y.A.units + 200 < cLine := by
      have z := hr.un
      generalize Y.A.units = u at z ⊢
      omega
    have ⟨tt, pu, qu⟩ := told_gives (X := Y) (q := sp.q) (g := g) (cs := cs) cdv hm hv hB roomy f c1 t HY Q _ act code told
    exact ⟨tt, pu.nox, qu⟩
  refine wpAny_call (codeAny_mono go fun r s2 hq => ?_)
  cases r with
  | error u => exact (show False from hq).elim
  | ok fl =>
    cases fl with
    | ret w => exact J.after hq
    | next => exact (hq : False).elim
    | brk => exact (hq : False).elim
    | cont => exact (hq : False).elim
end Bw
namespace Bw
open PySem PySem.Spec PyProof.Rows L2 GxR Gx RZ Nx TL
/-! ### a list of such closures, handed to _law_all -/
section
variable {Y : Cx} {c : Cw} {M : Addr → Prop} {Γ : List Sl}
/-- _law_told(x), x a known closure, as data -/
theorem pd_toldCloK {N : List Str} {y : Str} {sp : CloSp} {cells : List (Str × Addr)} {f g CB : Addr} {cs : List Addr} {fd : FuncData} {k : Nat} {σL : L2.St} {C : List (Addr × Obj)} {d : PyData} {o : Out} {cL : Cw} {ML : Addr → Prop} {ΓL : List Sl} {p p1 pos : Pos} (i : Nat) (ok : CloOk N sp.sc cells C σL)
    (bnd : BndSp sp) (own : ∀ z ∈ sp.sc.names, z.2 ≠ .cell)
    (run : ∀ (Z : Cx) (c1 : Addr) (A : Around) (outer : List Env) (s' : Shared) (H' : Hp) (E : XK), Z.prog = Y.prog → Z.w = Y.w → Z.K = Y.K → Z.mg = Y.mg → Z.base = Y.base → Room k (A.deeper (cloEnv sp.q sp.sc cells s'.heap.objs.size f c1)) → PE (cloCx Z N sp.q sp.sc cells A outer s' H' E f c1) sp.body (tOut (fun cls d _ H' => E cls d H') cL ML ΓL o))
    (D : Df Y.K Y.mg "_law_told" s_law_told ["_law_work"] g fd) (hm : Y.mg "isinstance" = none) (hv : Y.mg "ValueError" = none) (hB : Y.mg "BoxError" = some (.ref CB)) (told : ToldAs Y.K Y.mg CB cs d o) (hr : Room (k + 2) Y.A) (hN : Y.N[i]? = some y) (vis : Vis Y.env.scope y) (slot : Γ[i]? = some (.r f))
    (is : ∀ H, c.Bx H → CloAt H f sp cells ∧ knowsC H C ∧ Rp cL ML (lessC H C) σL ΓL)
    (again : ∀ H H', c.Bx H → Ext cL.mx (lessC H C) H' → cL.Bx H' → offC H' C → Ext c.mx H (withC H' C) ∧ c.Bx (withC H' C)) (vals : ∀ H' v, isD ML d H' H' v → Td M H' v d)
    (hg : Gl Y "_law_told" := by rfl) (hd : (y == ("__debug__" : Str)) = false := by decide) (hcd : (y == ("__classdict__" : Str)) = false := by decide) : PD Y c M Γ (.Call (.Name "_law_told" p) [.Name y p1] [] pos) d :=
  (pe_toldCloK (cs := cs) (i := i) (tb := fun E => tOut (fun cls d _ H' => E cls d H') cL ML ΓL o) (C := C) ok bnd own run D hm hv hB hr hN vis hg hd hcd).mono fun σ H Q ⟨r, qq⟩ => by
    have ⟨w, ew, er⟩ := r.sl.get slot
    have er : w = some (.ref f) := er
    subst er
    have ⟨i2, i3, i4⟩ := is H r.bx
    refine ⟨ew, i2, i2, i3, ?_⟩
    cases o with
    | val x =>
      have ed : d = x := told
      subst ed
      exact ⟨i4, fun v H' hv x b off => by
        have ⟨x2, b2⟩ := again H H' r.bx x b off
        exact qq v _ ((vals H' v hv).under fun a o _ e => up_with off a o e) x2 b2⟩
    | bad C0 r0 =>
      have ⟨j, Cj, eC, ed⟩ := told
      subst eC ed
      refine ⟨i4, fun dx H' x b hdx off => ?_⟩
      have ⟨x2, b2⟩ := again H H' r.bx x b off
      exact ⟨j, dx, r0, Cj, rfl, rfl, up_with off _ _ hdx, fun v H2 tv x3 => qq v H2 (told_td tv) (x2.trans x3.of0) (c.st no _ _ (fun _ z => z.elim) x3 b2)⟩
end
/-- what _law_all may count on: it is entered from c's stretch at H3, with the cells C known -/
structure AllN (c : Cw) (H3 : Hp) (C : List (Addr × Obj)) (H : Hp) : Prop where
  kn : knowsC H C
  far : Ext c.mx H3 (lessC H C)
  bx : c.Bx (lessC H C)
def cwAllN (c : Cw) (H3 : Hp) (C : List (Addr × Obj)) (live : ∀ a, c.mx a → H3 a ≠ none) : Cw where
  Ts := c.Ts
  mx a := withC H3 C a ≠ none
  Bx := AllN c H3 C
  st m H H' off x b := by
    have young : ∀ a, m a → H3 a = none := fun a ma => by
      cases e : H3 a with
      | none => rfl
      | some o =>
        refine (off a ma ?_).elim
        cases ec : C.lookup a with
        | some z => rw [withC_in ec]; exact fun z => nomatch z
        | none => rw [withC_out ec, e]; exact fun z => nomatch z
    have out : ∀ a, m a → C.lookup a = none := fun a ma => by
      cases ec : C.lookup a with
      | some z => exact (off a ma (by rw [withC_in ec]; exact fun z => nomatch z)).elim
      | none => rfl
    have xl := ext_less (C := C) b.kn x
    exact ⟨fun a o e => x.oth a _ (fun z => by rw [out a z] at e; cases e) (fun _ z => by cases z) (b.kn a o e), b.far.transF xl fun a z => .inr (young a z), c.st m _ _ (fun a ma z => live a z (young a ma)) xl b.bx⟩
section
variable {c : Cw} {H3 : Hp} {C : List (Addr × Obj)} {live : ∀ a, c.mx a → H3 a ≠ none} {H H1 : Hp}
/-- behind a closure of the law's own -/
theorem all_own (b : AllN c H3 C H) (x : Ext c.mx (lessC H C) H1) (b1 : c.Bx H1) (off : offC H1 C) : Ext (cwAllN c H3 C live).mx H (withC H1 C) ∧ AllN c H3 C (withC H1 C) := by
  refine ⟨(ext_with b.kn off x).mono fun a z => ?_, knows_with, ?_, ?_⟩
  · show withC H3 C a ≠ none
    have l := live a z
    cases ec : C.lookup a with
    | some o => rw [withC_in ec]; exact fun z => nomatch z
    | none => rw [withC_out ec]; exact l
  · rw [less_with off]
    exact b.far.trans x
  · rw [less_with off]
    exact b1
/-- behind one from further away -/
theorem all_far {C2 : List (Addr × Obj)} (b : AllN c H3 C H) (kn2 : knowsC H C2) (x : Ext no (lessC H C2) H1) (off : offC H1 C2) : Ext (cwAllN c H3 C live).mx H (withC H1 C2) ∧ AllN c H3 C (withC H1 C2) := by
  have x2 : Ext no H (withC H1 C2) := ext_with kn2 off x
  have xl := ext_less (C := C) b.kn x2
  exact ⟨x2.of0, fun a o e => x2.oth a _ (fun z => z) (fun _ z => by cases z) (b.kn a o e), b.far.trans xl.of0, c.st no _ _ (fun _ z => z.elim) xl b.bx⟩
theorem less_up {a : Addr} {o : HO} (e : lessC H C a = some o) : H a = some o := by
  cases ec : C.lookup a with
  | some z => rw [lessC_in ec] at e; cases e
  | none => rwa [lessC_out ec] at e
theorem CloAt.up {f : Addr} {sp : CloSp} {cells : List (Str × Addr)} (h : CloAt H f sp cells) (u : ∀ a o, H a = some o → H1 a = some o) : CloAt H1 f sp cells := by
  have ⟨c1, dV, doc, pm, ct, d, hc, hf⟩ := h
  refine ⟨c1, dV, doc, pm, ct, ?_, u _ _ hc, u _ _ hf⟩
  generalize sp.df = b0 at d
  cases d with
  | non => exact .non
  | tup td h => exact .tup td (u _ _ h)
end
theorem clo_okN {X : Cx} {s : Shared} {H : Hp} {σ : L2.St} {pins : List (Addr × Obj)} {sc : Scope} {C : List (Addr × Obj)} (I : Inv X pins σ H s) (L : LamF X.N X.env.scope sc) (h1 : ∀ p ∈ cloFrom X.env.cells sc.names [], ∃ o, C.lookup p.2 = some o) (h2 : Idle X H s C) (h3 : ∀ a o, C.lookup a = some o → ∃ u, o.data = .cell u) : CloOk X.N sc (cloFrom X.env.cells sc.names []) C σ := by
  have outer : ∀ y, (y, NameKind.free) ∈ sc.names → ∃ c, X.env.cells.lookup y = some c := fun y hy => by
    rcases L.free _ hy rfl with k | k
    · exact I.ok.has _ (.inl k)
    · exact I.ok.has _ (.inr k)
  have upL : ∀ {y c}, (cloFrom X.env.cells sc.names []).lookup y = some c → X.env.cells.lookup y = some c := fun {y c} h => by
    rcases cloFrom_mem (PySem.mem_of_lookup h) with z | ⟨z1, z2⟩
    · cases z
    · have ⟨c2, e2⟩ := outer y z1
      have e2 : X.env.cells.lookup y = some c2 := e2
      rw [e2] at z2
      rw [e2, z2]
      rfl
  have noC : ∀ y, sc.names.lookup y ≠ some .cell := fun y e => L.noCell _ (PySem.mem_of_lookup e) rfl
  refine ⟨L.kind, L.co, L.gen, noC, fun y z c e1 e2 => I.ok.inj y z c (upL e1) (upL e2), fun y e => mem_lookup (cloFrom_has (cells := X.env.cells) (acc := []) (PySem.mem_of_lookup e)), fun y c e => ?_, I.len, fun i y v e1 e2 vis => ?_⟩
  · have ⟨o, eo⟩ := h1 _ (PySem.mem_of_lookup e)
    have ⟨u, eu⟩ := h3 c o eo
    exact ⟨o, u, eo, eu⟩
  · have fr : sc.names.lookup y = some .free := by
      rcases vis with k | k | k
      · exact (L.loc _ (PySem.mem_of_lookup k) rfl (List.mem_of_getElem? e1)).elim
      · exact (noC y k).elim
      · exact k
    refine ⟨fr, fun c ec => ?_⟩
    have ⟨o, eo⟩ := h1 _ (PySem.mem_of_lookup ec)
    have kind := L.free _ (PySem.mem_of_lookup fr) rfl
    have ⟨m, _, hl⟩ := I.loc
    have ⟨u, r, lk⟩ := hl i y v e1 e2 (kind.elim (fun k => .inr (.inl k)) fun k => .inr (.inr k))
    refine ⟨o, u, eo, ?_, r⟩
    rcases lk with ⟨k, _⟩ | ⟨_, c2, e2, o2, g1, g2⟩
    · have lo : X.env.scope.names.lookup y = some .local := k
      rcases kind with z | z <;> rw [show X.env.scope.names.lookup y = _ from z] at lo <;> cases lo
    · have ec2 : c = c2 := Option.some.inj ((upL ec).symm.trans e2)
      rw [← ec2, (h2 c o eo).1] at g1
      rw [Option.some.inj g1]
      exact g2
/-- a closure of the list: one of X's own lambdas, or one from further away, with cells that are known -/
inductive KindAt (X : Cx) (c : Cw) (M : Addr → Prop) (Γ : List Sl) (k : Nat) (o : Out) (H : Hp) (f : Addr) : Prop where
  | own (sp : CloSp) (at_ : CloAt H f sp (cloFrom X.env.cells sp.sc.names [])) (bnd : BndSp sp) (LF : LamF X.N X.env.scope sp.sc)
      (run : ∀ (Z : Cx) (c1 : Addr) (A : Around) (outer : List Env) (s' : Shared) (H' : Hp) (E : XK), Z.prog = X.prog → Z.w = X.w → Z.K = X.K → Z.mg = X.mg → Z.base = X.base → Room k (A.deeper (cloEnv sp.q sp.sc (cloFrom X.env.cells sp.sc.names []) s'.heap.objs.size f c1)) → PE (cloCx Z X.N sp.q sp.sc (cloFrom X.env.cells sp.sc.names []) A outer s' H' E f c1) sp.body (tOut (fun cls d _ H' => E cls d H') c M Γ o)) : KindAt X c M Γ k o H f
  | far (sp : CloSp) (cells : List (Str × Addr)) (N : List Str) (C : List (Addr × Obj)) (σL : L2.St) (ΓL : List Sl) (at_ : CloAt H f sp cells) (kn : knowsC H C) (ok : CloOk N sp.sc cells C σL) (bnd : BndSp sp) (noC : ∀ z ∈ sp.sc.names, z.2 ≠ .cell) (off : ∀ a o, C.lookup a = some o → ¬ c.mx a) (sl : Reps (cw0 c.Ts) M H σL ΓL) (nol : ∀ a xs q, Sl.l a xs q ∉ ΓL)
      (run : ∀ (Z : Cx) (c1 : Addr) (A : Around) (outer : List Env) (s' : Shared) (H' : Hp) (E : XK), Z.prog = X.prog → Z.w = X.w → Z.K = X.K → Z.mg = X.mg → Z.base = X.base → Room k (A.deeper (cloEnv sp.q sp.sc cells s'.heap.objs.size f c1)) → PE (cloCx Z N sp.q sp.sc cells A outer s' H' E f c1) sp.body (tOut (fun cls d _ H' => E cls d H') (cw0 c.Ts) no ΓL o)) : KindAt X c M Γ k o H f
theorem Reps.under {c : Cw} {M : Addr → Prop} {H H1 : Hp} (up : ∀ a o, (∀ z y, o ≠ HO.frz z y) → H a = some o → H1 a = some o) : ∀ {σ : List (Option V)} {Γ : List Sl}, Reps c M H σ Γ → (∀ a xs q, Sl.l a xs q ∉ Γ) → Reps (cw0 c.Ts) no H1 σ Γ
  | _, _, .nil, _ => .nil
  | _, _, .cons (s := .any) h t, k => .cons trivial (Reps.under up t fun a xs q z => k a xs q (List.mem_cons_of_mem _ z))
  | _, _, .cons (s := .d _) h t, k => .cons (s := .d _) ⟨h.choose, h.choose_spec.1, (h.choose_spec.2.under up).mono fun _ z => z.elim⟩ (Reps.under up t fun a xs q z => k a xs q (List.mem_cons_of_mem _ z))
  | _, _, .cons (s := .r _) h t, k => .cons (s := .r _) h (Reps.under up t fun a xs q z => k a xs q (List.mem_cons_of_mem _ z))
  | _, _, .cons (s := .l _ _ _) h t, k => (k _ _ _ (List.mem_cons_self ..)).elim
end Bw
namespace Bw
open PySem PySem.Spec PyProof.Rows L2 GxR Gx RZ Nx TL
/-! ### _law_all(x, due), x a list of closures -/
theorem KindAt.ext {X : Cx} {c : Cw} {M : Addr → Prop} {Γ : List Sl} {k : Nat} {o : Out} {H H' : Hp} {f : Addr} (h : KindAt X c M Γ k o H f) (x : Ext c.mx H H') (sub : ∀ a, c.mx a → M a) (nf : ¬ c.mx f) : KindAt X c M Γ k o H' f := by
  cases h with
  | own sp at_ bnd LF run => exact .own sp (at_.ext x nf) bnd LF run
  | far sp cells N C σL ΓL at_ kn ok bnd noC off sl nol run => exact .far sp cells N C σL ΓL (at_.ext x nf) (fun a z e => x.oth a _ (off a z e) (fun _ y => by cases y) (kn a z e)) ok bnd noC off (sl.extW x sub fun a xs q z => (nol a xs q z).elim) nol run
/-- all of X's cells, at one time -/
theorem all_cells {X : Cx} {s : Shared} {H : Hp} {σ : L2.St} {pins : List (Addr × Obj)} (I : Inv X pins σ H s) (fnT : ∀ y, X.fn y = true) : ∃ C : List (Addr × Obj), Idle X H s C ∧ ∀ sc, LamF X.N X.env.scope sc → CloOk X.N sc (cloFrom X.env.cells sc.names []) C σ := by
  have mem : ∀ p ∈ X.env.cells.filterMap (fun p => (X.env.cells.lookup p.1).map fun c => (p.1, c)), X.env.cells.lookup p.1 = some p.2 := fun p hp => by
    have ⟨q, _, eq⟩ := List.mem_filterMap.mp hp
    cases e : X.env.cells.lookup q.1 with
    | none => rw [e] at eq; cases eq
    | some c =>
      rw [e] at eq
      have ep : (q.1, c) = p := Option.some.inj eq
      rw [← ep]
      exact e
  have ⟨C, h1, h2, h3⟩ := cells_idle I fnT _ fun p hp => ⟨p.1, mem p hp⟩
  refine ⟨C, h2, fun sc L => clo_okN I L (fun p hp => ?_) h2 h3⟩
  rcases cloFrom_mem hp with z | ⟨z1, z2⟩
  · cases z
  · have free : ∃ c, X.env.cells.lookup p.1 = some c := by
      rcases L.free _ z1 rfl with k | k
      · exact I.ok.has _ (.inl k)
      · exact I.ok.has _ (.inr k)
    have ⟨c2, e2⟩ := free
    have e2 : X.env.cells.lookup p.1 = some c2 := e2
    rw [e2] at z2
    have e3 : X.env.cells.lookup p.1 = some p.2 := by rw [e2, z2]; rfl
    exact h1 p (List.mem_filterMap.mpr ⟨p, PySem.mem_of_lookup e3, by rw [e3]; rfl⟩)
section
variable {X : Cx} {c : Cw} {M : Addr → Prop} {Γ : List Sl}
/-- a list of closures lies in slot i -/
def WkAt (X : Cx) (c : Cw) (M : Addr → Prop) (Γ : List Sl) (k : Nat) (o : Out) (i : Nat) (σ : L2.St) (H : Hp) : Prop := ∃ (lw : Addr) (fs : List Addr), σ[i]? = some (some (.ref lw)) ∧ H lw = some (.lst (fs.map V.ref)) ∧ ¬ c.mx lw ∧ ∀ f ∈ fs, ¬ c.mx f ∧ KindAt X c M Γ k o H f
set_option maxHeartbeats 2100000 in
theorem pe_allN {gA gL gT CB : Addr} {cs : List Addr} {fdA fdL fdT : FuncData} {k n : Nat} (i : Nat) {y : Str} {e2 : Expr} {d : PyData} {o : Out} {p p1 pos : Pos} (D : Df X.K X.mg "_law_all" s_law_all ["_law_works", "_law_due"] gA fdA) (DA : Df X.K X.mg "_law_alike" s_alike ["_law_found", "_law_due"] gL fdL) (GA : FnOk X.prog X.w X.K X.mg X.base CX0 n gL fdL ["_law_found", "_law_due"] (spFun [] (RAlike n))) (DT : Df X.K X.mg "_law_told" s_law_told ["_law_work"] gT fdT)
    (hm : X.mg "isinstance" = none) (hv : X.mg "ValueError" = none) (hB : X.mg "BoxError" = some (.ref CB)) (told : ToldAs X.K X.mg CB cs d o) (only : onlyT d = true) (lv : Lv n d = true) (nk : n ≤ k + 2) (hr : Room (k + 3) X.A) (fnT : ∀ y, X.fn y = true) (hx : PE X (.Name y p1) (tVar i)) (h2 : PD X c M Γ e2 d)
    (hg : Gl X "_law_all" := by rfl) (he : starEach [.Name y p1, e2] X.env = (false, eval (.Name y p1) X.env) :: starEach [e2] X.env := by rfl) (he2 : starEach [e2] X.env = (false, eval e2 X.env) :: starEach [] X.env := by rfl) (hpl : (backTo pos (starEach [e2] X.env)).any (·.1) = false := by rfl) :
    PE X (.Call (.Name "_law_all" p) [.Name y p1, e2] [] pos) (fun σ H Q => Rp c M H σ Γ ∧ WkAt X c M Γ k o i σ H ∧ ∀ H', Ext c.mx H H' → c.Bx H' → Q (.bl true) H') := by
  refine ⟨fun pins s σ H Q I ⟨r, ⟨lw, fs, at_, hlw, nl, each⟩, q⟩ => wpAny_Call_Name_kw (ld_glob I hg D.g ?_ (by decide))⟩
  refine PySem.W.callWith_K (h₀ := X.base) I.ok.mod.kin D.F.kp (thn ((pa_cons hx (ar_d h2 ar_nil he2) he).run pos pins s σ H (fun vs H3 => ∃ v, vs = [.ref lw, v] ∧ Td M H3 v d ∧ Ext c.mx H H3 ∧ c.Bx H3) I ⟨_, at_, r, fun vs H3 hvs x3 b3 => ?_⟩) fun us s3 ⟨vs, H3, I3, rv, v, ev, tv, x3, b3⟩ => ⟨I3.kIn, ?_⟩) he hpl
  · have ⟨v, ev, tv⟩ := hvs.one_d
    exact ⟨v, by rw [ev], tv, x3, b3⟩
  subst ev
  have r3 := r.ext x3 b3
  have ⟨CC, idle, okC⟩ := all_cells I3 fnT
  have off3 : offC H3 CC := fun a z e => (idle a z e).2.1
  have atW : H3 lw = some (.lst (fs.map V.ref)) := x3.oth lw _ nl (fun _ z => by cases z) hlw
  have each3 : ∀ f ∈ fs, ¬ c.mx f ∧ KindAt X c M Γ k o H3 f := fun f hf => ⟨(each f hf).1, (each f hf).2.ext x3 r.sub (each f hf).1⟩
  have Gall := ok_all (P := X.prog) (w := X.w) (base := X.base) (c := cwAllN c H3 CC (fun a z => r3.al a (r3.sub a z))) (fs := fs) (lw := lw) (d := d) (k := k + 2) D DA GA nk lv (fun H b => less_up (b.far.oth lw _ nl (fun _ z => by cases z) atW)) (fun g hgm Y M' Γ' j p p1 pos eP ew eK emg eb rm hN vis slot hgl => by
    have ⟨ng, kg⟩ := each3 g hgm
    cases kg with
    | own sp at_ bnd LF run =>
      exact pd_toldCloK (cs := cs) (o := o) (cL := c) (ML := M) (ΓL := Γ) (σL := σ) (N := X.N) (C := CC) (cells := cloFrom X.env.cells sp.sc.names []) (k := k) (CB := CB) j (okC sp.sc LF) bnd (fun z hz => LF.noCell z hz) (fun Z c1 A outer s' H' E z1 z2 z3 z4 z5 rm => run Z c1 A outer s' H' E (z1.trans eP) (z2.trans ew) (z3.trans eK) (z4.trans emg) (z5.trans eb) rm) (by rw [eK, emg]; exact DT) (by rw [emg]; exact hm) (by rw [emg]; exact hv) (by rw [emg]; exact hB) (by rw [eK, emg]; exact told) rm hN vis slot (fun H b => ⟨(at_.ext b.far ng).up fun a o e => less_up e, b.kn, r3.ext b.far b.bx⟩) (fun H H' b x bx' off' => all_own b x bx' off') (fun H' v hv => only_td only hv) hgl
    | far sp cells N C2 σL ΓL at_ kn ok bnd noC offm sl nol run =>
      have kn2 : ∀ H, AllN c H3 CC H → knowsC H C2 := fun H b a z e => less_up (b.far.oth a _ (offm a z e) (fun _ y => by cases y) (kn a z e))
      refine pd_toldCloK (cs := cs) (o := o) (cL := cw0 c.Ts) (ML := no) (ΓL := ΓL) (σL := σL) (N := N) (C := C2) (cells := cells) (k := k) (CB := CB) j ok bnd noC (fun Z c1 A outer s' H' E z1 z2 z3 z4 z5 rm => run Z c1 A outer s' H' E (z1.trans eP) (z2.trans ew) (z3.trans eK) (z4.trans emg) (z5.trans eb) rm) (by rw [eK, emg]; exact DT) (by rw [emg]; exact hm) (by rw [emg]; exact hv) (by rw [emg]; exact hB) (by rw [eK, emg]; exact told) rm hN vis slot (fun H b => ⟨(at_.ext b.far ng).up fun a o e => less_up e, kn2 H b, ?_⟩) (fun H H' b x bx' off' => all_far b (kn2 H b) x off') (fun H' v hv => only_td only hv) hgl
      refine ⟨?_, fun T ht => ?_, trivial, fun _ z => z.elim, fun _ z => z.elim⟩
      · have sl2 := (sl.extW b.far r3.sub fun a xs q z => (nol a xs q z).elim).under (H1 := H) (fun a o _ e => less_up e) nol
        exact sl2.under (up_less (kn2 H b)) nol
      · have tH : TabG H T := by
          have ⟨⟨ps, e, tri⟩, out⟩ := b.far.tab T (r3.tb T ht)
          exact ⟨⟨ps, less_up e, tri⟩, out⟩
        exact tab_less (kn2 H b) tH)
  have go := go_known (us := us) (vs := [.ref lw, v]) (Q := Q) I3 idle Gall hr ?_ rv ?_
  · exact wpAny_call (codeAny_mono go fun res s4 hq => by
      cases res with
      | error u => exact (show False from hq).elim
      | ok fl =>
        cases fl with
        | ret w => exact I3.after hq
        | next => exact (hq : False).elim
        | brk => exact (hq : False).elim
        | cont => exact (hq : False).elim)
  · have two : us.length = 2 := rv.length.symm
    have bb := D.b s3 us I3.kIn (by rw [List.append_nil]; exact two)
    rw [List.append_nil] at bb
    exact bb
  · refine ⟨fun a => withC H3 CC a ≠ none, v, rfl, only_td only (tv.under fun a o _ e => up_with off3 a o e), ⟨knows_with, ?_, ?_⟩, fun T' ht => ?_, fun a z => z, fun a z => z, fun H' x b => q _ (x3.trans b.far) b.bx⟩
    · rw [less_with off3]
      exact Ext.refl _ _
    · rw [less_with off3]
      exact r3.bx
    · have ⟨⟨ps, e, tri⟩, out⟩ := r3.tb T' ht
      exact ⟨⟨ps, up_with off3 _ _ e, tri⟩, out⟩
end
end Bw
namespace Bw
open PySem PySem.Spec PyProof.Rows L2 GxR Gx RZ Nx TL
/-! ### lists of lambdas: made, put together, kept -/
/-- what is said of closures: it holds on while nothing of theirs changes -/
structure Say (c : Cw) (M : Addr → Prop) where
  is : Hp → List Addr → Prop
  st : ∀ (H H' : Hp) (fs : List Addr), is H fs → Ext c.mx H H' → (∀ a, c.mx a → M a) → (∀ f ∈ fs, ¬ M f) → is H' fs
/-- a list of closures that M knows nothing of -/
def isF {c : Cw} {M : Addr → Prop} (Ψ : Say c M) : RV := fun _ H v => ∃ (lw : Addr) (fs : List Addr), v = .ref lw ∧ ¬ M lw ∧ H lw = some (.lst (fs.map V.ref)) ∧ (∀ f ∈ fs, ¬ M f) ∧ fs.length ≤ 50 ∧ Ψ.is H fs
inductive ClosAt (H : Hp) : List Addr → List (CloSp × List (Str × Addr)) → Prop where
  | nil : ClosAt H [] []
  | cons {f : Addr} {s : CloSp × List (Str × Addr)} {fs : List Addr} {l : List (CloSp × List (Str × Addr))} (h : CloAt H f s.1 s.2) (t : ClosAt H fs l) : ClosAt H (f :: fs) (s :: l)
theorem ClosAt.ext {m : Addr → Prop} {H H' : Hp} (x : Ext m H H') : ∀ {fs : List Addr} {l : List (CloSp × List (Str × Addr))}, ClosAt H fs l → (∀ f ∈ fs, ¬ m f) → ClosAt H' fs l
  | _, _, .nil, _ => .nil
  | _, _, .cons h t, k => .cons (h.ext x (k _ (List.mem_cons_self ..))) (ClosAt.ext x t fun f z => k f (List.mem_cons_of_mem _ z))
theorem ClosAt.len {H : Hp} : ∀ {fs : List Addr} {l : List (CloSp × List (Str × Addr))}, ClosAt H fs l → fs.length = l.length
  | _, _, .nil => rfl
  | _, _, .cons _ t => congrArg Nat.succ (ClosAt.len t)
def sayL (c : Cw) (M : Addr → Prop) (l : List (CloSp × List (Str × Addr))) : Say c M := ⟨fun H fs => ClosAt H fs l, fun H H' fs h x sub n => h.ext x fun f z y => n f z (sub f y)⟩
def sayB {c : Cw} {M : Addr → Prop} (Ψ Φ : Say c M) : Say c M := ⟨fun H fs => ∃ f1 f2, fs = f1 ++ f2 ∧ Ψ.is H f1 ∧ Φ.is H f2, fun H H' fs ⟨f1, f2, e, h1, h2⟩ x sub n => ⟨f1, f2, e, Ψ.st H H' f1 h1 x sub fun f z => n f (by rw [e]; exact List.mem_append_left _ z), Φ.st H H' f2 h2 x sub fun f z => n f (by rw [e]; exact List.mem_append_right _ z)⟩⟩
/-- the lambdas of a display -/
def tArF (c : Cw) (M : Addr → Prop) (Γ : List Sl) (l : List (CloSp × List (Str × Addr))) : TA := fun σ H Q => Rp c M H σ Γ ∧ ∀ fs H', ClosAt H' fs l → (∀ f ∈ fs, ¬ M f) → Ext c.mx H H' → c.Bx H' → Q (fs.map V.ref) H'
section
variable {X : Cx} {c : Cw} {T : List (Addr × Str)} {M : Addr → Prop} {Γ : List Sl}
theorem arf_nil : PA X [] (tArF c M Γ []) := PA.mono pa_nil fun σ H Q ⟨r, q⟩ => q [] H .nil (fun _ z => by cases z) (Ext.refl _ _) r.bx
theorem arf {e : Expr} {es : List Expr} {P : Addr} {sp : CloSp} {cells : List (Str × Addr)} {l : List (CloSp × List (Str × Addr))} (off : Off c T) (mem : (P, sp.q) ∈ T) (one : ∀ p ∈ T, p.1 = P → p.2 = sp.q) (h : PE X e (tLamK P sp cells)) (t : PA X es (tArF (c.lam T) M Γ l)) (hs : starEach (e :: es) X.env = (false, eval e X.env) :: starEach es X.env := by rfl) : PA X (e :: es) (tArF (c.lam T) M Γ ((sp, cells) :: l)) :=
  (pa_cons h t hs).mono fun σ H Q ⟨r, q⟩ => ⟨r.bx.2.1 _ mem, fun f H1 x1 t1 nf at_ => by
    have ⟨xm, b1⟩ := lam_step off mem one r.bx x1 t1
    have r1 := r.ext xm b1
    have nM : ¬ M f := fun z => r.al f z nf
    refine ⟨r1, fun fs H2 cl n2 x2 b2 => q (f :: fs) H2 (.cons (at_.ext x2 fun z => nM (r.sub f z)) cl) (fun g hg => ?_) (xm.trans x2) b2⟩
    rcases List.mem_cons.mp hg with e | e
    · rw [e]; exact nM
    · exact n2 g e⟩
/-- [lambda: .., ..] -/
theorem pf_lst {es : List Expr} {pos : Pos} {l : List (CloSp × List (Str × Addr))} (h : PA X es (tArF c M Γ l)) (few : l.length ≤ 20) : PV X c M Γ (.List es pos) (isF (sayL c M l)) :=
  (pe_lst h).mono fun σ H Q ⟨r, q⟩ => ⟨r, fun fs H1 cl nf x1 b1 => by
    have len := cl.len
    refine ⟨by rw [List.length_map, len]; exact Nat.le_trans few (by decide), fun p np => ?_⟩
    have xn : Ext no H1 (upd H1 p (.lst (fs.map V.ref))) := Ext.new np
    exact q _ _ ⟨p, fs, rfl, fun z => r.al p z (x1.dom p np), upd_same, nf, by omega, cl.ext xn fun _ _ z => z⟩ (x1.trans xn.of0) (c.st no _ _ (fun _ z => z.elim) xn b1)⟩
/-- two of them put together -/
theorem pf_cat {a e : Expr} {pos : Pos} {Ψ Φ : Say c M} (ha : PV X c M Γ a (isF Ψ)) (he : PV X c M Γ e (isF Φ)) (few : ∀ H fs, Ψ.is H fs → fs.length ≤ 25) (few2 : ∀ H fs, Φ.is H fs → fs.length ≤ 25) : PV X c M Γ (.BinOp a .Add e pos) (isF (sayB Ψ Φ)) :=
  (pe_op op_cat ha he).mono fun σ H Q ⟨r, q⟩ => ⟨r, fun v H1 ⟨l1, f1, e1, n1, h1, o1, _, s1⟩ x1 b1 => by
    have r1 := r.ext x1 b1
    refine ⟨r1, fun u H2 ⟨l2, f2, e2, n2, h2, o2, _, s2⟩ x2 b2 => ?_⟩
    subst e1 e2
    have s1' := Ψ.st H1 H2 f1 s1 x2 r.sub o1
    have k1 := few _ _ s1
    have k2 := few2 _ _ s2
    refine ⟨l1, l2, _, _, rfl, rfl, x2.oth l1 _ (fun z => n1 (r.sub l1 z)) (fun _ z => by cases z) h1, h2, by rw [List.length_map, List.length_map]; exact Nat.le_trans (show f1.length + f2.length ≤ 50 by omega) (by decide), fun p np => ?_⟩
    have xn : Ext no H2 (upd H2 p (.lst (f1.map V.ref ++ f2.map V.ref))) := Ext.new np
    have sub0 : Ext c.mx H2 (upd H2 p (.lst (f1.map V.ref ++ f2.map V.ref))) := xn.of0
    refine q _ _ ⟨p, f1 ++ f2, rfl, fun z => r.al p z ((x1.trans x2).dom p np), by rw [upd_same, List.map_append], fun f hf => ?_, by rw [List.length_append]; omega, f1, f2, rfl, Ψ.st _ _ f1 s1' sub0 r.sub o1, Φ.st _ _ f2 s2 sub0 r.sub o2⟩ ((x1.trans x2).trans sub0) (c.st no _ _ (fun _ z => z.elim) xn b2)
    rcases List.mem_append.mp hf with z | z
    · exact o1 f z
    · exact o2 f z⟩
/-- such a list lies in slot i -/
def FsIn {c : Cw} {M : Addr → Prop} (Ψ : Say c M) (i : Nat) (σ : L2.St) (H : Hp) : Prop := ∃ (lw : Addr) (fs : List Addr), σ[i]? = some (some (.ref lw)) ∧ ¬ M lw ∧ H lw = some (.lst (fs.map V.ref)) ∧ (∀ f ∈ fs, ¬ M f) ∧ fs.length ≤ 50 ∧ Ψ.is H fs
theorem FsIn.ext {Ψ : Say c M} {i : Nat} {σ : L2.St} {H H' : Hp} (h : FsIn Ψ i σ H) (x : Ext c.mx H H') (sub : ∀ a, c.mx a → M a) : FsIn Ψ i σ H' := by
  have ⟨lw, fs, h1, h2, h3, h4, h5, h6⟩ := h
  exact ⟨lw, fs, h1, h2, x.oth lw _ (fun z => h2 (sub lw z)) (fun _ z => by cases z) h3, h4, h5, Ψ.st H H' fs h6 x sub h4⟩
variable {H0 : Hp} {m : Addr → Prop} {D : Ends}
/-- x = [..] -/
theorem hs_setF {Ψ : Say c M} (i : Nat) {x : Str} {e : Expr} {pos pos' : Pos} (cm : ∀ a, c.mx a → m a) (hN : X.N.Nodup) (he : PV X c M Γ e (isF Ψ)) (il : i < Γ.length) (hi : X.N[i]? = some x := by rfl) (hx : Loc X.env.scope x := by first | exact Or.inl rfl | exact Or.inr rfl) (hs : swapsWith e (some (.Name x pos')) pos.line X.env = pure false := by rfl)
    (hf : X.fn x = true ∨ X.env.scope.names.lookup x = some .local := by first | exact Or.inr rfl | exact Or.inl rfl) : HS X (.Assign [.Name x pos'] e pos) (As c H0 m M Γ) { D with nx := fun σ H => As c H0 m M (Γ.set i .any) σ H ∧ FsIn Ψ i σ H } :=
  (ps_set (i := i) hN hi hx he hs hf).mono fun D' σ H ⟨⟨r, x0⟩, n, _⟩ => ⟨r, fun v H1 ⟨lw, fs, ev, h1, h2, h3, h4, h5⟩ x1 b1 => by
    subst ev
    exact n _ _ ⟨⟨(r.ext x1 b1).set (s := .any) i trivial, x0.trans (x1.mono cm)⟩, lw, fs, List.getElem?_set_self (by rw [r.sl.len]; exact il), h1, h2, h3, h4, h5⟩⟩
/-- x + [..], x such a list: what is read of it -/
theorem pf_more {Ψ Φ : Say c M} (i : Nat) {x : Str} {p0 pos : Pos} {e : Expr} (hx : PE X (.Name x p0) (tVar i)) (he : PV X c M Γ e (isF Φ)) (few : ∀ H fs, Ψ.is H fs → fs.length ≤ 25) (few2 : ∀ H fs, Φ.is H fs → fs.length ≤ 25) : PE X (.BinOp (.Name x p0) .Add e pos) (fun σ H Q => (Rp c M H σ Γ ∧ FsIn Ψ i σ H) ∧ ∀ v H', isF (sayB Ψ Φ) H H' v → Ext c.mx H H' → c.Bx H' → Q v H') :=
  (pe_op op_cat hx he).mono fun σ H Q ⟨⟨r, l1, f1, at_, n1, h1, o1, _, s1⟩, q⟩ => ⟨_, at_, r, fun u H2 ⟨l2, f2, e2, n2, h2, o2, _, s2⟩ x2 b2 => by
    subst e2
    have s1' := Ψ.st H H2 f1 s1 x2 r.sub o1
    have k1 := few _ _ s1
    have k2 := few2 _ _ s2
    refine ⟨l1, l2, _, _, rfl, rfl, x2.oth l1 _ (fun z => n1 (r.sub l1 z)) (fun _ z => by cases z) h1, h2, by rw [List.length_map, List.length_map]; exact Nat.le_trans (show f1.length + f2.length ≤ 50 by omega) (by decide), fun p np => ?_⟩
    have xn : Ext no H2 (upd H2 p (.lst (f1.map V.ref ++ f2.map V.ref))) := Ext.new np
    have sub0 : Ext c.mx H2 (upd H2 p (.lst (f1.map V.ref ++ f2.map V.ref))) := xn.of0
    refine q _ _ ⟨p, f1 ++ f2, rfl, fun z => r.al p z (x2.dom p np), by rw [upd_same, List.map_append], fun f hf => ?_, by rw [List.length_append]; omega, f1, f2, rfl, Ψ.st _ _ f1 s1' sub0 r.sub o1, Φ.st _ _ f2 s2 sub0 r.sub o2⟩ (x2.trans sub0) (c.st no _ _ (fun _ z => z.elim) xn b2)
    rcases List.mem_append.mp hf with z | z
    · exact o1 f z
    · exact o2 f z⟩
/-- x = x + [..] -/
theorem hs_moreF {Ψ Φ : Say c M} (i : Nat) {x y : Str} {e : Expr} {p0 p1 pos pos' : Pos} (cm : ∀ a, c.mx a → m a) (hN : X.N.Nodup) (hx0 : PE X (.Name y p0) (tVar i)) (he : PV X c M Γ e (isF Φ)) (few : ∀ H fs, Ψ.is H fs → fs.length ≤ 25) (few2 : ∀ H fs, Φ.is H fs → fs.length ≤ 25) (il : i < Γ.length) (hi : X.N[i]? = some x := by rfl) (hx : Loc X.env.scope x := by first | exact Or.inl rfl | exact Or.inr rfl) (hs : swapsWith (.BinOp (.Name y p0) .Add e p1) (some (.Name x pos')) pos.line X.env = pure false := by rfl)
    (hf : X.fn x = true ∨ X.env.scope.names.lookup x = some .local := by first | exact Or.inr rfl | exact Or.inl rfl) : HS X (.Assign [.Name x pos'] (.BinOp (.Name y p0) .Add e p1) pos) (fun σ H => As c H0 m M Γ σ H ∧ FsIn Ψ i σ H) { D with nx := fun σ H => As c H0 m M (Γ.set i .any) σ H ∧ FsIn (sayB Ψ Φ) i σ H } :=
  (ps_set (i := i) hN hi hx (pf_more (Ψ := Ψ) i hx0 he few few2) hs hf).mono fun D' σ H ⟨⟨⟨r, x0⟩, fi⟩, n, _⟩ => ⟨⟨r, fi⟩, fun v H1 ⟨lw, fs, ev, h1, h2, h3, h4, h5⟩ x1 b1 => by
    subst ev
    exact n _ _ ⟨⟨(r.ext x1 b1).set (s := .any) i trivial, x0.trans (x1.mono cm)⟩, lw, fs, List.getElem?_set_self (by rw [r.sl.len]; exact il), h1, h2, h3, h4, h5⟩⟩
end
end Bw
namespace Bw
open PySem PySem.Spec PyProof.Rows L2 GxR Gx RZ Nx TL
/-! ### a def that hands closures over its own cells back -/
/-- all of X's cells, and that they are new since the entry -/
theorem new_cells {X : Cx} {s : Shared} {H : Hp} {σ : L2.St} {pins : List (Addr × Obj)} (I : Inv X pins σ H s) (fnT : ∀ y, X.fn y = true) : ∃ C : List (Addr × Obj), Idle X H s C ∧ (∀ a o, C.lookup a = some o → X.s_0.heap.objs.size ≤ a) ∧ ∀ sc, LamF X.N X.env.scope sc → CloOk X.N sc (cloFrom X.env.cells sc.names []) C σ := by
  have ⟨C, h1, h2⟩ := all_cells I fnT
  -- of these only those that are cells of X
  have keep : ∀ l : List (Addr × Obj), ∃ C' : List (Addr × Obj), (∀ a o, C'.lookup a = some o → l.lookup a = some o ∧ ∃ y, X.env.cells.lookup y = some a) ∧ ∀ a o, l.lookup a = some o → (∃ y, X.env.cells.lookup y = some a) → C'.lookup a = some o := by
    intro l
    induction l with
    | nil => exact ⟨[], fun _ _ e => (nomatch e), fun _ _ e => (nomatch e)⟩
    | cons p l ih =>
      have ⟨C', g1, g2⟩ := ih
      by_cases z : ∃ y, X.env.cells.lookup y = some p.1
      · refine ⟨p :: C', fun a o e => ?_, fun a o e y => ?_⟩
        · rw [List.lookup_cons] at e ⊢
          by_cases k : (a == p.1) = true
          · rw [k] at e ⊢
            exact ⟨e, by rw [eq_of_beq k]; exact z⟩
          · rw [Bool.eq_false_iff.mpr k] at e ⊢
            exact g1 a o e
        · rw [List.lookup_cons] at e ⊢
          by_cases k : (a == p.1) = true
          · rw [k] at e ⊢
            exact e
          · rw [Bool.eq_false_iff.mpr k] at e ⊢
            exact g2 a o e y
      · by_cases dup : ∃ o, C'.lookup p.1 = some o
        · have ⟨o, e⟩ := dup
          exact (z (g1 _ _ e).2).elim
        · refine ⟨C', fun a o e => ?_, fun a o e y => ?_⟩
          · have ⟨e1, e2⟩ := g1 a o e
            rw [List.lookup_cons]
            by_cases k : (a == p.1) = true
            · rw [eq_of_beq k] at e2
              exact (z e2).elim
            · rw [Bool.eq_false_iff.mpr k]
              exact ⟨e1, e2⟩
          · rw [List.lookup_cons] at e
            by_cases k : (a == p.1) = true
            · rw [eq_of_beq k] at y
              exact (z y).elim
            · rw [Bool.eq_false_iff.mpr k] at e
              exact g2 a o e y
  have ⟨C', g1, g2⟩ := keep C
  refine ⟨C', fun a o e => h1 a o (g1 a o e).1, fun a o e => ?_, fun sc L => ?_⟩
  · have ⟨y, ey⟩ := (g1 a o e).2
    exact I.ok.cab y a (fnT y) ey
  · have ok := h2 sc L
    have up : ∀ y c, (cloFrom X.env.cells sc.names []).lookup y = some c → ∃ y, X.env.cells.lookup y = some c := fun y c h => by
      rcases cloFrom_mem (PySem.mem_of_lookup h) with z | ⟨z1, z2⟩
      · cases z
      · have free : ∃ c, X.env.cells.lookup y = some c := by
          rcases L.free _ z1 rfl with k | k
          · exact I.ok.has _ (.inl k)
          · exact I.ok.has _ (.inr k)
        have ⟨c2, e2⟩ := free
        have e2 : X.env.cells.lookup y = some c2 := e2
        rw [e2] at z2
        exact ⟨y, by rw [e2, z2]; rfl⟩
    exact ⟨ok.kind, ok.co, ok.gen, ok.noCell, ok.inj, ok.has, fun y c e => by
      have ⟨o, u, eo, eu⟩ := ok.free y c e
      exact ⟨o, u, g2 c o eo (up y c e), eu⟩, ok.len, fun i y v e1 e2 e3 => by
      have ⟨fr, all⟩ := ok.var i y v e1 e2 e3
      exact ⟨fr, fun c ec => by
        have ⟨o, u, eo, eu, r⟩ := all c ec
        exact ⟨o, u, g2 c o eo (up y c ec), eu, r⟩⟩⟩
/-- a body that ends in a return, and its slots there -/
structure PRt (X : Cx) (ss : List Stmt) (t : (L2.St → V → Hp → Prop) → L2.St → Hp → Prop) : Prop where
  run : ∀ (pins : List (Addr × Obj)) (s : Shared) (σ : L2.St) (H : Hp) (Q : L2.St → V → Hp → Prop), Inv X pins σ H s → t Q σ H → wpAny (model X.prog X.w) X.A (execs ss X.env) (fun fl s' => ∃ u, fl = .ret u ∧ ∃ v σ' H', Inv X pins σ' H' s' ∧ RelV v u ∧ Q σ' v H') X.xe s
section
variable {X : Cx}
theorem prt_ret {e : Expr} {pos : Pos} {te : TE} (he : PE X e te) : PRt X [.Return (some e) pos] (fun Q σ H => te σ H fun v H' => Q σ v H') :=
  ⟨fun pins s σ H Q I h => wpAny_execs_cons (wpAny_Return_some (thn (he.run pins s σ H _ I h) fun u s1 ⟨v, H1, I1, r1, q1⟩ => ⟨u, rfl, v, σ, H1, I1, r1, q1⟩))⟩
theorem prt_cons {A B : L2.St → Hp → Prop} {st : Stmt} {ss : List Stmt} {t : (L2.St → V → Hp → Prop) → L2.St → Hp → Prop} (h : HS X st A { nx := B, rt := fun _ _ => False }) (h2 : PRt X ss t) : PRt X (st :: ss) (fun Q σ H => A σ H ∧ ∀ σ' H', B σ' H' → t Q σ' H') :=
  ⟨fun pins s σ H Q I ⟨a, k⟩ => wpAny_execs_cons (thn (h.run pins s σ H { nx := B, rt := fun _ _ => False } I ⟨a, fun _ _ z => z, fun _ _ z => z, fun _ _ z => z, fun _ _ z => z⟩) fun f s1 q => by
    cases f with
    | next =>
      have ⟨σ', H', I', b⟩ := q
      exact h2.run pins s1 σ' H' Q I' (k σ' H' b)
    | ret v =>
      have ⟨_, _, _, _, _, z⟩ := q
      exact z.elim
    | brk =>
      have ⟨_, _, _, z⟩ := q
      exact (show False from z).elim
    | cont =>
      have ⟨_, _, _, z⟩ := q
      exact (show False from z).elim)⟩
end
theorem fn_keep {CX : CXT} {P : Program} {w : World} {K : PySem.W.Frag} {mg : Str → Option Value} {base : Heap} {k : Nat} {f : Addr} {nm1 qual : Str} {as1 : Arguments} {body : List Stmt} {sc1 : Scope} {dV kV doc pm cdv ct oc : Value} {an od : Option Addr} {osl : Array (Option Value)} {N ps : List Str} {sp : Sp}
    (lk : K.lookup f = some ⟨oc, od, .func (PySem.W.fnOf nm1 qual as1 body sc1 dV kV doc pm an cdv ct), osl⟩) (hcd : PySem.W.codeIn K cdv qual = true) (S : FnScope N ps sc1) (len : ∀ vs H Q E, sp vs H Q E → vs.length = ps.length)
    (hbody : ∀ (A : Around) (outer : List Env) (s : Shared) (H : Hp) (vs : List V) (Q : VK) (E : XK), -- at each entry
      Room k (A.deeper (envOfC qual sc1 s.heap.objs.size f cdv)) → sp vs H Q E →
      ∃ t, PRt (cxOf CX P w K mg base N qual sc1 f cdv A outer s H E) body t ∧ t (fun σ' v H' => ∀ (EC : List (Str × Addr)) (C : List (Addr × Obj)), EC = (envOfC qual sc1 s.heap.objs.size f cdv).cells → offC H C → offC H' C → (∀ sc, LamF N sc1 sc → CloOk N sc (cloFrom EC sc.names []) C σ') → Q v (withC H' C)) (start N vs) H) :
    FnOk P w K mg base CX (k + 1) f (PySem.W.fnOf nm1 qual as1 body sc1 dV kV doc pm an cdv ct) ps sp := by
  refine ⟨len, fun A outer s H args us vs Q E hr entry hb r want => ?_⟩
  have hl := len _ _ _ _ want
  have kin : K.In s.heap := entry.mod.kin.keeps fun b o e => (entry.bs b o e).1
  have nolim : s.heap.NoLimit := entry.mod.nolimit.keeps fun b o e => (entry.bs b o e).1
  have kinds : ∀ y ∈ ps.zip us, sc1.names.lookup y.1 = some .local ∨ (sc1.names.lookup y.1 = some .cell ∧ ((cellsFrom (s.heap.objs.size + 1) sc1.names []).lookup y.1).isSome = true) := fun ⟨n, v⟩ hy => by
    rcases S.par n (List.of_mem_zip hy).1 with one | two
    · exact .inl one
    · exact .inr ⟨two, PySem.W.cellsFrom_some _ _ _ (.inl two)⟩
  refine codeAny_call_function hr.depth (kin _ _ lk) rfl S.co S.gen rfl (PySem.W.codeRec_of kin hcd) ?_
  refine hb _ _ _ _ ?_
  refine wpAny_newFunctionEnv_cells S.kind kinds fun env1 he1 s1 x => ?_
  subst he1
  refine ⟨nolim.keeps x.toInCall.keep, codeAny_func ?_⟩
  have ⟨t, ht, hq⟩ := hbody A outer s H vs Q E (hr.deeper _) want
  have J0 : Inv (cxOf CX P w K mg base N qual sc1 f cdv A outer s H E) [] (L2.start N vs) H s1 := inv_start S hr.hd entry hl r x
  refine wpAny_mono (ht.run [] s1 (L2.start N vs) H _ J0 hq) (fun fl s' hs => ?_) fun _ _ z => z
  have ⟨u, ef, v, σ', H', J, rv, q⟩ := hs
  subst ef
  have ⟨C, idle, young, ok⟩ := new_cells J fun _ => rfl
  have off : offC H' C := fun a z e => (idle a z e).2.1
  have old : ∀ b o, s.heap.get? b = some o → C.lookup b = none := fun b o e => by
    cases ec : C.lookup b with
    | none => rfl
    | some z => exact absurd (Nat.lt_of_lt_of_le (Heap.lt_size e) (young b z ec)) (Nat.lt_irrefl _)
  have offH : offC H C := fun a z e => entry.hok.fresh (young a z e)
  have un := J.base
  refine ⟨v, withC H' C, J.os, J.bare, ⟨un.keep, un.slot, fun b o e n ne => ?_, un.there, fun b xs e => up_with off _ _ (un.tups b xs e), fun b o z e => up_with off _ _ (un.frzs b o z e), fun b ps e => ?_⟩, fun a o e => ?_, rv, q _ C rfl offH off ok⟩
  · rw [withC_out (old b o e)]
    exact un.free b o e n ne
  · have ⟨more, e2⟩ := un.tbls b ps e
    exact ⟨more, up_with off _ _ e2⟩
  · cases ec : C.lookup a with
    | some z =>
      rw [withC_in ec] at e
      rw [← Option.some.inj e]
      exact known_ok (idle a z ec).1
    | none =>
      rw [withC_out ec] at e
      exact obj_under (fun b z _ eb => up_with off b z eb) o (J.hok a o e)
end Bw
namespace Bw
open PySem PySem.Spec PyProof.Rows L2 GxR Gx RZ Nx TL
/-! ### check_all refuses what is no program; so does the class Witness -/
/-- what __init__ is called with: a new object and what is handed in -/
def spInitR (C CP : Addr) (TA : List Addr) : Sp := fun vs H Q E => ∃ (M : Addr → Prop) (m dx : Addr) (us : List V) (v d2 d3 : PyData) (r : Int), vs = .ref m :: us ∧ H m = some (.ins C dx []) ∧ TdAll M H us [v, d2, d3] ∧ (∀ a, M a → H a ≠ none) ∧ (∀ T ∈ TA, TabG H T) ∧ progBad v = some r ∧ ∀ dx H', Ext no H H' → H' dx = some (.xd [("row", .int r)]) → E (.ref CP) (some dx) H'
section
variable {base : Heap} {K : PySem.W.Frag} {mg : Str → Option Value} {P : Program} {w : World} {CP : Addr}
theorem odS_all : FnScope ["program", "frame", "choice"] ["program", "frame", "choice"] (defScope s_check_all) := ⟨rfl, rfl, rfl, by decide +kernel, rfl, by decide +kernel, by decide +kernel⟩
theorem od_all {f g : Addr} {fd fdg : FuncData} {TA : List Addr} (D : Df K mg "check_all" s_check_all ["program", "frame", "choice"] f fd) (DA : Df K mg "check_program" s_check_program ["program"] g fdg) (GA : FnOk P w K mg base (L2.CX P w) 5 g fdg ["program"] (spFunX TA (RChkG CP))) : FnOk P w K mg base (L2.CX P w) 6 f fd ["program", "frame", "choice"] (spFunX TA (RRef CP 2)) := by
  refine fn_dataX (N := ["program", "frame", "choice"]) (k := 5) D odS_all (fun ds o h => len_ref h) (fun cdv A outer s H E M ds o hr h bad tk pown => ?_)
  have ⟨v, rest, r, e, len, pb, eo⟩ := h
  clear h
  subst e
  match rest, len with
  | [d2, d3], _ =>
  exact hb_no (hs_exprB (fun _ z => z) (outs_of bad eo) (pb_call (ds := [v]) tk DA GA hr (ar_d (pd_var 0 (pv 0) rfl) ar_nil) ⟨v, rfl, by rw [pb]; rfl⟩ fun _ z => z))
theorem odS_init : FnScope ["self", "program", "frame", "choice"] ["self", "program", "frame", "choice"] (defScope s_w_init) := ⟨rfl, rfl, rfl, by decide +kernel, rfl, by decide +kernel, by decide +kernel⟩
theorem od_init {f C fA : Addr} {TA : List Addr} {fd fdA : FuncData} (F : Fun K "__init__" "Witness.__init__" s_w_init f fd) (DA : Df K mg "check_all" s_check_all ["program", "frame", "choice"] fA fdA) (GA : FnOk P w K mg base (L2.CX P w) 6 fA fdA ["program", "frame", "choice"] (spFunX TA (RRef CP 2))) : FnOk P w K mg base (L2.CX P w) 7 f fd ["self", "program", "frame", "choice"] (spInitR C CP TA) := by
  have ⟨oc, od, kV, doc, pm, an, cdv, ct, osl, same, lk, hcd⟩ := F.ex
  subst same
  refine fn_of (CX := L2.CX P w) lk hcd odS_init (fun vs H Q E h => ?_) (fun A outer s H vs Q E hr h => ?_)
  · have ⟨M, m, dx, us, v, d2, d3, r, e, _, all, _⟩ := h
    rw [e, List.length_cons, all.len]
    rfl
  have ⟨M, m, dx, us, v, d2, d3, r, e, hm, all, al, tabs, pb, bad⟩ := h
  clear h
  subst e
  have ⟨v1, v2, v3, ev, t1, t2, t3⟩ := all.three
  subst ev
  have body : HB (cxOf (L2.CX P w) P w K mg base ["self", "program", "frame", "choice"] "Witness.__init__" (defScope s_w_init) f cdv A outer s H E) (defBody s_w_init) (As (cw0 TA) H no M [.any, .d v, .d d2, .d d3]) (endsX M H (.bad CP r)) := hb_no (hs_exprB (fun _ z => z) (fun σ dx H' x hd => bad dx H' x hd) (pb_call (W := fun cls d _ H' => E cls d H') (ds := [v, d2, d3]) (takes_of rfl rfl rfl rfl) DA GA hr (ar_d (pd_var 1 (pv 1) rfl) (ar_d (pd_var 2 (pv 2) rfl) (ar_d (pd_var 3 (pv 3) rfl) ar_nil))) ⟨v, [d2, d3], r, rfl, rfl, pb, rfl⟩ fun _ z => z))
  refine ⟨_, body, ⟨⟨.cons (s := .any) trivial (.cons (s := .d v) ⟨_, rfl, t1⟩ (.cons (s := .d d2) ⟨_, rfl, t2⟩ (.cons (s := .d d3) ⟨_, rfl, t3⟩ .nil))), tabs, trivial, fun _ z => z.elim, al⟩, Ext.refl _ _⟩, fun σ H' z => (nomatch (show Out.bad CP r = .val .none from z.1)), fun v H' z => (by have ⟨d, e, _⟩ := z; cases e), fun _ _ z => z.elim, fun _ _ z => z.elim⟩
end
section
variable {X : Cx} {c : Cw} {M : Addr → Prop} {Γ : List Sl} {E : XK} {CP : Addr}
/-- Witness(..) refuses -/
theorem pb_wit {C g : Addr} {TA : List Addr} {fd : FuncData} {e1 e2 e3 : Expr} {p0 pos : Pos} {v d2 d3 : PyData} {r : Int} (tk : Takes X fun cls d _ H' => E cls d H') (MC : L2.Mk X.K C g) (GI : FnOk X.prog X.w X.K X.mg X.base (L2.CX X.prog X.w) 7 g fd ["self", "program", "frame", "choice"] (spInitR C CP TA)) (hr : Room 8 X.A) (gM : X.mg "Witness" = some (.ref C)) (bI : Binds X.K fd ["self", "program", "frame", "choice"] []) (ha : PAr X c M Γ [e1, e2, e3] (ofD [v, d2, d3])) (pb : progBad v = some r) (ts : ∀ t ∈ TA, t ∈ c.Ts)
    (hg : Gl X "Witness" := by rfl) (he : starEach [e1, e2, e3] X.env = (false, eval e1 X.env) :: starEach [e2, e3] X.env := by rfl) (hpl : (backTo pos (starEach [e2, e3] X.env)).any (·.1) = false := by rfl) : PBad X (fun cls d _ H' => E cls d H') c M Γ (.Call (.Name "Witness" p0) [e1, e2, e3] [] pos) CP r :=
  (pe_make (E := E) MC GI hr hg gM bI .nil (passes_call tk fun cls d σ' H' e => e) ha (by decide) he hpl).mono fun σ H Q ⟨rp, q⟩ => ⟨rp, fun vs H1 hvs x1 b1 => fun x dx nx nd ne => by
    have r1 := rp.ext x1 b1
    have xa : Ext no H1 (upd H1 dx (.own x)) := Ext.new nd
    have xb : Ext no (upd H1 dx (.own x)) (upd (upd H1 dx (.own x)) x (.ins C dx [])) := Ext.new (by rw [upd_ne ne.symm]; exact nx)
    have xn := xa.trans xb
    exact ⟨M, x, dx, vs, v, d2, d3, r, by rw [List.append_nil], upd_same, hvs.data.ext xn fun _ z => z.elim, fun a z e => r1.al a z (xn.dom a e), fun t z => xn.tab t (r1.tb t (ts t z)), pb, fun dx H' x2 hd => q dx H' (x1.trans (xn.trans x2).of0) hd⟩⟩
end
end Bw
namespace Bw
open PySem PySem.Spec PyProof.Rows L2 GxR Gx RZ Nx TL
/-! ### _law_first -/
abbrev kD (l : List (Str × List Int)) : List (Str × PyData) := l.map fun q => (q.1, PyData.list (q.2.map PyData.int))
theorem kD_look (z : Str) : ∀ l : List (Str × List Int), (kD l).lookup z = (l.lookup z).map fun most => PyData.list (most.map PyData.int)
  | [] => rfl
  | p :: l => by
    show ((p.1, PyData.list (p.2.map PyData.int)) :: kD l).lookup z = _
    rw [List.lookup_cons, List.lookup_cons]
    cases z == p.1 with
    | true => rfl
    | false => exact kD_look z l
theorem shaped_natsN (l : List Nat) : SeqAt.shaped (.list (l.map nI)) = true := by
  rw [SeqAt.shaped, PyData.canLay0, lay_nats, PyData.depth, deep_nats]
  rfl
theorem eqv_nilN (l : List Nat) : PyData.eqv (.list (l.map nI)) (.list []) = l.isEmpty := by cases l <;> rfl
theorem ints_get {n i : Nat} {d : PyData} (h : (intsFrom 0 n)[i]? = some d) : d = nI i ∧ i < n := by
  have em : intsFrom 0 n = (List.range n).map nI := List.map_congr_left fun k _ => by show PyData.int (0 + (k : Int)) = _; rw [Int.zero_add]
  rw [em, List.getElem?_map] at h
  cases e : (List.range n)[i]? with
  | none =>
    rw [e] at h
    cases h
  | some k =>
    rw [e] at h
    have lt : i < n := by
      have := (List.getElem?_eq_some_iff.mp e).1
      rwa [List.length_range] at this
    rw [List.getElem?_range lt] at e
    rw [← Option.some.inj h, ← Option.some.inj e]
    exact ⟨rfl, lt⟩
theorem pq_gtN {X : Cx} {c : Cw} {M : Addr → Prop} {Γ : List Sl} {a b : Expr} {i j : Int} {pos : Pos} (ha : PD X c M Γ a (.int i)) (hb : PD X c M Γ b (.int j)) (hm : behindInMarks .Gt b = false := by rfl) : PQ X c M Γ (.Compare a [.Gt] [b] pos) (decide (j < i)) := pq_cmp op_gt ha hb (fun x y H Q hx hy q => by
  rw [hx.intE, hy.intE]
  exact ⟨i, j, rfl, rfl, q _ _ (.bl _) (Ext.refl _ _)⟩) hm
def getT0 : PyData → Nat → PyData
  | .tuple ds, i => ds.getD i .none
  | _, _ => .none
def wdOf : PyData → Str
  | .str s => s
  | _ => Str.empty
/-- that it is no row of a word that is one -/
def oddRow (n m i : Nat) (rv : PyData) : Bool := decide ((23 : Int) < (i : Int)) || (!isTu rv || (nilT rv || (!isSt (getT0 rv 0) || !((kindsL n m).lookup (wdOf (getT0 rv 0))).isSome)))
theorem evenRow {n m i : Nat} {rv : PyData} (h : oddRow n m i rv = false) : i ≤ 23 ∧ ∃ z ds most, rv = .tuple (.str z :: ds) ∧ (kindsL n m).lookup z = some most := by
  unfold oddRow at h
  rw [Bool.or_eq_false_iff, Bool.or_eq_false_iff, Bool.or_eq_false_iff, Bool.or_eq_false_iff] at h
  have ⟨h1, h2, h3, h4, h5⟩ := h
  have h1 := of_decide_eq_false h1
  match rv, h2, h3, h4, h5 with
  | .tuple (.str z :: ds), _, _, _, h5 =>
    have h5 : (!((kindsL n m).lookup z).isSome) = false := h5
    cases e : (kindsL n m).lookup z with
    | none => rw [e] at h5; cases h5
    | some most => exact ⟨by omega, z, ds, most, rfl, e⟩
theorem odd_bad {n m i : Nat} {rs : List PyData} (before : ∀ j, j < i → rowBadG n m rs j = false) (h : oddRow n m i (rs.getD i .none) = true) : rowBadG n m rs i = true := by
  have small : i ≤ 24 := by
    refine Nat.le_of_not_lt fun z => ?_
    have y := before 24 z
    unfold rowBadG at y
    rw [decide_eq_true rfl] at y
    cases y
  unfold rowBadG
  generalize rs.getD i .none = rv at h
  by_cases e : i = 24
  · rw [decide_eq_true e]
    rfl
  rw [decide_eq_false e]
  unfold oddRow at h
  rw [decide_eq_false (show ¬ (23 : Int) < (i : Int) by omega)] at h
  have no_ : rowG n m rv = false := by
    match rv, h with
    | .tuple (.str z :: ds), h =>
      have h : (!((kindsL n m).lookup z).isSome) = true := h
      cases e : (kindsL n m).lookup z with
      | none => exact rowG_none e
      | some most => rw [e] at h; cases h
    | .tuple (.int _ :: ds), h => rfl
    | .tuple (.bool _ :: ds), h => rfl
    | .tuple (.none :: ds), h => rfl
    | .tuple (.tuple _ :: ds), h => rfl
    | .tuple (.list _ :: ds), h => rfl
    | .tuple (.dict _ :: ds), h => rfl
    | .tuple [], h => rfl
    | .int _, h => rfl
    | .str _, h => rfl
    | .bool _, h => rfl
    | .none, h => rfl
    | .list _, h => rfl
    | .dict _, h => rfl
  rw [no_]
  rfl
theorem even_bad {n m i : Nat} {rs : List PyData} {z : Str} {ds : List PyData} {most : List Int} (lt : i ≤ 23) (e : rs.getD i .none = .tuple (.str z :: ds)) (h : (kindsL n m).lookup z = some most) : rowBadG n m rs i = !(decide (ds.length = most.length) && (badsL most ds).isEmpty) := by
  unfold rowBadG
  rw [decide_eq_false (show ¬ i = 24 by omega), e, rowG_most h]
  rfl
/-- what may be asked of it -/
def fewD : PyData → Prop
  | .tuple [_, _, .tuple rs] => rs.length ≤ 100
  | _ => True
def RFirstP (ds : List PyData) (d : PyData) : Prop := ∃ v, ds = [v] ∧ SeqAt.shaped v = true ∧ fewD v ∧ d = fstD v
def get3 : PyData → Nat → PyData
  | .tuple [a, b, r], 0 => a
  | .tuple [a, b, r], 1 => b
  | .tuple [a, b, r], 2 => r
  | _, _ => .none
abbrev nFstP : List Str := ["_law_program_here", "_law_params", "_law_names", "_law_rows", "_law_last", "_law_kinds", "_law_number", "_law_row_here", "_law_most", "_law_k"]
theorem scFstP : FnScope nFstP ["_law_program_here"] (defScope s_law_first) := ⟨rfl, rfl, rfl, by decide +kernel, rfl, by decide +kernel, by decide +kernel⟩
theorem fst_no {v : PyData} (odd : headG v = false) : fstD v = .int (-1) := by
  unfold fstD progBad
  rw [if_neg (by rw [odd]; exact Bool.false_ne_true)]
abbrev gFi (v a b : PyData) (rs : List PyData) (n m : Nat) (sk s6 s7 s8 : Sl) : List Sl := [.d v, .d a, .d b, .d (.tuple rs), .d (.int ((m : Int) - 1)), sk, s6, s7, s8, .any]
abbrev slK (a : Addr) (l : List (Str × List Int)) : Sl := .l a ((kD l).map Prod.snd) (mkSt ((kD l).map Prod.fst))
section
variable {base : Heap} {K : PySem.W.Frag} {mg : Str → Option Value} {P : Program} {w : World}
set_option maxHeartbeats 2100000 in
theorem ok_lfirst {f fI : Addr} {fd fdI : FuncData} (D : Df K mg "_law_first" s_law_first ["_law_program_here"] f fd) (DI : Df K mg "_law_is" s_law_is ["_law_part", "_law_low", "_law_high"] fI fdI) (B : Bt mg) : FnOk P w K mg base CX0 2 f fd ["_law_program_here"] (spFun [] RFirstP) := by
  have GI : FnOk P w K mg base CX0 1 fI fdI ["_law_part", "_law_low", "_law_high"] (spFun [] RNumG) := ok_lis DI B
  refine fn_data (N := nFstP) (k := 1) D scFstP (fun ds d ⟨_, e, _⟩ => by rw [e]; rfl) (fun cdv A outer s H E M ds d hr r => ?_)
  have ⟨v, e1, sh, few, e2⟩ := r
  clear r
  subst e1 e2
  have hN := scFstP.nd
  have hu := hr.units
  have hu1 : (A.deeper (envOfC "_law_first" (defScope s_law_first) s.heap.objs.size f cdv)).units + 1 < cLine := by omega
  have cm : ∀ a, (cw0 ([] : List Addr)).mx a → no a := fun _ z => z
  have En : ∀ T ∈ ([] : List Addr), T ∈ (cw0 ([] : List Addr)).Ts := fun _ z => z
  have lenv : ∀ ds : List PyData, v = .tuple ds → decide ((ds.length : Int) = 3) = tupG v 3 := fun ds e => by rw [e]; rfl
  refine hb_cons (B := fun σ H' => (tupG v 3 = true ∧ numG (get3 v 1) 1 8 = true) ∧ As (cw0 []) H no M (ent nFstP [v]) σ H') (hs_if (b := !isTu v || (!tupG v 3 || !numG (get3 v 1) 1 8)) cm (PW.pt (pqw_or (pq_not (pq_val (pd_kind B.isinstance (pd_var 0 (pv 0) rfl) (pe_bltn (v := .ty "tuple") (by rfl) B.tuple (by decide +kernel) rfl) (kit_tup v)))) fun h1 => pqw_or ?_ fun h2 => pqw_or1 (pq_not (pq_val ?_)))) (fun e => ?_) (fun e => hb_nil fun σ H' h => ⟨?_, h⟩)) (hb_when fun yes => ?_)
  · cases v with
    | tuple ds => exact pq_neI (i := (ds.length : Int)) (j := 3) (pd_lenT B.len (pd_var 0 (pv 0) rfl)) pd_int
    | _ => cases h1
  · rw [Bool.not_eq_false'] at h2
    have ⟨a, b, r, ev⟩ := tup3 h2
    subst ev
    exact pd_call (ds := [b, .int 1, .int 8]) DI GI hr (ar_d (pd_ixT (n := 1) (pd_var 0 (pv 0) rfl) pd_int rfl) (ar_d pd_int (ar_d pd_int ar_nil))) ⟨b, 1, 8, rfl, rfl⟩ En
  · have z : headG v = false := by
      cases h2 : tupG v 3 with
      | false => exact headG_no h2
      | true =>
        have ⟨a, b, r, ev⟩ := tup3 h2
        subst ev
        have e : (!numG b 1 8) = true := e
        show ((numG b 1 8 && numG a 0 (intG b)) && _) = false
        rw [Bool.not_eq_true'] at e
        rw [e]
        rfl
    rw [fst_no z]
    exact hb_one (hs_ret cm (pd_neg (i := 1) pd_int) fun u H' tv x _ => ⟨tv, x⟩)
  · rw [Bool.or_eq_false_iff, Bool.or_eq_false_iff, Bool.not_eq_false', Bool.not_eq_false', Bool.not_eq_false'] at e
    exact e.2
  have ⟨a, b, r, ev⟩ := tup3 yes.1
  subst ev
  have yb : numG b 1 8 = true := yes.2
  have ⟨vb, eb, b1, b8⟩ := numG_int yb
  subst eb
  obtain ⟨n, en⟩ : ∃ n : Nat, vb = (n : Int) := ⟨vb.toNat, by rw [Int.toNat_of_nonneg (by omega)]⟩
  subst en
  refine hb_cons (hs_asg (d := .tuple [a, nI n, r]) (own := [1, 2, 3]) cm (pd_var 0 (pv 0) rfl) (pg_tup rfl (pgs_cons (pg_name (i := 1) hN rfl (Or.inl rfl)) (pgs_cons (pg_name (i := 2) hN rfl (Or.inl rfl)) (pgs_cons (pg_name (i := 3) hN rfl (Or.inl rfl)) pgs_nil)))) (tg_three 1 2 3) (fun h1 h2 => ps_asg h1 h2)) ?_
  have shr : SeqAt.shaped r = true := shaped_in sh (by simp)
  refine hb_cons (B := fun σ H' => (numG a 0 n = true ∧ isTu r = true ∧ nilT r = false) ∧ As (cw0 []) H no M [.d (.tuple [a, nI n, r]), .d a, .d (nI n), .d r, .any, .any, .any, .any, .any, .any] σ H') (hs_if (b := !numG a 0 n || (!isTu r || nilT r)) cm (PW.pt (pqw_or (pq_not (pq_val (pd_call (ds := [a, .int 0, .int n]) DI GI hr (ar_d (pd_var 1 (pv 1) rfl) (ar_d pd_int (ar_d (pd_var 2 (pv 2) rfl) ar_nil))) ⟨a, 0, n, rfl, rfl⟩ En))) fun _ => pqw_or (pq_not (pq_val (pd_kind B.isinstance (pd_var 3 (pv 3) rfl) (pe_bltn (v := .ty "tuple") (by rfl) B.tuple (by decide +kernel) rfl) (kit_tup r)))) fun _ => pqw_or1 (pq_nilT hu (pd_var 3 (pv 3) rfl) (pd_tup ar_nil (by decide)) shr))) (fun e => ?_) (fun e => hb_nil fun σ H' h => ⟨?_, h⟩)) (hb_when fun yes2 => ?_)
  · have z : headG (.tuple [a, nI n, r]) = false := by
      show ((numG (nI n) 1 8 && numG a 0 n) && (isTu r && decide ((0 : Int) < (lenG r : Int)))) = false
      cases h1 : numG a 0 n with
      | false => rw [Bool.and_false]; rfl
      | true =>
        rw [h1] at e
        cases h2 : isTu r with
        | false => rw [Bool.false_and, Bool.and_false]
        | true =>
          rw [h2] at e
          cases r with
          | tuple rs =>
            cases rs with
            | nil => rw [show decide ((0 : Int) < (lenG (.tuple []) : Int)) = false from rfl, Bool.and_false, Bool.and_false]
            | cons _ _ => cases e
          | _ => cases h2
    rw [fst_no z]
    exact hb_one (hs_ret cm (pd_neg (i := 1) pd_int) fun u H' tv x _ => ⟨tv, x⟩)
  · rw [Bool.or_eq_false_iff, Bool.or_eq_false_iff, Bool.not_eq_false', Bool.not_eq_false'] at e
    exact e
  have ⟨y1, y2, y3⟩ := yes2
  cases r with
  | tuple rs =>
    have nn : rs ≠ [] := fun e => by rw [e] at y3; cases y3
    have few : rs.length ≤ 100 := few
    have hd : headG (.tuple [a, nI n, .tuple rs]) = true := by
      show ((numG (nI n) 1 8 && numG a 0 n) && (true && decide ((0 : Int) < (rs.length : Int)))) = true
      have z : numG (nI n) 1 8 = true := yb
      rw [z, y1, decide_eq_true (by have := List.length_pos_iff.mpr nn; omega)]
      rfl
    have ef : fstD (.tuple [a, nI n, .tuple rs]) = match (List.range rs.length).find? (rowBadG n (min 24 rs.length) rs) with | none => .none | some i => nI i := by
      unfold fstD progBad
      rw [if_pos hd]
      show (match ((List.range rs.length).find? (rowBadG n (min rs.length 24) rs)).map fun i => (i : Int) with | none => PyData.none | some r => .int r) = _
      rw [Nat.min_comm]
      cases (List.range rs.length).find? (rowBadG n (min 24 rs.length) rs) <;> rfl
    rw [ef]
    clear ef
    obtain ⟨m, em⟩ : ∃ m, min 24 rs.length = m := ⟨_, rfl⟩
    rw [em]
    refine hb_cons (hs_set 4 (d := .int ((m : Int) - 1)) cm hN (pd_sub (by rw [← em]; exact pd_minN rfl B.min pd_int (pd_lenT B.len (pd_var 3 (pv 3) rfl)) hu) pd_int)) ?_
    have last1 : PyData.int ((n : Int) - 1) = PyData.int ((n : Int) - 1) := rfl
    refine hb_cons (hs_dictS 5 (kvs := kD ((kindsL n m).take 4)) cm hN (pps_cons pe_str (PV.lst (pn_lst (ar_d (pd_sub (pd_var 2 (pv 2) rfl) pd_int) (ar_d pd_int ar_nil)) (show 2 ≤ sizeLine by decide)))
      (pps_cons pe_str (PV.lst (pn_rep (ds := [.int ((n : Int) - 1)]) (k := 2) (PV.lst (pn_lst (ar_d (pd_sub (pd_var 2 (pv 2) rfl) pd_int) ar_nil) (show 1 ≤ sizeLine by decide))) pd_int (by decide) (by decide) (show 1 * 2 ≤ sizeLine by decide)))
      (pps_cons pe_str (PV.lst (pn_rep (ds := [.int ((n : Int) - 1)]) (k := 2) (PV.lst (pn_lst (ar_d (pd_sub (pd_var 2 (pv 2) rfl) pd_int) ar_nil) (show 1 ≤ sizeLine by decide))) pd_int (by decide) (by decide) (show 1 * 2 ≤ sizeLine by decide)))
      (pps_cons pe_str (PV.lst (pn_lst (ar_d (pd_sub (pd_var 2 (pv 2) rfl) pd_int) ar_nil) (show 1 ≤ sizeLine by decide))) pps_nil)))) (show ((["put", "copy", "call", "say"] : List Str)).Nodup by decide +kernel) (show 4 ≤ 15 by decide) rfl rfl (by simp) (by decide)) (hb_ex fun aK fK => ?_)
    have own : no aK ∨ H aK = none := .inr fK.1
    refine hb_cons (hs_moreS 5 (k1 := kD ((kindsL n m).take 4)) (kvs := kD (((kindsL n m).drop 4).take 4)) cm own (pv 5) rfl (pps_cons pe_str (PV.lst (pn_rep (ds := [.int ((n : Int) - 1)]) (k := 3) (PV.lst (pn_lst (ar_d (pd_sub (pd_var 2 (pv 2) rfl) pd_int) ar_nil) (show 1 ≤ sizeLine by decide))) pd_int (by decide) (by decide) (show 1 * 3 ≤ sizeLine by decide)))
      (pps_cons pe_str (PV.lst (pn_rep (ds := [.int ((n : Int) - 1)]) (k := 3) (PV.lst (pn_lst (ar_d (pd_sub (pd_var 2 (pv 2) rfl) pd_int) ar_nil) (show 1 ≤ sizeLine by decide))) pd_int (by decide) (by decide) (show 1 * 3 ≤ sizeLine by decide)))
      (pps_cons pe_str (PV.lst (pn_rep (ds := [.int ((n : Int) - 1)]) (k := 3) (PV.lst (pn_lst (ar_d (pd_sub (pd_var 2 (pv 2) rfl) pd_int) ar_nil) (show 1 ≤ sizeLine by decide))) pd_int (by decide) (by decide) (show 1 * 3 ≤ sizeLine by decide)))
      (pps_cons pe_str (PV.lst (pn_lst (ar_d (pd_sub (pd_var 2 (pv 2) rfl) pd_int) (ar_d (pd_var 4 (pv 4) rfl) ar_nil)) (show 2 ≤ sizeLine by decide))) pps_nil)))) (show ((["put", "copy", "call", "say", "add", "take", "less", "if"] : List Str)).Nodup by decide +kernel) (show 4 ≤ 100 by decide) (show 4 ≤ 15 by decide) rfl rfl (by simp) (by decide)) ?_
    have e8 : putO (mkSt ((kD ((kindsL n m).take 4) ++ kD (((kindsL n m).drop 4).take 4)).map Prod.fst)) aK ((kD ((kindsL n m).take 4) ++ kD (((kindsL n m).drop 4).take 4)).map Prod.snd) (gFi (.tuple [a, nI n, .tuple rs]) a (nI n) rs n m (slK aK ((kindsL n m).take 4)) .any .any .any) = gFi (.tuple [a, nI n, .tuple rs]) a (nI n) rs n m (slK aK ((kindsL n m).take 8)) .any .any .any := by
      simp only [putO, if_true]
      rfl
    refine hb_pre (B := As (cw0 []) H no (plus M aK) (gFi (.tuple [a, nI n, .tuple rs]) a (nI n) rs n m (slK aK ((kindsL n m).take 8)) .any .any .any)) (fun σ H' h => by rw [← e8]; exact h) ?_
    refine hb_cons (hs_moreS 5 (k1 := kD ((kindsL n m).take 8)) (kvs := kD ((kindsL n m).drop 8)) cm own (pv 5) rfl (pps_cons pe_str (PV.lst (pn_lst (ar_d (pd_var 4 (pv 4) rfl) ar_nil) (show 1 ≤ sizeLine by decide)))
      (pps_cons pe_str (PV.lst (pn_lst ar_nil (show 0 ≤ sizeLine by decide))) pps_nil)) (show ((["put", "copy", "call", "say", "add", "take", "less", "if", "go", "end"] : List Str)).Nodup by decide +kernel) (show 8 ≤ 100 by decide) (show 2 ≤ 15 by decide) rfl rfl (by simp) (by decide)) ?_
    have e10 : putO (mkSt ((kD ((kindsL n m).take 8) ++ kD ((kindsL n m).drop 8)).map Prod.fst)) aK ((kD ((kindsL n m).take 8) ++ kD ((kindsL n m).drop 8)).map Prod.snd) (gFi (.tuple [a, nI n, .tuple rs]) a (nI n) rs n m (slK aK ((kindsL n m).take 8)) .any .any .any) = gFi (.tuple [a, nI n, .tuple rs]) a (nI n) rs n m (slK aK (kindsL n m)) .any .any .any := by
      simp only [putO, if_true]
      rfl
    refine hb_pre (B := As (cw0 []) H no (plus M aK) (gFi (.tuple [a, nI n, .tuple rs]) a (nI n) rs n m (slK aK (kindsL n m)) .any .any .any)) (fun σ H' h => by rw [← e10]; exact h) ?_
    obtain ⟨fd0, efd⟩ : ∃ d0 : PyData, (match (List.range rs.length).find? (rowBadG n m rs) with | none => PyData.none | some i => nI i) = d0 := ⟨_, rfl⟩
    rw [efd]
    have gone : ∀ i, rowBadG n m rs i = true → i < rs.length → (∀ j, j < i → rowBadG n m rs j = false) → fd0 = nI i := fun i bad lt before => by
      have ef : (List.range rs.length).find? (rowBadG n m rs) = some i := List.find?_range_eq_some.mpr ⟨bad, List.mem_range.mpr lt, fun j hj => by rw [before j hj]; rfl⟩
      rw [← efd, ef]
    refine hb_cons (B := fun σ H' => fd0 = .none ∧ As (cw0 []) H no (plus M aK) (gFi (.tuple [a, nI n, .tuple rs]) a (nI n) rs n m (slK aK (kindsL n m)) .any .any .any) σ H') (hs_forD (α := Unit) (mw := no) (own := [6]) (ds := intsFrom 0 rs.length) (fun i _ => ∀ j, j < i → rowBadG n m rs j = false) (fun _ => gFi (.tuple [a, nI n, .tuple rs]) a (nI n) rs n m (slK aK (kindsL n m)) .any .any .any) (fun i _ => gFi (.tuple [a, nI n, .tuple rs]) a (nI n) rs n m (slK aK (kindsL n m)) (.d (nI i)) .any .any) () PassesOwn.never rfl cm (fun _ z => z) (fun _ z => .inl z) (it_range B.range (pd_lenT B.len (pd_var 3 (pv 3) rfl)) (by omega)) (pg_name (i := 6) hN rfl (Or.inl rfl)) (fun j h => absurd h (Nat.not_lt_zero j)) rfl ?_ ?_ ?_) (hb_when fun non => ?_)
    · intro i d _ hd _
      rw [(ints_get hd).1]
      exact tg_name 6
    · intro H1 x1 _ i d _ hd before
      have ⟨ed, lt⟩ := ints_get hd
      obtain ⟨rv, erv⟩ : ∃ rv, rs[i]? = some rv := ⟨_, List.getElem?_eq_getElem lt⟩
      have eg : rs.getD i .none = rv := by rw [List.getD_eq_getElem?_getD, erv]; rfl
      have mem : rv ∈ rs := List.mem_of_getElem? erv
      have shv : SeqAt.shaped rv = true := shaped_in shr mem
      have told : rowBadG n m rs i = true → ∀ (M' : Addr → Prop) (u : V) (H' : Hp), (∀ a, M a → M' a) → Td M' H' u (nI i) → Ext no H1 H' → Td M H' u fd0 ∧ Ext no H H' := fun bad M' u H' sub tv x => ⟨by rw [gone i bad lt before]; exact tv.mono sub, x1.trans x⟩
      refine hb_cons (hs_set 7 (d := rv) cm hN (pd_ixT (n := i) (pd_var 3 (pv 3) rfl) (pd_var 6 (pv 6) rfl) erv)) ?_
      refine hb_cons (B := fun σ H' => oddRow n m i rv = false ∧ As (cw0 []) H1 no (plus M aK) (gFi (.tuple [a, nI n, .tuple rs]) a (nI n) rs n m (slK aK (kindsL n m)) (.d (nI i)) (.d rv) .any) σ H') (hs_if (b := oddRow n m i rv) cm (PW.pt (pqw_or (pq_gtN (pd_var 6 (pv 6) rfl) pd_int) fun _ => pqw_or (pq_not (pq_val (pd_kind B.isinstance (pd_var 7 (pv 7) rfl) (pe_bltn (v := .ty "tuple") (by rfl) B.tuple (by decide +kernel) rfl) (kit_tup rv)))) fun h2 => pqw_or (pq_nilT hu (pd_var 7 (pv 7) rfl) (pd_tup ar_nil (by decide)) shv) fun h3 => pqw_or (pq_not (pq_val (pd_kind (d := getT0 rv 0) B.isinstance ?_ (pe_bltn (v := .ty "str") (by rfl) B.str (by decide +kernel) rfl) (kit_str _)))) fun h4 => pqw_or1 ?_)) (fun e => ?_) (fun e => hb_nil fun σ H' h => ⟨e, h⟩)) (hb_when fun even => ?_)
      · rw [Bool.not_eq_false'] at h2
        cases rv with
        | tuple ds =>
          cases ds with
          | nil => cases h3
          | cons d0 ds => exact pd_ixT (n := 0) (pd_var 7 (pv 7) rfl) pd_int rfl
        | _ => cases h2
      · rw [Bool.not_eq_false'] at h2 h4
        cases rv with
        | tuple ds =>
          cases ds with
          | nil => cases h3
          | cons d0 ds =>
            cases d0 with
            | str z =>
              have e5 : ((kindsL n m).lookup (wdOf (getT0 (.tuple (.str z :: ds)) 0))).isSome = ((kD (kindsL n m)).lookup z).isSome := by
                rw [kD_look, Option.isSome_map]
                rfl
              rw [e5]
              exact pq_notS (kvs := kD (kindsL n m)) (z := z) 5 hu1 (pv 5) rfl (pd_ixT (n := 0) (pd_var 7 (pv 7) rfl) pd_int rfl)
            | _ => cases h4
        | _ => cases h2
      · exact hb_one (hs_ret cm (pd_var 6 (pv 6) rfl) fun u H' tv x _ => told (odd_bad before (by rw [eg]; exact e)) _ u H' (fun _ z => .inl z) tv x)
      have ⟨lt23, z, ds, most, ez, look⟩ := evenRow even
      subst ez
      have few3 := kinds_few look
      have eb := even_bad (m := m) lt23 eg look
      refine hb_cons (hs_set 8 (d := .list (most.map PyData.int)) cm hN (pd_getS (kvs := kD (kindsL n m)) 5 hu1 (pv 5) rfl (pd_ixT (n := 0) (pd_var 7 (pv 7) rfl) pd_int rfl) (by rw [kD_look, look]; rfl))) ?_
      have lenm : ((most.map PyData.int).length : Int) = (most.length : Int) := by rw [List.length_map]
      refine hb_cons (B := fun σ H' => ds.length = most.length ∧ As (cw0 []) H1 no (plus M aK) (gFi (.tuple [a, nI n, .tuple rs]) a (nI n) rs n m (slK aK (kindsL n m)) (.d (nI i)) (.d (.tuple (.str z :: ds))) (.d (.list (most.map PyData.int)))) σ H') (hs_if cm (pq_neI (pd_lenT B.len (pd_var 7 (pv 7) rfl)) (pd_add pd_int (pd_lenD B.len (pd_var 8 (pv 8) rfl)))) (fun e => ?_) (fun e => hb_nil fun σ H' h => ⟨?_, h⟩)) (hb_when fun same => ?_)
      · rw [Bool.not_eq_true'] at e
        have e := of_decide_eq_false e
        rw [List.length_cons, lenm] at e
        have bad : rowBadG n m rs i = true := by
          rw [eb, decide_eq_false (show ¬ ds.length = most.length by omega)]
          rfl
        exact hb_one (hs_ret cm (pd_var 6 (pv 6) rfl) fun u H' tv x _ => told bad _ u H' (fun _ z => .inl z) tv x)
      · rw [Bool.not_eq_false'] at e
        have e := of_decide_eq_true e
        rw [List.length_cons, lenm] at e
        omega
      have em2 : intsFrom 0 most.length = (List.range most.length).map nI := List.map_congr_left fun k _ => by show PyData.int (0 + (k : Int)) = _; rw [Int.zero_add]
      have lcm : ∀ {sc : Scope} {p1 p2 : Pos}, True := fun {_ _ _} => trivial
      refine hb_cons (B := fun σ H' => (badsL most ds).isEmpty = true ∧ As (cw0 []) H1 no (plus M aK) (gFi (.tuple [a, nI n, .tuple rs]) a (nI n) rs n m (slK aK (kindsL n m)) (.d (nI i)) (.d (.tuple (.str z :: ds))) (.d (.list (most.map PyData.int)))) σ H') (hs_if (b := !(badsL most ds).isEmpty) cm ?_ (fun e => ?_) (fun e => hb_nil fun σ H' h => ⟨by rw [Bool.not_eq_false'] at e; exact e, h⟩)) (hb_when fun none_ => ?_)
      · rw [show (!(badsL most ds).isEmpty) = !PyData.eqv (.list ((badsL most ds).map nI)) (.list []) by rw [eqv_nilN]]
        refine pq_neD hu (PV.lst (pn_lcm (l := List.range most.length) (F := nI) unI (p := fun k => !numG (ds.getD k .none) 0 (most.getD k 0)) (f := nI) (g := gName 9) (own := [("_law_k", 9)]) (Γ' := fun k => [.d (.tuple [a, nI n, .tuple rs]), .d a, .d (nI n), .d (.tuple rs), .d (.int ((m : Int) - 1)), slK aK (kindsL n m), .d (nI i), .d (.tuple (.str z :: ds)), .d (.list (most.map PyData.int)), .d (nI k)]) (fun k _ => unI_nI k) rfl hN (by rw [← em2]; exact it_range B.range (by rw [← List.length_map (as := most) (f := PyData.int)]; exact pd_lenD B.len (pd_var 8 (pv 8) rfl)) (by omega)) (blkOk_by (N := nFstP) (sc := defScope s_law_first) (by decide +kernel)) (fun _ _ _ _ _ => pg_name (i := 9) hN rfl (Or.inl rfl)) (fun _ _ _ => tg_name 9) (fun s0 H0 C cl fp M' up k hk => pts_one ?_) (fun s0 H0 C cl fp M' up k hk _ => pd_var 9 (pv 9) rfl) (by rw [List.length_range]; exact Nat.lt_of_le_of_lt few3 (by decide)))) (PV.lst (pn_lst ar_nil (show 0 ≤ sizeLine by decide))) (shaped_natsN _) rfl
        have hk := List.mem_range.mp hk
        have hk2 : k < ds.length := by omega
        refine pq_not (pq_val (pd_call (ds := [ds.getD k .none, .int 0, .int (most.getD k 0)]) DI GI hr (ar_d (pd_ixT (n := 1 + k) (pd_var 7 (pv 7) rfl) (pd_add pd_int (pd_var 9 (pv 9) rfl)) ?_ (by omega)) (ar_d pd_int (ar_d (pd_ixD (n := k) (pd_var 8 (pv 8) rfl) (pd_var 9 (pv 9) rfl) ?_) ar_nil))) ⟨_, _, _, rfl, rfl⟩ En))
        · rw [Nat.add_comm, List.getElem?_cons_succ, List.getD_eq_getElem?_getD, List.getElem?_eq_getElem hk2]
          rfl
        · rw [List.getElem?_map, List.getD_eq_getElem?_getD, List.getElem?_eq_getElem hk]
          rfl
      · have bad : rowBadG n m rs i = true := by
          rw [eb, decide_eq_true same, Bool.true_and]
          exact e
        exact hb_one (hs_ret cm (pd_var 6 (pv 6) rfl) fun u H' tv x _ => told bad _ u H' (fun _ z => .inl z) tv x)
      · refine hb_nil fun σ H' h => ⟨(), fun j hj => ?_, ((h.any 6).any 7).any 8⟩
        rcases Nat.lt_succ_iff_lt_or_eq.mp hj with h' | h'
        · exact before j h'
        · rw [h', eb, decide_eq_true same, none_]
          rfl
    · intro _ σ H' before h
      have len : (intsFrom 0 rs.length).length = rs.length := by
        show ((List.range rs.length).map _).length = _
        rw [List.length_map]
        exact List.length_range
      rw [len] at before
      have ef : (List.range rs.length).find? (rowBadG n m rs) = none := List.find?_range_eq_none.mpr fun j hj => by rw [before j hj]; rfl
      exact ⟨by rw [← efd, ef], h⟩
    · rw [non]
      exact hb_one (hs_ret cm pd_non fun u H' tv x _ => ⟨by rw [Td.nonE tv]; exact .non, x⟩)
  | _ => cases y2
end
end Bw
namespace Bw
open PySem PySem.Spec PyProof.Rows L2 GxR Gx RZ Nx TL
/-! ### what is not refused is a program -/
theorem kinds_mem {n m : Nat} {z : Str} {most : List Int} (h : (kindsL n m).lookup z = some most) : (z, most) ∈ kindsL n m := by
  have mm : ∀ {l : List (Str × List Int)}, l.lookup z = some most → (z, most) ∈ l := fun {l} => by
    induction l with
    | nil => exact fun e => nomatch e
    | cons p l ih =>
      intro e
      rw [List.lookup_cons] at e
      by_cases k : (z == p.1) = true
      · rw [k] at e
        have e := Option.some.inj e
        rw [← e, eq_of_beq k]
        exact List.mem_cons_self ..
      · rw [Bool.eq_false_iff.mpr k] at e
        exact List.mem_cons_of_mem _ (ih e)
  exact mm h
theorem bads_none {most : List Int} {ds : List PyData} (h : (badsL most ds).isEmpty = true) : ∀ k, k < most.length → numG (ds.getD k .none) 0 (most.getD k 0) = true := fun k lt => by
  have h := List.isEmpty_iff.mp h
  unfold badsL at h
  have z := List.filter_eq_nil_iff.mp h k (List.mem_range.mpr lt)
  cases e : numG (ds.getD k .none) 0 (most.getD k 0) with
  | true => rfl
  | false => rw [e] at z; exact absurd rfl z
theorem num_nat {d : PyData} {hi : Int} (h : numG d 0 hi = true) : ∃ k : Nat, d = nI k ∧ (k : Int) ≤ hi := by
  have ⟨v, e, h0, h1⟩ := numG_int h
  refine ⟨v.toNat, ?_, by omega⟩
  rw [e]
  show PyData.int v = .int ((v.toNat : Nat) : Int)
  rw [Int.toNat_of_nonneg h0]
theorem row_of_G {n m : Nat} {d : PyData} (h : rowG n m d = true) : ∃ row : Row, RowOk n m row ∧ rowD row = d := by
  match d, h with
  | .tuple (.str z :: ds), h =>
    cases look : (kindsL n m).lookup z with
    | none =>
      rw [rowG_none look] at h
      cases h
    | some most =>
      rw [rowG_most look, Bool.and_eq_true, decide_eq_true_eq] at h
      have ⟨len, none_⟩ := h
      have all := bads_none none_
      have mm := kinds_mem look
      have one : ∀ {x : Int}, most = [x] → ∃ i : Nat, ds = [nI i] ∧ (i : Int) ≤ x := fun {x} e => by
        subst e
        match ds, len with
        | [d0], _ =>
          have ⟨i, e, hi⟩ := num_nat (d := d0) (hi := x) (all 0 (Nat.succ_pos _))
          exact ⟨i, by rw [e], hi⟩
      have two : ∀ {x y : Int}, most = [x, y] → ∃ i j : Nat, ds = [nI i, nI j] ∧ (i : Int) ≤ x ∧ (j : Int) ≤ y := fun {x y} e => by
        subst e
        match ds, len with
        | [d0, d1], _ =>
          have ⟨i, e, hi⟩ := num_nat (d := d0) (hi := x) (all 0 (Nat.succ_pos _))
          have ⟨j, e2, hj⟩ := num_nat (d := d1) (hi := y) (all 1 (Nat.succ_lt_succ (Nat.succ_pos _)))
          exact ⟨i, j, by rw [e, e2], hi, hj⟩
      have three : ∀ {x y w : Int}, most = [x, y, w] → ∃ i j k : Nat, ds = [nI i, nI j, nI k] ∧ (i : Int) ≤ x ∧ (j : Int) ≤ y ∧ (k : Int) ≤ w := fun {x y w} e => by
        subst e
        match ds, len with
        | [d0, d1, d2], _ =>
          have ⟨i, e, hi⟩ := num_nat (d := d0) (hi := x) (all 0 (Nat.succ_pos _))
          have ⟨j, e2, hj⟩ := num_nat (d := d1) (hi := y) (all 1 (Nat.succ_lt_succ (Nat.succ_pos _)))
          have ⟨k, e3, hk⟩ := num_nat (d := d2) (hi := w) (all 2 (Nat.succ_lt_succ (Nat.succ_lt_succ (Nat.succ_pos _))))
          exact ⟨i, j, k, by rw [e, e2, e3], hi, hj, hk⟩
      unfold kindsL at mm
      simp only [List.mem_cons, List.not_mem_nil, or_false, Prod.mk.injEq] at mm
      rcases mm with ⟨ez, em⟩ | ⟨ez, em⟩ | ⟨ez, em⟩ | ⟨ez, em⟩ | ⟨ez, em⟩ | ⟨ez, em⟩ | ⟨ez, em⟩ | ⟨ez, em⟩ | ⟨ez, em⟩ | ⟨ez, em⟩ <;> rw [ez]
      · have ⟨i, j, e, hi, hj⟩ := two em
        rw [e]
        exact ⟨.put i j, ⟨by omega, by omega, by omega⟩, rfl⟩
      · have ⟨i, j, e, hi, hj⟩ := two em
        rw [e]
        exact ⟨.copy i j, ⟨by omega, by omega⟩, rfl⟩
      · have ⟨i, j, e, hi, hj⟩ := two em
        rw [e]
        exact ⟨.call i j, ⟨by omega, by omega⟩, rfl⟩
      · have ⟨i, e, hi⟩ := one em
        rw [e]
        exact ⟨.say i, (by show i < n; omega), rfl⟩
      · have ⟨i, j, k, e, hi, hj, hk⟩ := three em
        rw [e]
        exact ⟨.add i j k, ⟨by omega, by omega, by omega⟩, rfl⟩
      · have ⟨i, j, k, e, hi, hj, hk⟩ := three em
        rw [e]
        exact ⟨.take i j k, ⟨by omega, by omega, by omega⟩, rfl⟩
      · have ⟨i, j, k, e, hi, hj, hk⟩ := three em
        rw [e]
        exact ⟨.less i j k, ⟨by omega, by omega, by omega⟩, rfl⟩
      · have ⟨i, j, e, hi, hj⟩ := two em
        rw [e]
        exact ⟨.iff i j, ⟨by omega, by omega⟩, rfl⟩
      · have ⟨i, e, hi⟩ := one em
        rw [e]
        exact ⟨.go i, (by show i < m; omega), rfl⟩
      · rw [em] at len
        have e : ds = [] := List.eq_nil_of_length_eq_zero len
        rw [e]
        exact ⟨.fin, trivial, rfl⟩
theorem rows_of_G {n m : Nat} : ∀ {rs : List PyData}, (∀ d ∈ rs, rowG n m d = true) → ∃ rows : List Row, rows.map rowD = rs ∧ ∀ row ∈ rows, RowOk n m row
  | [], _ => ⟨[], rfl, fun _ z => nomatch z⟩
  | d :: rs, h => by
    have ⟨rows, e, all⟩ := rows_of_G fun x hx => h x (List.mem_cons_of_mem _ hx)
    have ⟨row, ok, ed⟩ := row_of_G (h d (List.mem_cons_self ..))
    refine ⟨row :: rows, by rw [List.map_cons, ed, e], fun x hx => ?_⟩
    rcases List.mem_cons.mp hx with same | y
    · rw [same]
      exact ok
    · exact all x y
theorem prog_of_G {v : PyData} (h : progBad v = none) : ∃ p : Prog, p.Ok ∧ v = progD p := by
  have hd : headG v = true := by
    cases e : headG v with
    | true => rfl
    | false =>
      unfold progBad at h
      rw [if_neg (by rw [e]; decide)] at h
      cases h
  have ⟨a, b, rs, ev, b1, b8, ab, nn⟩ := headG_ex hd
  subst ev
  unfold progBad at h
  rw [if_pos hd] at h
  have h : (List.range rs.length).find? (rowBadG b (min rs.length 24) rs) = none := by
    cases e : (List.range rs.length).find? (rowBadG b (min rs.length 24) rs) with
    | none => rfl
    | some j =>
      have h : (((List.range rs.length).find? (rowBadG b (min rs.length 24) rs)).map fun i => (i : Int)) = none := h
      rw [e] at h
      cases h
  have each : ∀ i, i < rs.length → rowBadG b (min rs.length 24) rs i = false := fun i lt => by
    have z := List.find?_range_eq_none.mp h i lt
    cases e : rowBadG b (min rs.length 24) rs i with
    | false => rfl
    | true => rw [e] at z; cases z
  have few : rs.length ≤ 24 := by
    refine Nat.le_of_not_lt fun z => ?_
    have y := each 24 z
    unfold rowBadG at y
    rw [decide_eq_true rfl] at y
    cases y
  have ⟨rows, er, all⟩ := rows_of_G (n := b) (m := rs.length) (rs := rs) fun d hd => by
    have ⟨i, lt, ei⟩ := List.mem_iff_getElem.mp hd
    have z := each i lt
    unfold rowBadG at z
    rw [Bool.or_eq_false_iff] at z
    have z2 := z.2
    rw [Bool.not_eq_false', List.getD_eq_getElem?_getD, List.getElem?_eq_getElem lt, Nat.min_eq_left few] at z2
    rw [← ei]
    exact z2
  have lr : rows.length = rs.length := by rw [← er, List.length_map]
  refine ⟨⟨a, b, rows⟩, ⟨by show 0 < b; omega, b8, ab, ?_, ?_, fun row hr => ?_⟩, ?_⟩
  · show 0 < rows.length
    rw [lr]
    exact List.length_pos_iff.mpr nn
  · show rows.length ≤ 24
    omega
  · show RowOk b rows.length row
    rw [lr]
    exact all row hr
  · show _ = PyData.tuple [nI a, nI b, .tuple (rows.map rowD)]
    rw [er]
theorem row_lay (row : Row) : (rowD row).canLay0 = true ∧ (rowD row).depth = 1 := by
  cases row <;> exact ⟨by simp only [rowD, rowV, List.map_cons, List.map_nil, vD, PyData.canLay0, PyData.canLayAll0, Bool.and_true]; decide +kernel, by rfl⟩
/-- things that can be compared, of no more than a hundred rows -/
structure Fair (d : PyData) : Prop where
  sh : SeqAt.shaped d = true
  few : fewD d
theorem lay_all {ds : List PyData} (h : ∀ d ∈ ds, d.canLay0 = true) : PyData.canLayAll0 ds = true := by
  induction ds with
  | nil => rfl
  | cons d ds ih =>
    show (d.canLay0 && PyData.canLayAll0 ds) = true
    rw [h d (List.mem_cons_self ..), ih fun x hx => h x (List.mem_cons_of_mem _ hx)]
    exact Bool.and_self _
theorem deep_all {n : Nat} {ds : List PyData} (h : ∀ d ∈ ds, d.depth ≤ n) : PyData.depthAll ds ≤ n := by
  induction ds with
  | nil => exact Nat.zero_le _
  | cons d ds ih =>
    show max d.depth (PyData.depthAll ds) ≤ n
    exact Nat.max_le.mpr ⟨h d (List.mem_cons_self ..), ih fun x hx => h x (List.mem_cons_of_mem _ hx)⟩
/-- that a thing can be laid, and how deep it is -/
structure Lay0 (n : Nat) (d : PyData) : Prop where
  lay : d.canLay0 = true
  deep : d.depth ≤ n
theorem Lay0.up {n k : Nat} {d : PyData} (h : Lay0 n d) (le : n ≤ k) : Lay0 k d := ⟨h.lay, Nat.le_trans h.deep le⟩
theorem Lay0.tup {n : Nat} {ds : List PyData} (h : ∀ d ∈ ds, Lay0 n d) : Lay0 (n + 1) (.tuple ds) := ⟨by rw [PyData.canLay0]; exact lay_all fun d hd => (h d hd).lay, by rw [PyData.depth]; exact Nat.succ_le_succ (deep_all fun d hd => (h d hd).deep)⟩
theorem Lay0.lst {n : Nat} {ds : List PyData} (h : ∀ d ∈ ds, Lay0 n d) : Lay0 (n + 1) (.list ds) := ⟨by rw [PyData.canLay0]; exact lay_all fun d hd => (h d hd).lay, by rw [PyData.depth]; exact Nat.succ_le_succ (deep_all fun d hd => (h d hd).deep)⟩
theorem Lay0.shaped {n : Nat} {d : PyData} (h : Lay0 n d) (le : n ≤ 64) : SeqAt.shaped d = true := by
  show (d.canLay0 && decide (d.depth ≤ 64)) = true
  rw [h.lay, decide_eq_true (Nat.le_trans h.deep le)]
  exact Bool.and_self _
theorem Lay0.int (n : Nat) (i : Int) : Lay0 n (.int i) := ⟨rfl, Nat.zero_le _⟩
theorem Lay0.row (row : Row) : Lay0 1 (rowD row) := ⟨(row_lay row).1, Nat.le_of_eq (row_lay row).2⟩
theorem Lay0.prog (p : Prog) : Lay0 3 (progD p) := by
  refine Lay0.tup (n := 2) fun d hd => ?_
  simp only [List.mem_cons, List.not_mem_nil, or_false] at hd
  rcases hd with e | e | e <;> rw [e]
  · exact Lay0.int _ _
  · exact Lay0.int _ _
  · refine Lay0.tup (n := 1) fun x hx => ?_
    have ⟨row, _, ex⟩ := List.mem_map.mp hx
    rw [← ex]
    exact Lay0.row row
theorem Fair.prog {p : Prog} (ok : p.Ok) : Fair (progD p) := ⟨(Lay0.prog p).shaped (by decide), by
  show (p.rows.map rowD).length ≤ 100
  rw [List.length_map]
  exact Nat.le_trans ok.r1 (by decide)⟩
end Bw
namespace Bw
open PySem PySem.Spec PyProof.Rows L2 GxR Gx RZ
/-! ### tests that begin with a draw; one of a list of things; sums of tuples -/
section
variable {X : Cx} {c : Cw} {M : Addr → Prop} {Γ : List Sl}
/-- xs[n], n drawn -/
theorem px_ixD {a b : Expr} {pos : Pos} {ds : List PyData} {S : PyData → Prop} (ha : PD X c M Γ a (.list ds)) (hb : PX X c M Γ b (below ds.length)) (each : ∀ d ∈ ds, S d) (plain : PlainIx b := by exact fun _ _ => rfl) : PX X c M Γ (.Subscript a b pos) S :=
  px_two (fun h1 h2 => pe_ix ix_list h1 h2 plain) back_s (PV.among (S := fun d => d = .list ds) ha rfl) hb fun x y H Q d e ed ⟨k, kl, ee⟩ hx hy q => by
    subst ed ee
    obtain ⟨t, vs, rfl, _, ht, all⟩ := hx.lstE
    have hd : ds[k]? = some ds[k] := List.getElem?_eq_getElem kl
    obtain ⟨v, ev, tv⟩ := all.get hd
    rw [hy.intE]
    exact ⟨t, vs, _, v, rfl, rfl, SqL.of ht, atI_nat ev, q _ _ ⟨_, each _ (List.getElem_mem kl), tv⟩ (Ext.refl _ _)⟩
theorem px_catT {a b : Expr} {pos : Pos} {Sa Sb S : List PyData → Prop} (ha : PX X c M Γ a (fun d => ∃ ds, Sa ds ∧ d = .tuple ds)) (hb : PX X c M Γ b (fun d => ∃ ds, Sb ds ∧ d = .tuple ds)) (go : ∀ ds es, Sa ds → Sb es → ds.length + es.length ≤ sizeLine ∧ S (ds ++ es)) : PX X c M Γ (.BinOp a .Add b pos) (fun d => ∃ ds, S ds ∧ d = .tuple ds) :=
  px_two (fun h1 h2 => pe_op op_catA h1 h2) back_s ha hb fun x y H Q d e ⟨ds, sa, ed⟩ ⟨es, sb, ee⟩ hx hy q => by
    subst ed ee
    obtain ⟨few, s⟩ := go ds es sa sb
    obtain ⟨p, vs, rfl, hp, all⟩ := hx.tupE
    obtain ⟨p', us, rfl, hp', all'⟩ := hy.tupE
    refine ⟨p, p', vs, us, rfl, rfl, SqT.of hp, SqT.of hp', by rw [all.len, all'.len]; exact few, fun e => ?_, fun e e' => ?_, fun e e' r nr => ?_⟩
    · have z : ds = [] := all.nil_iff.mp e
      rw [z] at s
      exact q _ _ ⟨_, ⟨_, s, rfl⟩, hy⟩ (Ext.refl _ _)
    · have z : es = [] := all'.nil_iff.mp e'
      rw [z, List.append_nil] at s
      exact q _ _ ⟨_, ⟨_, s, rfl⟩, hx⟩ (Ext.refl _ _)
    · exact q _ _ ⟨_, ⟨_, s, rfl⟩, .tup upd_same ((all.app all').ext (m := no) (Ext.new nr) fun _ z => z.elim)⟩ (Ext.new nr)
end
end Bw
namespace Bw
open PySem PySem.Spec PyProof.Rows L2 GxR Gx RZ Nx TL
section
variable {X : Cx} {c : Cw} {M : Addr → Prop} {Γ : List Sl}
theorem pd_pow {a b : Expr} {i j : Int} {pos : Pos} (ha : PD X c M Γ a (.int i)) (hb : PD X c M Γ b (.int j)) (ok : CPow i j) : PD X c M Γ (.BinOp a .Pow b pos) (.int (i ^ j.toNat)) := pv_op op_pow back_d ha hb fun x y H Q hx hy q => by
  rw [hx.intE, hy.intE]
  exact ⟨i, j, rfl, rfl, ok, q _ H (.int _) (Ext.refl _ _)⟩
/-- t[:-1] -/
theorem pd_front {a : Expr} {pos p1 p2 p3 : Pos} {k1} {ds : List PyData} (ha : PD X c M Γ a (.tuple ds)) (full : ds ≠ []) : PD X c M Γ (.Subscript a (.Slice none (some (.UnaryOp .USub (.Constant (.int 1) k1 p1) p3)) none p2) pos) (.tuple ds.dropLast) :=
  (pe_slice sl_tupA ha po_none (po_some (pd_neg (i := 1) pd_int))).mono fun σ H Q ⟨r, q⟩ => ⟨r, fun v H1 hv x1 b1 => ⟨r.ext x1 b1, fun u H2 hu x2 b2 => ⟨_, hu.intE, by
    obtain ⟨p, vs, rfl, hp, all⟩ := (hv.ext x2 r.sub).tupE
    have vl : vs.length ≠ 0 := fun e => full (all.nil_iff.mp (List.eq_nil_of_length_eq_zero e))
    have cut : cutV vs none (some (-1)) = vs.dropLast := by
      unfold cutV
      rw [HT.sIx_none, List.drop_zero, Nat.sub_zero]
      have e : HT.sIx vs.length vs.length (some (-1)) = ((-1 : Int) + (vs.length : Int)).toNat := by
        show (if (-1 : Int) < 0 then ((-1 : Int) + (vs.length : Int)).toNat else min (-1 : Int).toNat vs.length) = _
        rw [if_pos (by decide)]
      rw [e, List.dropLast_eq_take]
      congr 1
      omega
    refine ⟨p, vs, rfl, SqT.of hp, fun w => ?_, fun _ z nz => ?_⟩
    · have w2 := w.2
      have e : HT.sIx vs.length vs.length (some (-1)) = ((-1 : Int) + (vs.length : Int)).toNat := by
        show (if (-1 : Int) < 0 then ((-1 : Int) + (vs.length : Int)).toNat else min (-1 : Int).toNat vs.length) = _
        rw [if_pos (by decide)]
      rw [e] at w2
      omega
    · have xn : Ext no H2 (upd H2 z (.tup (cutV vs none (some (-1))))) := Ext.new nz
      rw [cut] at xn ⊢
      exact q _ _ (.tup upd_same (all.dropLast.ext xn fun _ z => z.elim)) ((x1.trans x2).trans xn.of0) (c.st no _ _ (fun _ z => z.elim) xn b2)⟩⟩⟩
end
section
variable {X : Cx} {M : Addr → Prop} {Γ : List Sl} {Ts : List Addr} {b l : Addr}
theorem px_takeF {f : Addr} {fd : FuncData} (i : Nat) {x : Str} {p0 p pos : Pos} {e : Expr} {n : Nat} (DT : Df X.K X.mg "_law_take" s_take ["_law_box", "_law_many"] f fd) (GT : FnOk X.prog X.w X.K X.mg X.base CX0 1 f fd ["_law_box", "_law_many"] spTake) (hr : Room 1 X.A) (hx : PE X (.Name x p0) (tVar i)) (g : Γ[i]? = some (.r b)) (he : PD X (cwB Ts b l) M Γ e (nI n)) (n0 : 0 < n) (n1 : n ≤ 1000000000)
    (hg : Gl X "_law_take" := by rfl) (he1 : starEach [(.Name x p0 : Expr), e] X.env = (false, eval (.Name x p0) X.env) :: starEach [e] X.env := by rfl) (he2 : starEach [e] X.env = (false, eval e X.env) :: starEach [] X.env := by rfl) (hpl : (backTo pos (starEach [e] X.env)).any (·.1) = false := by rfl) : PX X (cwB Ts b l) M Γ (.Call (.Name "_law_take" p) [.Name x p0, e] [] pos) (below n) :=
  (pcall DT GT hr (pa_cons hx (pa_cons he pa_nil he2) he1) hg (by decide) he1 hpl).mono fun σ H Q ⟨r, q⟩ => by
    have ⟨o, e1, e2⟩ := r.sl.get g
    subst e2
    refine ⟨_, e1, r, fun v H1 hv x1 b1 => ?_⟩
    rw [hv.intE]
    refine ⟨b, l, n, rfl, b1, by omega, by omega, fun H2 k k0 k1 bo x2 => q _ H2 ⟨nI k.toNat, ⟨k.toNat, by omega, rfl⟩, ?_⟩ (x1.trans x2) bo⟩
    have ek : k = ((k.toNat : Nat) : Int) := (Int.toNat_of_nonneg k0).symm
    rw [ek]
    exact .int _
end
/-- a natural number -/
def natD : PyData → Prop := fun d => ∃ k : Nat, d = nI k
def ROdd (ds : List PyData) (d : PyData) : Prop := Lay0 3 d
def PreOdd (ds : List PyData) : Prop := ∃ row : Row, ds = [rowD row]
abbrev nOdd : List Str := ["_law_box", "_law_row_here", "_law_way", "_law_at", "_law_far", "_law_part", "_law_some"]
theorem scOdd : FnScope nOdd ["_law_box", "_law_row_here"] (defScope s_law_odd) := ⟨rfl, rfl, rfl, by decide +kernel, rfl, by decide +kernel, by decide +kernel⟩
theorem row_some (row : Row) : ∃ x xs, rowD row = .tuple (x :: xs) ∧ xs.length ≤ 3 ∧ ∀ y ∈ x :: xs, Lay0 0 y := by
  have h1 := (row_lay row).1
  have h2 := (row_lay row).2
  have ⟨x, xs, e, few⟩ : ∃ x xs, rowD row = .tuple (x :: xs) ∧ xs.length ≤ 3 := by
    cases row <;> exact ⟨_, _, rfl, by simp⟩
  rw [e, PyData.canLay0] at h1
  rw [e, PyData.depth] at h2
  refine ⟨x, xs, e, few, fun y hy => ⟨lay_in h1 hy, ?_⟩⟩
  have := deep_in hy
  omega
theorem lay_str {s : Str} (h : (PyData.str s).canLay0 = true) (n : Nat) : Lay0 n (.str s) := ⟨h, Nat.zero_le _⟩
section
variable {base : Heap} {K : PySem.W.Frag} {mg : Str → Option Value} {P : Program} {w : World}
set_option maxHeartbeats 2100000 in
theorem ok_odd {f fT : Addr} {fd fdT : FuncData} (D : Df K mg "_law_odd" s_law_odd ["_law_box", "_law_row_here"] f fd) (DT : Df K mg "_law_take" s_take ["_law_box", "_law_many"] fT fdT) (B : Bt mg) : FnOk P w K mg base CX0 2 f fd ["_law_box", "_law_row_here"] (spBx [] PreOdd ROdd) := by
  have GT : FnOk P w K mg base CX0 1 fT fdT ["_law_box", "_law_many"] spTake := ok_take DT
  refine fn_bx (N := nOdd) (k := 1) D scOdd (fun ds ⟨_, e⟩ => by rw [e]; rfl) (fun cdv A outer s H E M b l ds sub hr pre => ?_)
  have ⟨row, e0⟩ := pre
  subst e0
  have ⟨x0, xs0, er, fewr, each⟩ := row_some row
  rw [er]
  clear er
  have hN := scOdd.nd
  have cm : ∀ a, (cwB ([] : List Addr) b l).mx a → bx b l a := fun _ z => z
  refine hb_cons (hs_parX 2 3 (S1 := below 10) (S2 := below (x0 :: xs0).length) cm rfl hN (arx (px_takeF 0 DT GT hr (pv 0) rfl pd_int (by decide) (by decide)) (arx (px_takeF 0 DT GT hr (pv 0) rfl (pd_lenT B.len (pd_var 1 (pv 1) rfl)) (Nat.succ_pos _) (by rw [List.length_cons]; omega)) arx_nil))) (hb_ex fun q sq => ?_)
  obtain ⟨⟨way, wlt, ew⟩, ⟨at_, alt_, ea⟩⟩ := sq
  rw [ew, ea]
  refine hb_cons (hs_setX 4 (S := natD) cm hN (px_pick (n := 3) (S := natD) (arx (PV.among (d := nI 0) pd_int ⟨0, rfl⟩) (arx (PV.among (d := nI 1) pd_int ⟨1, rfl⟩) (arx (PV.wider (px_takeF 0 DT GT hr (pv 0) rfl (pd_pow (i := 10) (j := 9) pd_int pd_int ⟨by decide, by decide, by decide⟩) (n := 1000000000) (by decide) (by decide)) fun d ⟨k, _, e⟩ => ⟨k, e⟩) arx_nil))) (show 3 ≤ sizeLine by decide) (px_takeF 0 DT GT hr (pv 0) rfl pd_int (by decide) (by decide)))) (hb_ex fun fd0 sf => ?_)
  obtain ⟨far, ef⟩ := sf
  rw [ef]
  clear ef
  have ret : ∀ (d : PyData) (v : V) (H' : Hp), ROdd [rowD row] d → Td M H' v d → Ext (bx b l) H H' → (cwB ([] : List Addr) b l).Bx H' → ∃ d, ROdd [rowD row] d ∧ Td M H' v d ∧ BoxAt H' b l ∧ Ext (bx b l) H H' := fun d v H' r t x bo => ⟨d, r, t, bo, x⟩
  refine hb_cons (B := As (cwB [] b l) H (bx b l) M [.r b, .d (.tuple (x0 :: xs0)), .d (nI way), .d (nI at_), .d (nI far), .any, .any]) (hs_if cm (pq_ltI (pd_var 2 (pv 2) rfl) pd_int) (fun _ => ?_) (fun _ => hb_nil fun σ H' h => h)) ?_
  · refine hb_cons (hs_setX 5 (S := Lay0 1) cm hN (px_pick (n := 8) (S := Lay0 1) (arx (PV.among (pd_sub (pd_neg (i := 1) pd_int) (pd_var 4 (pv 4) rfl)) (Lay0.int _ _)) (arx (PV.among (pd_add pd_int (pd_var 4 (pv 4) rfl)) (Lay0.int _ _)) (arx (PV.among (pd_add pd_int (pd_var 4 (pv 4) rfl)) (Lay0.int _ _)) (arx (PV.among pd_bl ⟨rfl, Nat.zero_le _⟩) (arx (PV.among pd_non ⟨rfl, Nat.zero_le _⟩) (arx (PV.among pd_str (lay_str (by decide +kernel) 1)) (arx (PV.among (pd_tup (ds := [.int 0]) (ar_d pd_int ar_nil) (by decide)) ⟨rfl, by decide⟩) (arx (PV.among (pd_add pd_int (pd_var 4 (pv 4) rfl)) (Lay0.int _ _)) arx_nil)))))))) (show 8 ≤ sizeLine by decide) (px_takeF 0 DT GT hr (pv 0) rfl pd_int (by decide) (by decide)))) (hb_ex fun part sp => ?_)
    have e1 : (at_ : Int) + 1 = ((at_ + 1 : Nat) : Int) := by omega
    have small : ∀ n : Nat, n ≤ 100 → n ≤ sizeLine := fun n h => Nat.le_trans h (by decide)
    have l1 : ((x0 :: xs0).take at_).length ≤ 4 := by rw [List.length_take, List.length_cons]; omega
    have l2 : ((x0 :: xs0).drop (at_ + 1)).length ≤ 4 := by rw [List.length_drop, List.length_cons]; omega
    refine hb_one (hs_ret cm (pd_catT (pd_catT (pd_cutTo (k := at_) (pd_var 1 (pv 1) rfl) (pd_var 3 (pv 3) rfl)) (pd_tup (ds := [part]) (ar_d (pd_var 5 (pv 5) rfl) ar_nil) (small 1 (by decide))) (small _ (by show _ + 1 ≤ 100; omega))) (pd_cutFrom (k := at_ + 1) (pd_var 1 (pv 1) rfl) (by
      show PD _ _ _ _ _ (PyData.int ((at_ + 1 : Nat) : Int))
      rw [← e1]
      exact pd_add (pd_var 3 (pv 3) rfl) pd_int)) (small _ (by rw [List.length_append]; show _ + 1 + _ ≤ 100; omega))) fun v H' tv x bo => ⟨_, ?_, tv, bo, x⟩)
    refine Lay0.tup fun y hy => ?_
    rcases List.mem_append.mp hy with front | back
    · rcases List.mem_append.mp front with front | mid
      · exact (each y (List.mem_of_mem_take front)).up (by decide)
      · rw [List.mem_singleton.mp mid]
        exact sp.up (by decide)
    · exact (each y (List.mem_of_mem_drop back)).up (by decide)
  · have small : ∀ n : Nat, n ≤ 100 → n ≤ sizeLine := fun n h => Nat.le_trans h (by decide)
    obtain ⟨ten, et⟩ : ∃ ten : List PyData, ten = [.tuple [], .tuple ((x0 :: xs0) ++ [.int 0]), .tuple (x0 :: xs0).dropLast, .tuple [.str "Put", .int 0, .int 0], .list (x0 :: xs0), .none, .int 5, .tuple [.int 0, .int 0], .tuple [.str "go", .int (24 + (far : Int))], .tuple [.str "say", .int (8 + (far : Int))]] := ⟨_, rfl⟩
    have len : ten.length = 10 := by rw [et]; rfl
    refine hb_cons (hs_set 6 (d := .list ten) cm hN (by
      rw [et]
      exact PV.lst (pn_lst (ar_d (pd_tup (ds := []) ar_nil (small 0 (by decide))) (ar_d (pd_catT (es := [.int 0]) (pd_var 1 (pv 1) rfl) (pd_tup (ds := [.int 0]) (ar_d pd_int ar_nil) (small 1 (by decide))) (small _ (by rw [List.length_cons]; show _ + 1 ≤ 100; omega))) (ar_d (pd_front (pd_var 1 (pv 1) rfl) (List.cons_ne_nil _ _)) (ar_d (pd_tup (ds := [.str "Put", .int 0, .int 0]) (ar_d pd_str (ar_d pd_int (ar_d pd_int ar_nil))) (small 3 (by decide))) (ar_d (PV.lst (pn_listT B.list (pd_var 1 (pv 1) rfl))) (ar_d pd_non (ar_d pd_int (ar_d (pd_tup (ds := [.int 0, .int 0]) (ar_d pd_int (ar_d pd_int ar_nil)) (small 2 (by decide))) (ar_d (pd_tup (ds := [.str "go", .int (24 + (far : Int))]) (ar_d pd_str (ar_d (pd_add pd_int (pd_var 4 (pv 4) rfl)) ar_nil)) (small 2 (by show 2 ≤ 100; decide))) (ar_d (pd_tup (ds := [.str "say", .int (8 + (far : Int))]) (ar_d pd_str (ar_d (pd_add pd_int (pd_var 4 (pv 4) rfl)) ar_nil)) (small 2 (by show 2 ≤ 100; decide))) ar_nil)))))))))) (small 10 (by show 10 ≤ 100; decide))))) ?_
    have all : ∀ d ∈ ten, Lay0 3 d := fun d hd => by
      rw [et] at hd
      simp only [List.mem_cons, List.not_mem_nil, or_false] at hd
      rcases hd with e | e | e | e | e | e | e | e | e | e <;> rw [e]
      · exact ⟨rfl, Nat.le_add_left 1 2⟩
      · refine Lay0.tup fun y hy => ?_
        rcases List.mem_append.mp hy with front | back
        · exact (each y front).up (by decide)
        · rw [List.mem_singleton.mp back]
          exact Lay0.int _ _
      · exact Lay0.tup fun y hy => (each y (List.mem_of_mem_take (by rw [← List.dropLast_eq_take]; exact hy))).up (by decide)
      · exact ⟨by decide +kernel, by decide +kernel⟩
      · exact Lay0.lst fun y hy => (each y hy).up (by decide)
      · exact ⟨rfl, Nat.zero_le _⟩
      · exact Lay0.int _ _
      · exact ⟨rfl, by decide +kernel⟩
      · refine Lay0.tup fun y hy => ?_
        simp only [List.mem_cons, List.not_mem_nil, or_false] at hy
        rcases hy with e | e <;> rw [e]
        · exact lay_str (by decide +kernel) _
        · exact Lay0.int _ _
      · refine Lay0.tup fun y hy => ?_
        simp only [List.mem_cons, List.not_mem_nil, or_false] at hy
        rcases hy with e | e <;> rw [e]
        · exact lay_str (by decide +kernel) _
        · exact Lay0.int _ _
    exact hb_one (hs_retX cm (px_ixD (ds := ten) (pd_var 6 (pv 6) rfl) (by rw [len]; exact px_takeF 0 DT GT hr (pv 0) rfl pd_int (by decide) (by decide)) all) fun d v H' sd tv x bo => ⟨d, sd, tv, bo, x⟩)
end
end Bw
namespace Bw
open PySem PySem.Spec PyProof.Rows L2 GxR Gx RZ Nx TL
/-! ### _law_bent, of a program -/
def RBentP (ds : List PyData) (d : PyData) : Prop := Fair d
def PreBentP (ds : List PyData) : Prop := ∃ p : Prog, ds = [progD p] ∧ p.Ok
abbrev nBentP : List Str := ["_law_box", "_law_program_here", "_law_params", "_law_names", "_law_rows", "_law_way", "_law_far", "_law_some", "_law_at"]
theorem scBentP : FnScope nBentP ["_law_box", "_law_program_here"] (defScope s_law_bent) := ⟨rfl, rfl, rfl, by decide +kernel, rfl, by decide +kernel, by decide +kernel⟩
theorem flat_one {d : PyData} (n : Nat) : (List.replicate n [d]).flatten = List.replicate n d := by
  induction n with
  | zero => rfl
  | succ n ih =>
    rw [List.replicate_succ, List.flatten_cons, ih, List.replicate_succ]
    rfl
section
variable {X : Cx} {c : Cw} {M : Addr → Prop} {Γ : List Sl}
/-- (e,) * k -/
theorem pd_repU {a b : Expr} {pos : Pos} {d : PyData} {n : Nat} (ha : PD X c M Γ a (.tuple [d])) (hb : PD X c M Γ b (.int n)) (n1 : 1 < n) (n2 : n ≤ 1000) : PD X c M Γ (.BinOp a .Mult b pos) (.tuple (List.replicate n d)) :=
  pv_op op_repT back_d ha hb fun x y H Q hx hy q => by
    have ⟨p, vs, e, hp, all⟩ := hx.tupE
    subst e
    rw [hy.intE]
    refine ⟨p, n, vs, rfl, rfl, SqT.of hp, fun e => absurd (all.nil_iff.mp e) (by simp), by omega, by omega, by rw [all.len]; exact (by decide : 1 ≤ 1000), fun r nr => q _ _ ?_ (Ext.new nr)⟩
    have r1 := all.rep n
    rw [flat_one] at r1
    exact .tup upd_same (r1.ext (m := no) (Ext.new nr) fun _ z => z.elim)
end
theorem Fair.of {n : Nat} {d : PyData} (h : Lay0 n d) (le : n ≤ 64) (few : fewD d) : Fair d := ⟨h.shaped le, few⟩
theorem lay3 {n : Nat} {a b r : PyData} (h1 : Lay0 n a) (h2 : Lay0 n b) (h3 : Lay0 n r) : Lay0 (n + 1) (.tuple [a, b, r]) := Lay0.tup fun y hy => by
  simp only [List.mem_cons, List.not_mem_nil, or_false] at hy
  rcases hy with e | e | e <;> rw [e] <;> assumption
section
variable {base : Heap} {K : PySem.W.Frag} {mg : Str → Option Value} {P : Program} {w : World}
set_option maxHeartbeats 2100000 in
theorem ok_bentP {f fT fO : Addr} {fd fdT fdO : FuncData} (D : Df K mg "_law_bent" s_law_bent ["_law_box", "_law_program_here"] f fd) (DT : Df K mg "_law_take" s_take ["_law_box", "_law_many"] fT fdT) (DO : Df K mg "_law_odd" s_law_odd ["_law_box", "_law_row_here"] fO fdO) (B : Bt mg) : FnOk P w K mg base CX0 3 f fd ["_law_box", "_law_program_here"] (spBx [] PreBentP RBentP) := by
  have GT : FnOk P w K mg base CX0 1 fT fdT ["_law_box", "_law_many"] spTake := ok_take DT
  have GO : FnOk P w K mg base CX0 2 fO fdO ["_law_box", "_law_row_here"] (spBx [] PreOdd ROdd) := ok_odd DO DT B
  refine fn_bx (N := nBentP) (k := 2) D scBentP (fun ds ⟨_, e, _⟩ => by rw [e]; rfl) (fun cdv A outer s H E M b l ds sub hr pre => ?_)
  have ⟨p, e0, pok⟩ := pre
  subst e0
  have hr1 := hr.mono (show 1 ≤ 2 by decide)
  have hN := scBentP.nd
  have cm : ∀ a, (cwB ([] : List Addr) b l).mx a → bx b l a := fun _ z => z
  have small : ∀ n : Nat, n ≤ 100 → n ≤ sizeLine := fun n h => Nat.le_trans h (by decide)
  obtain ⟨rs, ers⟩ : ∃ rs : List PyData, p.rows.map rowD = rs := ⟨_, rfl⟩
  have len : rs.length = p.rows.length := by rw [← ers, List.length_map]
  have few : rs.length ≤ 24 := by rw [len]; exact pok.r1
  have pos : 0 < rs.length := by rw [len]; exact pok.r0
  have lay : ∀ d ∈ rs, Lay0 1 d := fun d hd => by
    rw [← ers] at hd
    have ⟨row, _, e⟩ := List.mem_map.mp hd
    rw [← e]
    exact Lay0.row row
  have layR : Lay0 2 (.tuple rs) := Lay0.tup lay
  have ep : progD p = .tuple [nI p.params, nI p.names, .tuple rs] := by rw [← ers]; rfl
  rw [ep]
  refine hb_cons (hs_asg (d := .tuple [nI p.params, nI p.names, .tuple rs]) (own := [2, 3, 4]) cm (pd_var 1 (pv 1) rfl) (pg_tup rfl (pgs_cons (pg_name (i := 2) hN rfl (Or.inl rfl)) (pgs_cons (pg_name (i := 3) hN rfl (Or.inl rfl)) (pgs_cons (pg_name (i := 4) hN rfl (Or.inl rfl)) pgs_nil)))) (tg_three 2 3 4) (fun h1 h2 => ps_asg h1 h2)) ?_
  refine hb_cons (hs_setX 5 (S := below 9) cm hN (px_takeF 0 DT GT hr1 (pv 0) rfl pd_int (by decide) (by decide))) (hb_ex fun wd sw => ?_)
  obtain ⟨way, wlt, ew⟩ := sw
  rw [ew]
  clear ew
  refine hb_cons (hs_setX 6 (S := natD) cm hN (px_pick (n := 3) (S := natD) (arx (PV.among (d := nI 0) pd_int ⟨0, rfl⟩) (arx (PV.among (d := nI 1) pd_int ⟨1, rfl⟩) (arx (PV.wider (px_takeF 0 DT GT hr1 (pv 0) rfl (pd_pow (i := 10) (j := 9) pd_int pd_int ⟨by decide, by decide, by decide⟩) (n := 1000000000) (by decide) (by decide)) fun d ⟨k, _, e⟩ => ⟨k, e⟩) arx_nil))) (show 3 ≤ sizeLine by decide) (px_takeF 0 DT GT hr1 (pv 0) rfl pd_int (by decide) (by decide)))) (hb_ex fun fd0 sf => ?_)
  obtain ⟨far, ef⟩ := sf
  rw [ef]
  clear ef
  refine hb_cons (B := As (cwB [] b l) H (bx b l) M [.r b, .d (.tuple [nI p.params, nI p.names, .tuple rs]), .d (nI p.params), .d (nI p.names), .d (.tuple rs), .d (nI way), .d (nI far), .any, .any]) (hs_if cm (pq_eqI (pd_var 5 (pv 5) rfl) pd_int) (fun _ => ?_) (fun _ => hb_nil fun σ H' h => h)) ?_
  · obtain ⟨t4, e4⟩ : ∃ t4 : List PyData, t4 = [.tuple [.int (-1 - (far : Int)), nI p.names, .tuple rs], .tuple [.int ((p.names : Int) + 1 + (far : Int)), nI p.names, .tuple rs], .tuple [nI p.params, .int 0, .tuple rs], .tuple [nI p.params, .int (9 + (far : Int)), .tuple rs]] := ⟨_, rfl⟩
    obtain ⟨t6, e6⟩ : ∃ t6 : List PyData, t6 = [.tuple [nI p.params, nI p.names, .tuple []], .tuple [nI p.params, nI p.names, .list rs], .tuple [nI p.params, nI p.names], .tuple ([nI p.params, nI p.names, .tuple rs] ++ [.int 0]), .int 5, .none] := ⟨_, rfl⟩
    obtain ⟨t3, e3⟩ : ∃ t3 : List PyData, t3 = [.tuple [.bool true, nI p.names, .tuple rs], .tuple [nI p.params, .bool true, .tuple rs], .list [nI p.params, nI p.names, .tuple rs]] := ⟨_, rfl⟩
    have l4 : t4.length = 4 := by rw [e4]; rfl
    have l6 : t6.length = 6 := by rw [e6]; rfl
    have l3 : t3.length = 3 := by rw [e3]; rfl
    have few13 : ∀ {a b d : PyData} {rs : List PyData}, rs.length ≤ 24 → fewD (.tuple [a, b, .tuple rs]) := fun h => Nat.le_trans h (by decide)
    have all : ∀ d ∈ (t4 ++ t6) ++ t3, Fair d := fun d hd => by
      rw [e4, e6, e3] at hd
      simp only [List.cons_append, List.nil_append, List.mem_cons, List.not_mem_nil, or_false] at hd
      have small24 : rs.length ≤ 100 := Nat.le_trans few (by decide)
      have i2 : ∀ i, Lay0 2 (.int i) := Lay0.int 2
      rcases hd with e | e | e | e | e | e | e | e | e | e | e | e | e <;> rw [e]
      · exact .of (lay3 (i2 _) (i2 _) layR) (by decide) small24
      · exact .of (lay3 (i2 _) (i2 _) layR) (by decide) small24
      · exact .of (lay3 (i2 _) (i2 _) layR) (by decide) small24
      · exact .of (lay3 (i2 _) (i2 _) layR) (by decide) small24
      · exact .of (lay3 (i2 _) (i2 _) (Lay0.tup fun _ z => nomatch z)) (by decide) (Nat.zero_le _)
      · exact .of (lay3 (i2 _) (i2 _) (Lay0.lst lay)) (by decide) trivial
      · exact .of (n := 1) ⟨rfl, by show 1 ≤ 1; decide⟩ (by decide) trivial
      · refine .of (n := 3) (Lay0.tup fun y hy => ?_) (by decide) trivial
        simp only [List.mem_cons, List.not_mem_nil, or_false] at hy
        rcases hy with e | e | e | e <;> rw [e]
        · exact i2 _
        · exact i2 _
        · exact layR
        · exact i2 _
      · exact .of (Lay0.int 0 _) (by decide) trivial
      · exact .of (n := 0) ⟨rfl, Nat.zero_le _⟩ (by decide) trivial
      · exact .of (lay3 ⟨rfl, Nat.zero_le _⟩ (i2 _) layR) (by decide) small24
      · exact .of (lay3 (i2 _) ⟨rfl, Nat.zero_le _⟩ layR) (by decide) small24
      · refine .of (n := 3) (Lay0.lst fun y hy => ?_) (by decide) trivial
        simp only [List.mem_cons, List.not_mem_nil, or_false] at hy
        rcases hy with e | e | e <;> rw [e]
        · exact i2 _
        · exact i2 _
        · exact layR
    refine hb_cons (hs_set 7 (d := .list t4) cm hN (by
      rw [e4]
      exact PV.lst (pn_lst (ar_d (pd_tup (ds := [.int (-1 - (far : Int)), nI p.names, .tuple rs]) (ar_d (pd_sub (pd_neg (i := 1) pd_int) (pd_var 6 (pv 6) rfl)) (ar_d (pd_var 3 (pv 3) rfl) (ar_d (pd_var 4 (pv 4) rfl) ar_nil))) (small 3 (by decide))) (ar_d (pd_tup (ds := [.int ((p.names : Int) + 1 + (far : Int)), nI p.names, .tuple rs]) (ar_d (pd_add (pd_add (pd_var 3 (pv 3) rfl) pd_int) (pd_var 6 (pv 6) rfl)) (ar_d (pd_var 3 (pv 3) rfl) (ar_d (pd_var 4 (pv 4) rfl) ar_nil))) (small 3 (by decide))) (ar_d (pd_tup (ds := [nI p.params, .int 0, .tuple rs]) (ar_d (pd_var 2 (pv 2) rfl) (ar_d pd_int (ar_d (pd_var 4 (pv 4) rfl) ar_nil))) (small 3 (by decide))) (ar_d (pd_tup (ds := [nI p.params, .int (9 + (far : Int)), .tuple rs]) (ar_d (pd_var 2 (pv 2) rfl) (ar_d (pd_add pd_int (pd_var 6 (pv 6) rfl)) (ar_d (pd_var 4 (pv 4) rfl) ar_nil))) (small 3 (by decide))) ar_nil)))) (small 4 (by decide))))) ?_
    refine hb_cons (hs_set 7 (d := .list (t4 ++ t6)) cm hN (by
      rw [e6]
      exact PV.lst (pn_cat (pd_var 7 (pv 7) rfl) (PV.lst (pn_lst (ar_d (pd_tup (ds := [nI p.params, nI p.names, .tuple []]) (ar_d (pd_var 2 (pv 2) rfl) (ar_d (pd_var 3 (pv 3) rfl) (ar_d (pd_tup (ds := []) ar_nil (small 0 (by decide))) ar_nil))) (small 3 (by decide))) (ar_d (pd_tup (ds := [nI p.params, nI p.names, .list rs]) (ar_d (pd_var 2 (pv 2) rfl) (ar_d (pd_var 3 (pv 3) rfl) (ar_d (PV.lst (pn_listT B.list (pd_var 4 (pv 4) rfl))) ar_nil))) (small 3 (by decide))) (ar_d (pd_tup (ds := [nI p.params, nI p.names]) (ar_d (pd_var 2 (pv 2) rfl) (ar_d (pd_var 3 (pv 3) rfl) ar_nil)) (small 2 (by decide))) (ar_d (pd_catT (ds := [nI p.params, nI p.names, .tuple rs]) (es := [.int 0]) (pd_var 1 (pv 1) rfl) (pd_tup (ds := [.int 0]) (ar_d pd_int ar_nil) (small 1 (by decide))) (small 4 (by decide))) (ar_d pd_int (ar_d pd_non ar_nil)))))) (small 6 (by decide)))) (by rw [l4]; exact small 10 (by decide))))) ?_
    exact hb_one (hs_retX cm (px_ixD (ds := (t4 ++ t6) ++ t3) (by
      rw [e3]
      exact PV.lst (pn_cat (pd_var 7 (pv 7) rfl) (PV.lst (pn_lst (ar_d (pd_tup (ds := [.bool true, nI p.names, .tuple rs]) (ar_d pd_bl (ar_d (pd_var 3 (pv 3) rfl) (ar_d (pd_var 4 (pv 4) rfl) ar_nil))) (small 3 (by decide))) (ar_d (pd_tup (ds := [nI p.params, .bool true, .tuple rs]) (ar_d (pd_var 2 (pv 2) rfl) (ar_d pd_bl (ar_d (pd_var 4 (pv 4) rfl) ar_nil))) (small 3 (by decide))) (ar_d (PV.lst (pn_listT B.list (pd_var 1 (pv 1) rfl))) ar_nil))) (small 3 (by decide)))) (by rw [List.length_append, l4, l6]; exact small 13 (by decide)))) (by rw [List.length_append, List.length_append, l4, l6, l3]; exact px_takeF 0 DT GT hr1 (pv 0) rfl pd_int (by decide) (by decide)) all) fun d v H' sd tv x bo => ⟨d, sd, tv, bo, x⟩)
  · have el : (rs.length : Int) - 1 = ((rs.length - 1 : Nat) : Int) := by omega
    refine hb_cons (hs_setX 8 (S := below rs.length) cm hN (px_pick (n := 2) (S := below rs.length) (arx (PV.among (d := nI (rs.length - 1)) (by
      show PD _ _ _ _ _ (PyData.int ((rs.length - 1 : Nat) : Int))
      rw [← el]
      exact pd_sub (pd_lenT B.len (pd_var 4 (pv 4) rfl)) pd_int) ⟨_, by omega, rfl⟩) (arx (px_takeF 0 DT GT hr1 (pv 0) rfl (pd_lenT B.len (pd_var 4 (pv 4) rfl)) pos (by omega)) arx_nil)) (small 2 (by decide)) (px_takeF 0 DT GT hr1 (pv 0) rfl pd_int (by decide) (by decide)))) (hb_ex fun ad sa => ?_)
    obtain ⟨at_, alt_, ea⟩ := sa
    rw [ea]
    clear ea
    have told : ∀ xs : List PyData, xs.length ≤ 60 → (∀ d ∈ xs, Lay0 3 d) → Fair (.tuple [nI p.params, nI p.names, .tuple xs]) := fun xs h1 h2 => .of (n := 5) (lay3 (Lay0.int _ _) (Lay0.int _ _) (Lay0.tup h2)) (by decide) (Nat.le_trans h1 (by decide))
    have three : ∀ {e1 e2 e3 : Expr} {k pp}, PX (cxOf CX0 P w K mg base nBentP "_law_bent" (defScope s_law_bent) f cdv A outer s H E).nox (cwB [] b l) M [.r b, .d (.tuple [nI p.params, nI p.names, .tuple rs]), .d (nI p.params), .d (nI p.names), .d (.tuple rs), .d (nI way), .d (nI far), .any, .d (nI at_)] (.Tuple [e1, e2, e3] k pp) (fun d => ∃ ds, Fits [fun d => d = nI p.params, fun d => d = nI p.names, fun d => ∃ xs, (xs.length ≤ 60 ∧ ∀ d ∈ xs, Lay0 3 d) ∧ d = .tuple xs] ds ∧ d = .tuple ds) → PX (cxOf CX0 P w K mg base nBentP "_law_bent" (defScope s_law_bent) f cdv A outer s H E).nox (cwB [] b l) M [.r b, .d (.tuple [nI p.params, nI p.names, .tuple rs]), .d (nI p.params), .d (nI p.names), .d (.tuple rs), .d (nI way), .d (nI far), .any, .d (nI at_)] (.Tuple [e1, e2, e3] k pp) Fair := fun h => PV.wider h fun d ⟨ds, fit, e⟩ => by
      subst e
      cases fit with
      | cons h1 t =>
        cases t with
        | cons h2 t =>
          cases t with
          | cons h3 t =>
            cases t
            have ⟨xs, ⟨k1, k2⟩, e⟩ := h3
            subst h1 h2 e
            exact told xs k1 k2
    refine hb_cons (B := As (cwB [] b l) H (bx b l) M [.r b, .d (.tuple [nI p.params, nI p.names, .tuple rs]), .d (nI p.params), .d (nI p.names), .d (.tuple rs), .d (nI way), .d (nI far), .any, .d (nI at_)]) (hs_if cm (pq_eqI (pd_var 5 (pv 5) rfl) pd_int) (fun _ => ?_) (fun _ => hb_nil fun σ H' h => h)) ?_
    · refine hb_one (hs_retX cm (three (px_tup (arx (PV.among (pd_var 2 (pv 2) rfl) rfl) (arx (PV.among (pd_var 3 (pv 3) rfl) rfl) (arx (px_catT (Sa := fun ds => ds = (rs ++ List.replicate 25 (PyData.tuple [PyData.str "end"])).take 25) (Sb := fun ds => ds.length ≤ 2 ∧ ∀ x ∈ ds, x = PyData.tuple []) (PV.among (pd_cutTo (k := 25) (pd_catT (pd_var 4 (pv 4) rfl) (pd_repU (n := 25) (d := .tuple [.str "end"]) (pd_tup (ds := [.tuple [.str "end"]]) (ar_d (pd_tup (ds := [.str "end"]) (ar_d pd_str ar_nil) (small 1 (by decide))) ar_nil) (small 1 (by decide))) pd_int (by decide) (by decide)) (by rw [List.length_replicate]; exact small _ (by omega))) pd_int) ⟨_, rfl, rfl⟩) (px_rep (S := fun x => x = PyData.tuple []) (PV.among (pd_tup (ds := [.tuple []]) (ar_d (pd_tup (ds := []) ar_nil (small 0 (by decide))) ar_nil) (small 1 (by decide))) ⟨_, rfl, rfl⟩) (PV.wider (px_takeF 0 DT GT hr1 (pv 0) rfl pd_int (n := 2) (by decide) (by decide)) fun d ⟨k, lt, e⟩ => ⟨k, by omega, e⟩)) (fun ds es e1 e2 => ⟨?_, ?_, fun x hx => ?_⟩)) arx_nil))) (small 3 (by decide)))) fun d v H' sd tv x bo => ⟨d, sd, tv, bo, x⟩)
      · rw [e1, List.length_take]
        exact small _ (by omega)
      · rw [e1, List.length_append, List.length_take]
        omega
      · rcases List.mem_append.mp hx with front | back
        · rw [e1] at front
          rcases List.mem_append.mp (List.mem_of_mem_take front) with row | fill
          · exact (lay x row).up (by decide)
          · rw [(List.mem_replicate.mp fill).2]
            exact ⟨by decide +kernel, by decide +kernel⟩
        · rw [e2.2 x back]
          exact ⟨rfl, Nat.le_add_left 1 2⟩
    · have hrow : ∃ row : Row, rs[at_]? = some (rowD row) := by
        have h1 : rs[at_]? = some rs[at_] := List.getElem?_eq_getElem alt_
        have m1 : rs[at_] ∈ p.rows.map rowD := by
          rw [ers]
          exact List.getElem_mem alt_
        have ⟨row, _, e⟩ := List.mem_map.mp m1
        exact ⟨row, by rw [h1, ← e]⟩
      have ⟨row, erow⟩ := hrow
      have e1 : (at_ : Int) + 1 = ((at_ + 1 : Nat) : Int) := by omega
      refine hb_one (hs_retX cm (three (px_tup (arx (PV.among (pd_var 2 (pv 2) rfl) rfl) (arx (PV.among (pd_var 3 (pv 3) rfl) rfl) (arx (px_catT (Sa := fun ds => ds.length ≤ 30 ∧ ∀ d ∈ ds, Lay0 3 d) (Sb := fun ds => ds = rs.drop (at_ + 1)) (px_catT (Sa := fun ds => ds = rs.take at_) (Sb := fun ds => Fits [Lay0 3] ds) (PV.among (pd_cutTo (k := at_) (pd_var 4 (pv 4) rfl) (pd_var 8 (pv 8) rfl)) ⟨_, rfl, rfl⟩) (px_tup (arx (PV.wider (px_bx (ds := [rowD row]) 0 DO GO hr (pv 0) rfl (ar_d (pd_ixT (n := at_) (pd_var 4 (pv 4) rfl) (pd_var 8 (pv 8) rfl) erow) ar_nil) ⟨row, rfl⟩) fun d h => h) arx_nil) (small 1 (by decide))) (fun ds es a1 a2 => ⟨?_, ?_, fun x hx => ?_⟩)) (PV.among (pd_cutFrom (k := at_ + 1) (pd_var 4 (pv 4) rfl) (by
        show PD _ _ _ _ _ (PyData.int ((at_ + 1 : Nat) : Int))
        rw [← e1]
        exact pd_add (pd_var 8 (pv 8) rfl) pd_int)) ⟨_, rfl, rfl⟩) (fun ds es a1 a2 => ⟨?_, ?_, fun x hx => ?_⟩)) arx_nil))) (small 3 (by decide)))) fun d v H' sd tv x bo => ⟨d, sd, tv, bo, x⟩)
      · have := a2.len
        rw [a1, List.length_take]
        exact small _ (by rw [this]; show _ + 1 ≤ 100; omega)
      · have := a2.len
        rw [a1, List.length_append, List.length_take, this]
        show _ + 1 ≤ 30
        omega
      · rcases List.mem_append.mp hx with front | back
        · rw [a1] at front
          exact (lay x (List.mem_of_mem_take front)).up (by decide)
        · cases a2 with
          | cons h t =>
            cases t
            rw [List.mem_singleton.mp back]
            exact h
      · have := a1.1
        rw [a2, List.length_drop]
        exact small _ (by omega)
      · have := a1.1
        rw [a2, List.length_append, List.length_drop]
        omega
      · rcases List.mem_append.mp hx with front | back
        · exact a1.2 x front
        · rw [a2] at back
          exact (lay x (List.mem_of_mem_drop back)).up (by decide)
end
end Bw
namespace Bw
open PySem PySem.Spec PyProof.Rows L2 GxR Gx RZ Nx TL
/-! ### closures from further away -/
/-- its cells are known; what comes of it is o -/
structure FarAt (P : Program) (w : World) (K : PySem.W.Frag) (mg : Str → Option Value) (base : Heap) (Ts : List Addr) (M : Addr → Prop) (k : Nat) (o : Out) (H : Hp) (f : Addr) : Prop where
  ex : ∃ (sp : CloSp) (cells : List (Str × Addr)) (N : List Str) (C : List (Addr × Obj)) (σL : L2.St) (ΓL : List Sl), CloAt H f sp cells ∧ knowsC H C ∧ CloOk N sp.sc cells C σL ∧ BndSp sp ∧ (∀ z ∈ sp.sc.names, z.2 ≠ .cell) ∧ (∀ a z, C.lookup a = some z → ¬ M a) ∧ Reps (cw0 Ts) M H σL ΓL ∧ (∀ a xs q, Sl.l a xs q ∉ ΓL) ∧
    ∀ (Z : Cx) (c1 : Addr) (A : Around) (outer : List Env) (s' : Shared) (H' : Hp) (E : XK), Z.prog = P → Z.w = w → Z.K = K → Z.mg = mg → Z.base = base → Room k (A.deeper (cloEnv sp.q sp.sc cells s'.heap.objs.size f c1)) → PE (cloCx Z N sp.q sp.sc cells A outer s' H' E f c1) sp.body (tOut (fun cls d _ H' => E cls d H') (cw0 Ts) no ΓL o)
theorem FarAt.ext {P : Program} {w : World} {K : PySem.W.Frag} {mg : Str → Option Value} {base : Heap} {Ts : List Addr} {M m : Addr → Prop} {k : Nat} {o : Out} {H H' : Hp} {f : Addr} (h : FarAt P w K mg base Ts M k o H f) (x : Ext m H H') (sub : ∀ a, m a → M a) (nf : ¬ M f) : FarAt P w K mg base Ts M k o H' f :=
  have ⟨sp, cells, N, C, σL, ΓL, at_, kn, ok, bnd, noC, off, sl, nol, run⟩ := h.ex
  ⟨sp, cells, N, C, σL, ΓL, at_.ext x fun z => nf (sub f z), fun a z e => x.oth a _ (fun y => off a z e (sub a y)) (fun _ y => by cases y) (kn a z e), ok, bnd, noC, off, sl.extW x sub fun a xs q z => (nol a xs q z).elim, nol, run⟩
theorem FarAt.kind {X : Cx} {c : Cw} {M : Addr → Prop} {Γ : List Sl} {k : Nat} {o : Out} {H : Hp} {f : Addr} (h : FarAt X.prog X.w X.K X.mg X.base c.Ts M k o H f) (sub : ∀ a, c.mx a → M a) : KindAt X c M Γ k o H f :=
  have ⟨sp, cells, N, C, σL, ΓL, at_, kn, ok, bnd, noC, off, sl, nol, run⟩ := h.ex
  .far sp cells N C σL ΓL at_ kn ok bnd noC (fun a z e y => off a z e (sub a y)) sl nol run
theorem bnd_plain {sp : CloSp} (h : sp.df = false) (e : ∀ (cells : List (Str × Addr)) (doc pm ct : Value) (c1 : Addr), bindArgs (PySem.W.kdv_fn "<lambda>" sp.q sp.as (.expr sp.body) sp.sc cells .none doc pm (.ref c1) ct) ⟨[], []⟩ = pure []) : BndSp sp := fun cells dV doc pm ct c1 t d => by
  rcases d with ⟨_, e0⟩ | ⟨_, _, _, _, z, _⟩
  · subst e0
    exact ⟨[], BindsTo.of_eq (e cells doc pm ct c1), fun z h => nomatch h⟩
  · rw [h] at z
    cases z
/-- what stays as it is where cells are known beside it -/
theorem Reps.beside {c c' : Cw} {M : Addr → Prop} {H H1 : Hp} (up : ∀ a o, H a = some o → H1 a = some o) : ∀ {σ : List (Option V)} {Γ : List Sl}, Reps c M H σ Γ → (∀ a xs q, Sl.l a xs q ∉ Γ) → Reps c' M H1 σ Γ
  | _, _, .nil, _ => .nil
  | _, _, .cons (s := .any) h t, k => .cons trivial (Reps.beside up t fun a xs q z => k a xs q (List.mem_cons_of_mem _ z))
  | _, _, .cons (s := .d _) h t, k => .cons (s := .d _) ⟨h.choose, h.choose_spec.1, h.choose_spec.2.under fun a o _ e => up a o e⟩ (Reps.beside up t fun a xs q z => k a xs q (List.mem_cons_of_mem _ z))
  | _, _, .cons (s := .r _) h t, k => .cons (s := .r _) h (Reps.beside up t fun a xs q z => k a xs q (List.mem_cons_of_mem _ z))
  | _, _, .cons (s := .l _ _ _) h t, k => (k _ _ _ (List.mem_cons_self ..)).elim
theorem ext_beside {H : Hp} {C : List (Addr × Obj)} (off : offC H C) : Ext no H (withC H C) := by
  refine ⟨fun a xs e => up_with off _ _ e, fun a o _ _ e => up_with off _ _ e, fun T t => ?_, fun a e => ?_, fun T ps _ _ e => up_with off _ _ e, fun a q e => up_with off _ _ e⟩
  · have ⟨⟨ps, e, tri⟩, out⟩ := t
    exact ⟨⟨ps, up_with off _ _ e, tri⟩, out⟩
  · cases ec : C.lookup a with
    | some o => exact off a o ec
    | none => rwa [withC_out ec] at e
/-! ### the doors -/
/-- all that are handed a program, each of them refuses what is none -/
structure OnD (P : Program) (w : World) (K : PySem.W.Frag) (mg : Str → Option Value) (base : Heap) (Ts : List Addr) (CP : Addr) : Prop where
  d_run_boxes : ∃ f fd, Df K mg "run_boxes" s_run_boxes ["program", "frame", "choice", "given", "fuel", "junk"] f fd ∧ FnOk P w K mg base (L2.CX P w) 7 f fd ["program", "frame", "choice", "given", "fuel", "junk"] (spFunX Ts (RRef CP 5))
  d_walk : ∃ f fd, Df K mg "walk" s_walk ["program", "frame", "choice", "ways"] f fd ∧ FnOk P w K mg base (L2.CX P w) 7 f fd ["program", "frame", "choice", "ways"] (spFunX Ts (RRef CP 3))
  d_paper : ∃ f fd, Df K mg "paper" s_paper ["program", "frame", "choice"] f fd ∧ FnOk P w K mg base (L2.CX P w) 7 f fd ["program", "frame", "choice"] (spFunX Ts (RRef CP 2))
  d_shows : ∃ f fd, Df K mg "shows" s_shows ["program", "frame", "choice", "told"] f fd ∧ FnOk P w K mg base (L2.CX P w) 7 f fd ["program", "frame", "choice", "told"] (spFunX Ts (RRef CP 3))
  d_checked : ∃ f fd, Df K mg "checked" s_checked ["program", "frame", "choice"] f fd ∧ FnOk P w K mg base (L2.CX P w) 7 f fd ["program", "frame", "choice"] (spFunX Ts (RRef CP 2))
  d_least : ∃ f fd, Df K mg "least" s_least ["program", "frame", "choice", "most"] f fd ∧ FnOk P w K mg base (L2.CX P w) 7 f fd ["program", "frame", "choice", "most"] (spFunX Ts (RRef CP 3))
  d_renumbered : ∃ f fd, Df K mg "renumbered" s_renumbered ["program", "frame", "choice", "order"] f fd ∧ FnOk P w K mg base (L2.CX P w) 7 f fd ["program", "frame", "choice", "order"] (spFunX Ts (RRef CP 3))
  d_written_choice : ∃ f fd, Df K mg "written_choice" s_written_choice ["program", "frame", "choice"] f fd ∧ FnOk P w K mg base (L2.CX P w) 7 f fd ["program", "frame", "choice"] (spFunX Ts (RRef CP 2))
  d_run : ∃ f fd, Df K mg "run" s_run ["program", "given", "fuel"] f fd ∧ FnOk P w K mg base (L2.CX P w) 6 f fd ["program", "given", "fuel"] (spFunX Ts (RRef CP 2))
  d_made : ∃ f fd, Df K mg "made" s_made ["program", "frame"] f fd ∧ FnOk P w K mg base (L2.CX P w) 6 f fd ["program", "frame"] (spFunX Ts (RRef CP 1))
  d_written : ∃ f fd, Df K mg "written" s_written ["program"] f fd ∧ FnOk P w K mg base (L2.CX P w) 6 f fd ["program"] (spFunX Ts (RRef CP 0))
  d_read_choice : ∃ f fd, Df K mg "read_choice" s_read_choice ["program", "frame", "text"] f fd ∧ FnOk P w K mg base (L2.CX P w) 6 f fd ["program", "frame", "text"] (spFunX Ts (RRef CP 2))
  d_wit : ∃ C g fd, L2.Mk K C g ∧ mg "Witness" = some (.ref C) ∧ Binds K fd ["self", "program", "frame", "choice"] [] ∧ FnOk P w K mg base (L2.CX P w) 7 g fd ["self", "program", "frame", "choice"] (spInitR C CP Ts)
abbrev nDoors : List Str := ["_law_program_here", "_law_frame_here", "_law_choice_here", "_law_works"]
theorem scDoors : FnScope nDoors ["_law_program_here", "_law_frame_here", "_law_choice_here"] (defScope s_law_doors) := ⟨rfl, rfl, rfl, by decide +kernel, rfl, by decide +kernel, by decide +kernel⟩
/-- how the lambdas of a def are called -/
abbrev lamQ (x : Str) (st : Stmt) : Str := (envOfC x (defScope st) 0 0 .none).qual ++ "<lambda>"
def spDoors (P : Program) (w : World) (K : PySem.W.Frag) (mg : Str → Option Value) (base : Heap) (Ts : List Addr) (CP PD0 : Addr) : Sp := fun vs H Q _ => ∃ (M : Addr → Prop) (v d2 d3 : PyData), TdAll M H vs [v, d2, d3] ∧ (∀ a, M a → H a ≠ none) ∧ (∀ T ∈ Ts, TabG H T) ∧ M PD0 ∧ LamX.TabS H PD0 (lamQ "_law_doors" s_law_doors) ∧
  ∀ (lw : Addr) (fs : List Addr) (H' : Hp), ¬ M lw → H' lw = some (.lst (fs.map V.ref)) → (∀ f ∈ fs, ¬ M f) → fs.length ≤ 20 → (∀ r, progBad v = some r → ∀ f ∈ fs, FarAt P w K mg base Ts M 8 (.bad CP r) H' f) → Ext (fun a => a = PD0) H H' → LamX.TabS H' PD0 (lamQ "_law_doors" s_law_doors) → Q (.ref lw) H'
end Bw
namespace Bw
open PySem PySem.Spec PyProof.Rows L2 GxR Gx RZ Nx TL
/-! ### _law_doors -/
theorem ClosAt.two {H : Hp} {fs : List Addr} {s t : CloSp × List (Str × Addr)} (h : ClosAt H fs [s, t]) : ∃ f g, fs = [f, g] ∧ CloAt H f s.1 s.2 ∧ CloAt H g t.1 t.2 := by
  cases h with
  | cons h1 t1 =>
    cases t1 with
    | cons h2 t2 =>
      cases t2
      exact ⟨_, _, rfl, h1, h2⟩
theorem ClosAt.one {H : Hp} {fs : List Addr} {s : CloSp × List (Str × Addr)} (h : ClosAt H fs [s]) : ∃ f, fs = [f] ∧ CloAt H f s.1 s.2 := by
  cases h with
  | cons h1 t1 =>
    cases t1
    exact ⟨_, rfl, h1⟩
/-- a body that ends in a return: before, and what is handed back -/
abbrev PRtH (X : Cx) (ss : List Stmt) (A : L2.St → Hp → Prop) (G : L2.St → V → Hp → Prop) : Prop := PRt X ss (fun Q σ H => A σ H ∧ ∀ σ' v H', G σ' v H' → Q σ' v H')
theorem prh_cons {X : Cx} {A B : L2.St → Hp → Prop} {G : L2.St → V → Hp → Prop} {st : Stmt} {ss : List Stmt} (h : HS X st A { nx := B, rt := fun _ _ => False }) (h2 : PRtH X ss B G) : PRtH X (st :: ss) A G :=
  ⟨fun pins s σ H Q I ⟨a, k⟩ => (prt_cons h h2).run pins s σ H Q I ⟨a, fun σ' H' b => ⟨b, k⟩⟩⟩
theorem prh_more {X : Cx} {c : Cw} {M m : Addr → Prop} {Γ : List Sl} {H0 : Hp} {Ψ Φ : Say c M} (i : Nat) {x : Str} {p0 pos pos' : Pos} {e : Expr} (cm : ∀ a, c.mx a → m a) (hx : PE X (.Name x p0) (tVar i)) (he : PV X c M Γ e (isF Φ)) (few : ∀ H fs, Ψ.is H fs → fs.length ≤ 25) (few2 : ∀ H fs, Φ.is H fs → fs.length ≤ 25) : PRtH X [.Return (some (.BinOp (.Name x p0) .Add e pos)) pos'] (fun σ H => As c H0 m M Γ σ H ∧ FsIn Ψ i σ H) (fun σ v H' => As c H0 m M Γ σ H' ∧ isF (sayB Ψ Φ) H' H' v) :=
  ⟨fun pins s σ H Q I ⟨⟨a, f⟩, k⟩ => (prt_ret (pf_more (Ψ := Ψ) (Φ := Φ) i hx he few few2)).run pins s σ H Q I ⟨⟨a.1, f⟩, fun v H' hv x b => k σ v H' ⟨⟨a.1.ext x b, a.2.trans (x.mono cm)⟩, hv⟩⟩⟩
theorem arfQ {X : Cx} {c : Cw} {T : List (Addr × Str)} {M : Addr → Prop} {Γ : List Sl} {e : Expr} {es : List Expr} {P : Addr} {q : Str} {sp : CloSp} {cells : List (Str × Addr)} {l : List (CloSp × List (Str × Addr))} (h : PE X e (tLamK P sp cells)) (t : PA X es (tArF (c.lam T) M Γ l)) (off : Off c T) (mem : (P, q) ∈ T) (one : ∀ p ∈ T, p.1 = P → p.2 = q) (eq : sp.q = q := by rfl) (hs : starEach (e :: es) X.env = (false, eval e X.env) :: starEach es X.env := by rfl) : PA X (e :: es) (tArF (c.lam T) M Γ ((sp, cells) :: l)) := by
  subst eq
  exact arf off mem one h t hs
theorem bnd_dflt {sp : CloSp} (h : sp.df = true) (e : ∀ (cells : List (Str × Addr)) (doc pm ct : Value) (c1 td : Addr) (t : Shared) (o : Obj) (n : Nat) (tk : Tok), t.heap.get? td = some o → o.data = .seq #[.int 0 tk] n → ∃ bs, BindsTo t (PySem.W.kdv_fn "<lambda>" sp.q sp.as (.expr sp.body) sp.sc cells (.ref td) doc pm (.ref c1) ct) ⟨[], []⟩ bs ∧ ∀ z ∈ bs, sp.sc.names.lookup z.1 = some .local) : BndSp sp := fun cells dV doc pm ct c1 t d => by
  rcases d with ⟨z, _⟩ | ⟨td, o, n, tk, _, e0, ho, hs⟩
  · rw [h] at z
    cases z
  · subst e0
    exact e cells doc pm ct c1 td t o n tk ho hs
section
variable {base : Heap} {K : PySem.W.Frag} {mg : Str → Option Value} {P : Program} {w : World}
set_option maxHeartbeats 2100000 in
theorem ok_doors {f cD PD0 CP : Addr} {Ts : List Addr} {fd : FuncData} (D : Dc K mg "_law_doors" s_law_doors ["_law_program_here", "_law_frame_here", "_law_choice_here"] f fd cD) (TB : LamX.TabB base mg cD PD0) (nm : PD0 ∈ lamTabs) (on : OnD P w K mg base Ts CP) : FnOk P w K mg base CX0 1 f fd ["_law_program_here", "_law_frame_here", "_law_choice_here"] (spDoors P w K mg base Ts CP PD0) := by
  have ⟨oc, od, kV, doc, pm, an, ct, osl, same, lk, hcd⟩ := D.ex
  subst same
  refine fn_keep (N := nDoors) lk hcd scDoors (fun vs H Q E h => ?_) (fun A outer s H vs Q E hr h => ?_)
  · have ⟨M, v, d2, d3, all, _⟩ := h
    exact all.len
  obtain ⟨M, v, d2, d3, all, al, tabs, mP, tP, q⟩ := h
  have hN := scDoors.nd
  obtain ⟨T0, eT⟩ : ∃ T0 : List (Addr × Str), T0 = [(PD0, lamQ "_law_doors" s_law_doors)] := ⟨_, rfl⟩
  have mem : (PD0, lamQ "_law_doors" s_law_doors) ∈ T0 := by rw [eT]; exact List.mem_singleton.mpr rfl
  have one : ∀ z ∈ T0, z.1 = PD0 → z.2 = lamQ "_law_doors" s_law_doors := fun z hz _ => by rw [eT] at hz; rw [List.mem_singleton.mp hz]
  have cmx : ∀ a, ((cw0 Ts).lam T0).mx a → a = PD0 := fun a z => by
    rcases z with z | ⟨s, z⟩
    · exact z.elim
    · rw [eT] at z
      exact congrArg Prod.fst (List.mem_singleton.mp z)
  have x0 : As ((cw0 Ts).lam T0) H (fun a => a = PD0) M [.d v, .d d2, .d d3, .any] (L2.start nDoors vs) H := by
    have ⟨v1, v2, v3, ev, t1, t2, t3⟩ := all.three
    subst ev
    refine ⟨⟨.cons (s := .d v) ⟨_, rfl, t1⟩ (.cons (s := .d d2) ⟨_, rfl, t2⟩ (.cons (s := .d d3) ⟨_, rfl, t3⟩ (.cons (s := .any) trivial .nil))), tabs, ⟨trivial, fun z hz => ?_, fun z hz => ?_⟩, fun a z => by rw [cmx a z]; exact mP, al⟩, Ext.refl _ _⟩
    · rw [eT] at hz
      rw [List.mem_singleton.mp hz]
      exact tP
    · rw [eT] at hz
      rw [List.mem_singleton.mp hz]
      exact nm
  have two : ∀ {s t : CloSp × List (Str × Addr)} (H : Hp) (fs : List Addr), (sayL ((cw0 Ts).lam T0) M [s, t]).is H fs → fs.length = 2 := fun H fs h => h.len
  refine ⟨_, prh_cons (X := cxOf CX0 P w K mg base nDoors "_law_doors" (defScope s_law_doors) f (.ref cD) A outer s H E) (A := As ((cw0 Ts).lam T0) H (fun a => a = PD0) M [.d v, .d d2, .d d3, .any])
    (hs_setF (D := { nx := fun _ _ => False, rt := fun _ _ => False }) (c := (cw0 Ts).lam T0) (M := M) (Γ := [.d v, .d d2, .d d3, .any]) (H0 := H) (m := fun a => a = PD0) 3 cmx hN (pf_lst (arfQ (pe_lam0 TB rfl nm (by exact LamX.lamS_by (show LamX.lamSB (defScope s_law_doors) _ = true by decide +kernel))) (arfQ (pe_lam1 TB rfl nm (by exact lamF_by (show lamFB nDoors (defScope s_law_doors) _ = true by decide +kernel))) arf_nil off_none mem one) off_none mem one) (by show 2 ≤ 20; decide)) (Nat.lt_of_lt_of_le (by decide) (Nat.le_refl 4)))
    (prh_cons (hs_moreF (D := { nx := fun _ _ => False, rt := fun _ _ => False }) 3 cmx hN (pv 3) (pf_lst (arfQ (pe_lam1 TB rfl nm (by exact lamF_by (show lamFB nDoors (defScope s_law_doors) _ = true by decide +kernel))) (arfQ (pe_lam1 TB rfl nm (by exact lamF_by (show lamFB nDoors (defScope s_law_doors) _ = true by decide +kernel))) arf_nil off_none mem one) off_none mem one) (by show 2 ≤ 20; decide)) (fun H fs h => Nat.le_trans (Nat.le_of_eq (two H fs h)) (by decide)) (fun H fs h => Nat.le_trans (Nat.le_of_eq (two H fs h)) (by decide)) (Nat.lt_of_lt_of_le (by decide) (Nat.le_refl 4)))
    (prh_cons (hs_moreF (D := { nx := fun _ _ => False, rt := fun _ _ => False }) 3 cmx hN (pv 3) (pf_lst (arfQ (pe_lam1 TB rfl nm (by exact lamF_by (show lamFB nDoors (defScope s_law_doors) _ = true by decide +kernel))) (arfQ (pe_lam1 TB rfl nm (by exact lamF_by (show lamFB nDoors (defScope s_law_doors) _ = true by decide +kernel))) arf_nil off_none mem one) off_none mem one) (by show 2 ≤ 20; decide)) (fun H fs h => by have ⟨f1, f2, e, h1, h2⟩ := h; have z1 := two H f1 h1; have z2 := two H f2 h2; rw [e, List.length_append]; omega) (fun H fs h => Nat.le_trans (Nat.le_of_eq (two H fs h)) (by decide)) (Nat.lt_of_lt_of_le (by decide) (Nat.le_refl 4)))
    (prh_cons (hs_moreF (D := { nx := fun _ _ => False, rt := fun _ _ => False }) 3 cmx hN (pv 3) (pf_lst (arfQ (pe_lam1 TB rfl nm (by exact lamF_by (show lamFB nDoors (defScope s_law_doors) _ = true by decide +kernel))) (arfQ (pe_lam1 TB rfl nm (by exact lamF_by (show lamFB nDoors (defScope s_law_doors) _ = true by decide +kernel))) arf_nil off_none mem one) off_none mem one) (by show 2 ≤ 20; decide)) (fun H fs h => by have ⟨f12, f3, e, ⟨f1, f2, e2, h1, h2⟩, h3⟩ := h; have z1 := two H f1 h1; have z2 := two H f2 h2; have z3 := two H f3 h3; rw [e, e2, List.length_append, List.length_append]; omega) (fun H fs h => Nat.le_trans (Nat.le_of_eq (two H fs h)) (by decide)) (Nat.lt_of_lt_of_le (by decide) (Nat.le_refl 4)))
    (prh_more 3 cmx (pv 3) (pf_lst (arfQ (pe_lam1 TB rfl nm (by exact lamF_by (show lamFB nDoors (defScope s_law_doors) _ = true by decide +kernel))) arf_nil off_none mem one) (by show 1 ≤ 20; decide)) (fun H fs h => by have ⟨f13, f4, e0, ⟨f12, f3, e, ⟨f1, f2, e2, h1, h2⟩, h3⟩, h4⟩ := h; have z1 := two H f1 h1; have z2 := two H f2 h2; have z3 := two H f3 h3; have z4 := two H f4 h4; rw [e0, e, e2, List.length_append, List.length_append, List.length_append]; omega) (fun H fs h => Nat.le_trans (Nat.le_of_eq h.len) (show 1 ≤ 25 by decide)))))), ?fin⟩
  case fin =>
  refine ⟨x0, fun σ' v' H' ⟨a', hv⟩ EC C eEC off off' okC => ?_⟩
  subst eEC
  obtain ⟨lw, fs, ev, nlw, hlw, nfs, len, says⟩ := hv
  subst ev
  have xw : Ext no H' (withC H' C) := ext_beside off'
  have up : ∀ a o, H' a = some o → withC H' C a = some o := fun a o e => up_with off' a o e
  have sl : Reps ((cw0 Ts).lam T0) M H' σ' [.d v, .d d2, .d d3, .any] := a'.1.sl
  have tP' : LamX.TabS H' PD0 (lamQ "_law_doors" s_law_doors) := a'.1.bx.2.1 _ mem
  have nmem : ∀ a xs k, Sl.l a xs k ∉ [Sl.d v, Sl.d d2, Sl.d d3, Sl.any] := fun a xs k z => by simp at z
  have lenf : fs.length ≤ 20 := by
    obtain ⟨f14, f5, e1, ⟨f13, f4, e2, ⟨f12, f3, e3, ⟨f1, f2, e4, h1, h2⟩, h3⟩, h4⟩, h5⟩ := says
    have z1 := two H' f1 h1
    have z2 := two H' f2 h2
    have z3 := two H' f3 h3
    have z4 := two H' f4 h4
    have z5 : f5.length = 1 := h5.len
    rw [e1, e2, e3, e4, List.length_append, List.length_append, List.length_append, List.length_append]
    omega
  refine q lw fs _ nlw (up _ _ hlw) nfs lenf (fun r pb f hf => ?_) (a'.2.trans xw.of0) (tabS_ext nm (fun z => z) xw tP')
  have far : ∀ (sp : CloSp) (f0 : Addr), CloAt H' f0 sp (cloFrom (envOfC "_law_doors" (defScope s_law_doors) s.heap.objs.size f (.ref cD)).cells sp.sc.names []) → BndSp sp → LamF nDoors (defScope s_law_doors) sp.sc → (∀ (Z : Cx) (c1 : Addr) (A0 : Around) (outer0 : List Env) (s' : Shared) (H0 : Hp) (E' : XK), OnD Z.prog Z.w Z.K Z.mg Z.base Ts CP → Room 8 (A0.deeper (cloEnv sp.q sp.sc (cloFrom (envOfC "_law_doors" (defScope s_law_doors) s.heap.objs.size f (.ref cD)).cells sp.sc.names []) s'.heap.objs.size f0 c1)) → PE (cloCx Z nDoors sp.q sp.sc (cloFrom (envOfC "_law_doors" (defScope s_law_doors) s.heap.objs.size f (.ref cD)).cells sp.sc.names []) A0 outer0 s' H0 E' f0 c1) sp.body (tOut (fun cls d _ H' => E' cls d H') (cw0 Ts) no [.d v, .d d2, .d d3, .any] (.bad CP r))) → FarAt P w K mg base Ts M 8 (.bad CP r) (withC H' C) f0 := fun sp f0 at_ bnd LF run =>
    ⟨sp, _, nDoors, C, σ', [.d v, .d d2, .d d3, .any], at_.up up, knows_with, okC sp.sc LF, bnd, fun z hz => LF.noCell z hz, fun a z e ma => al a ma (off a z e), sl.beside up nmem, nmem, fun Z c1 A0 outer0 s' H0 E' eP ew eK emg eb rm => run Z c1 A0 outer0 s' H0 E' (by rw [eP, ew, eK, emg, eb]; exact on) rm⟩
  obtain ⟨f14, f5, e1, ⟨f13, f4, e2, ⟨f12, f3, e3, ⟨f1, f2, e4, h1, h2⟩, h3⟩, h4⟩, h5⟩ := says
  have ⟨u0, u1, eu0, k0, k1⟩ := ClosAt.two h1
  have ⟨u2, u3, eu2, k2, k3⟩ := ClosAt.two h2
  have ⟨u4, u5, eu4, k4, k5⟩ := ClosAt.two h3
  have ⟨u6, u7, eu6, k6, k7⟩ := ClosAt.two h4
  have ⟨u8, eu8, k8⟩ := ClosAt.one h5
  rw [e1, e2, e3, e4, eu0, eu2, eu4, eu6, eu8] at hf
  simp only [List.cons_append, List.nil_append, List.mem_cons, List.not_mem_nil, or_false] at hf
  rcases hf with hf | hf | hf | hf | hf | hf | hf | hf | hf <;> rw [hf]
  · refine far _ u0 k0 (bnd_plain rfl fun _ _ _ _ _ => rfl) (lamF_by (by dsimp only; decide +kernel)) (fun Z c1 A0 outer0 s' H0 E' on' rm => ?_)
    have ⟨f0, fd0, D0, G0⟩ := on'.d_run_boxes
    exact po_call (ds := [v, d2, d3, .int 5, .int (-1), .list [.int (-1)]]) (takes_of rfl rfl rfl rfl) D0 G0 (rm.mono (by decide)) (ar_d (pd_var 0 (pv 0) rfl) (ar_d (pd_var 1 (pv 1) rfl) (ar_d (pd_var 2 (pv 2) rfl) (ar_d pd_int (ar_d (pd_neg (i := 1) pd_int) (ar_d (PV.lst (pn_lst (ds := [.int (-1)]) (ar_d (pd_neg (i := 1) pd_int) ar_nil) (show 1 ≤ sizeLine by decide))) ar_nil)))))) ⟨v, [d2, d3, .int 5, .int (-1), .list [.int (-1)]], r, rfl, rfl, pb, rfl⟩ fun _ z => z
  · refine far _ u1 k1 (bnd_dflt rfl fun cells doc pm ct c1 td t o n tk ho hs => ⟨_, BindsTo.of_defaults rfl ho hs rfl rfl, fun z hz => by cases hz with | head => rfl | tail _ z0 => cases z0⟩) (lamF_by (by dsimp only; decide +kernel)) (fun Z c1 A0 outer0 s' H0 E' on' rm => ?_)
    have ⟨f0, fd0, D0, G0⟩ := on'.d_walk
    exact po_call (ds := [v, d2, d3, .list []]) (takes_of rfl rfl rfl rfl) D0 G0 (rm.mono (by decide)) (ar_d (pd_var 0 (pv 0) rfl) (ar_d (pd_var 1 (pv 1) rfl) (ar_d (pd_var 2 (pv 2) rfl) (ar_d (PV.lst (pn_lst (ds := []) ar_nil (show 0 ≤ sizeLine by decide))) ar_nil)))) ⟨v, [d2, d3, .list []], r, rfl, rfl, pb, rfl⟩ fun _ z => z
  · refine far _ u2 k2 (bnd_dflt rfl fun cells doc pm ct c1 td t o n tk ho hs => ⟨_, BindsTo.of_defaults rfl ho hs rfl rfl, fun z hz => by cases hz with | head => rfl | tail _ z0 => cases z0⟩) (lamF_by (by dsimp only; decide +kernel)) (fun Z c1 A0 outer0 s' H0 E' on' rm => ?_)
    have ⟨f0, fd0, D0, G0⟩ := on'.d_paper
    exact po_call (ds := [v, d2, d3]) (takes_of rfl rfl rfl rfl) D0 G0 (rm.mono (by decide)) (ar_d (pd_var 0 (pv 0) rfl) (ar_d (pd_var 1 (pv 1) rfl) (ar_d (pd_var 2 (pv 2) rfl) ar_nil))) ⟨v, [d2, d3], r, rfl, rfl, pb, rfl⟩ fun _ z => z
  · refine far _ u3 k3 (bnd_dflt rfl fun cells doc pm ct c1 td t o n tk ho hs => ⟨_, BindsTo.of_defaults rfl ho hs rfl rfl, fun z hz => by cases hz with | head => rfl | tail _ z0 => cases z0⟩) (lamF_by (by dsimp only; decide +kernel)) (fun Z c1 A0 outer0 s' H0 E' on' rm => ?_)
    have ⟨f0, fd0, D0, G0⟩ := on'.d_shows
    exact po_call (ds := [v, d2, d3, .list [.int 5]]) (takes_of rfl rfl rfl rfl) D0 G0 (rm.mono (by decide)) (ar_d (pd_var 0 (pv 0) rfl) (ar_d (pd_var 1 (pv 1) rfl) (ar_d (pd_var 2 (pv 2) rfl) (ar_d (PV.lst (pn_lst (ds := [.int 5]) (ar_d pd_int ar_nil) (show 1 ≤ sizeLine by decide))) ar_nil)))) ⟨v, [d2, d3, .list [.int 5]], r, rfl, rfl, pb, rfl⟩ fun _ z => z
  · refine far _ u4 k4 (bnd_dflt rfl fun cells doc pm ct c1 td t o n tk ho hs => ⟨_, BindsTo.of_defaults rfl ho hs rfl rfl, fun z hz => by cases hz with | head => rfl | tail _ z0 => cases z0⟩) (lamF_by (by dsimp only; decide +kernel)) (fun Z c1 A0 outer0 s' H0 E' on' rm => ?_)
    have ⟨f0, fd0, D0, G0⟩ := on'.d_checked
    exact po_call (ds := [v, d2, d3]) (takes_of rfl rfl rfl rfl) D0 G0 (rm.mono (by decide)) (ar_d (pd_var 0 (pv 0) rfl) (ar_d (pd_var 1 (pv 1) rfl) (ar_d (pd_var 2 (pv 2) rfl) ar_nil))) ⟨v, [d2, d3], r, rfl, rfl, pb, rfl⟩ fun _ z => z
  · refine far _ u5 k5 (bnd_dflt rfl fun cells doc pm ct c1 td t o n tk ho hs => ⟨_, BindsTo.of_defaults rfl ho hs rfl rfl, fun z hz => by cases hz with | head => rfl | tail _ z0 => cases z0⟩) (lamF_by (by dsimp only; decide +kernel)) (fun Z c1 A0 outer0 s' H0 E' on' rm => ?_)
    have ⟨f0, fd0, D0, G0⟩ := on'.d_least
    exact po_call (ds := [v, d2, d3, .int (-1)]) (takes_of rfl rfl rfl rfl) D0 G0 (rm.mono (by decide)) (ar_d (pd_var 0 (pv 0) rfl) (ar_d (pd_var 1 (pv 1) rfl) (ar_d (pd_var 2 (pv 2) rfl) (ar_d (pd_neg (i := 1) pd_int) ar_nil)))) ⟨v, [d2, d3, .int (-1)], r, rfl, rfl, pb, rfl⟩ fun _ z => z
  · refine far _ u6 k6 (bnd_dflt rfl fun cells doc pm ct c1 td t o n tk ho hs => ⟨_, BindsTo.of_defaults rfl ho hs rfl rfl, fun z hz => by cases hz with | head => rfl | tail _ z0 => cases z0⟩) (lamF_by (by dsimp only; decide +kernel)) (fun Z c1 A0 outer0 s' H0 E' on' rm => ?_)
    have ⟨f0, fd0, D0, G0⟩ := on'.d_renumbered
    exact po_call (ds := [v, d2, d3, .int 5]) (takes_of rfl rfl rfl rfl) D0 G0 (rm.mono (by decide)) (ar_d (pd_var 0 (pv 0) rfl) (ar_d (pd_var 1 (pv 1) rfl) (ar_d (pd_var 2 (pv 2) rfl) (ar_d pd_int ar_nil)))) ⟨v, [d2, d3, .int 5], r, rfl, rfl, pb, rfl⟩ fun _ z => z
  · refine far _ u7 k7 (bnd_dflt rfl fun cells doc pm ct c1 td t o n tk ho hs => ⟨_, BindsTo.of_defaults rfl ho hs rfl rfl, fun z hz => by cases hz with | head => rfl | tail _ z0 => cases z0⟩) (lamF_by (by dsimp only; decide +kernel)) (fun Z c1 A0 outer0 s' H0 E' on' rm => ?_)
    have ⟨C0, g0, fd0, MC, gM, bI, G0⟩ := on'.d_wit
    refine PE.mono (X := cloCx Z nDoors _ _ _ A0 outer0 s' H0 E' _ c1) (pb_wit (X := cloCx Z nDoors _ _ _ A0 outer0 s' H0 E' _ c1) (E := E') (Γ := [.d v, .d d2, .d d3, .any]) (M := no) (c := cw0 Ts) (v := v) (d2 := d2) (d3 := d3) (r := r) (takes_of rfl rfl rfl rfl) MC G0 rm gM bI (ar_d (pd_var 0 (pv 0) rfl) (ar_d (pd_var 1 (pv 1) rfl) (ar_d (pd_var 2 (pv 2) rfl) ar_nil))) pb fun _ z => z) fun σ H Q ⟨rp, q⟩ => ⟨rp, fun dx H' x hd => q dx H' x trivial hd⟩
  · refine far _ u8 k8 (bnd_dflt rfl fun cells doc pm ct c1 td t o n tk ho hs => ⟨_, BindsTo.of_defaults rfl ho hs rfl rfl, fun z hz => by cases hz with | head => rfl | tail _ z0 => cases z0⟩) (lamF_by (by dsimp only; decide +kernel)) (fun Z c1 A0 outer0 s' H0 E' on' rm => ?_)
    have ⟨f0, fd0, D0, G0⟩ := on'.d_written_choice
    exact po_call (ds := [v, d2, d3]) (takes_of rfl rfl rfl rfl) D0 G0 (rm.mono (by decide)) (ar_d (pd_var 0 (pv 0) rfl) (ar_d (pd_var 1 (pv 1) rfl) (ar_d (pd_var 2 (pv 2) rfl) ar_nil))) ⟨v, [d2, d3], r, rfl, rfl, pb, rfl⟩ fun _ z => z
end
end Bw
namespace Bw
open PySem PySem.Spec PyProof.Rows L2 GxR Gx RZ Nx TL
/-! ### law_k01: what it is made of -/
structure On01 (P : Program) (w : World) (K : PySem.W.Frag) (mg : Str → Option Value) (base : Heap) (Ts cs : List Addr) (CB cL PL PD0 : Addr) : Prop where
  nL : PL ∈ lamTabs
  nD : PD0 ∈ lamTabs
  ne : PD0 ≠ PL
  tb : LamX.TabB base mg cL PL
  C5 : Caught K mg CB cs 5
  hB : mg "BoxError" = some (.ref CB)
  hv : mg "ValueError" = none
  B : Bt mg
  beg : ∃ f fd, Df K mg "_law_begun" s_begun ["_law_script"] f fd
  tk : ∃ f fd, Df K mg "_law_take" s_take ["_law_box", "_law_many"] f fd
  pr : ∃ f fd, Df K mg "_law_program" s_program ["_law_box", "_law_most"] f fd ∧ FnOk P w K mg base CX0 3 f fd ["_law_box", "_law_most"] spProgram
  bent : ∃ f fd, Df K mg "_law_bent" s_law_bent ["_law_box", "_law_program_here"] f fd ∧ FnOk P w K mg base CX0 3 f fd ["_law_box", "_law_program_here"] (spBx [] PreBentP RBentP)
  fst_ : ∃ f fd, Df K mg "_law_first" s_law_first ["_law_program_here"] f fd ∧ FnOk P w K mg base CX0 2 f fd ["_law_program_here"] (spFun [] RFirstP)
  doors : ∃ f fd, Df K mg "_law_doors" s_law_doors ["_law_program_here", "_law_frame_here", "_law_choice_here"] f fd ∧ FnOk P w K mg base CX0 1 f fd ["_law_program_here", "_law_frame_here", "_law_choice_here"] (spDoors P w K mg base Ts (cs.getD 5 0) PD0)
  all_ : ∃ f fd, Df K mg "_law_all" s_law_all ["_law_works", "_law_due"] f fd
  ali : ∃ f fd, Df K mg "_law_alike" s_alike ["_law_found", "_law_due"] f fd
  told : ∃ f fd, Df K mg "_law_told" s_law_told ["_law_work"] f fd
  wr : ∃ f fd, Df K mg "written" s_written ["program"] f fd ∧ FnOk P w K mg base CX0 6 f fd ["program"] (spFun Ts RWritten)
  on : OnD P w K mg base Ts (cs.getD 5 0)
abbrev nLaw01 : List Str := ["_law_script", "_law_box", "_law_turn", "_law_change", "_law_due", "_law_works", "_law_program_here"]
theorem scLaw01 : FnScope nLaw01 ["_law_script"] (defScope s_law) := ⟨rfl, rfl, rfl, by decide +kernel, rfl, by decide +kernel, by decide +kernel⟩
abbrev tabs01 (PL PD0 : Addr) : List (Addr × Str) := [(PD0, lamQ "_law_doors" s_law_doors), (PL, lamQ "law" s_law)]
abbrev cw01 (Ts : List Addr) (b l PL PD0 : Addr) : Cw := (cwB Ts b l).lam (tabs01 PL PD0)
abbrev g01 (b : Addr) (tu ch du pr : Sl) : List Sl := [.any, .r b, tu, ch, du, .any, pr]
section
variable {X : Cx} {M : Addr → Prop} {Γ : List Sl} {Ts : List Addr} {b l : Addr}
/-- a drawn program -/
theorem px_prog24 {f : Addr} {fd : FuncData} (i : Nat) {x : Str} {p0 p pos : Pos} {e : Expr} {n : Nat} (DP : Df X.K X.mg "_law_program" s_program ["_law_box", "_law_most"] f fd) (GP : FnOk X.prog X.w X.K X.mg X.base CX0 3 f fd ["_law_box", "_law_most"] spProgram) (hr : Room 3 X.A) (hx : PE X (.Name x p0) (tVar i)) (g : Γ[i]? = some (.r b)) (he : PD X (cwB Ts b l) M Γ e (nI n)) (n0 : 0 < n) (n1 : n ≤ 24)
    (hg : Gl X "_law_program" := by rfl) (he1 : starEach [(.Name x p0 : Expr), e] X.env = (false, eval (.Name x p0) X.env) :: starEach [e] X.env := by rfl) (he2 : starEach [e] X.env = (false, eval e X.env) :: starEach [] X.env := by rfl) (hpl : (backTo pos (starEach [e] X.env)).any (·.1) = false := by rfl) : PX X (cwB Ts b l) M Γ (.Call (.Name "_law_program" p) [.Name x p0, e] [] pos) (fun d => ∃ q : Prog, q.Ok ∧ d = progD q) :=
  (pcall DP GP hr (pa_cons hx (pa_cons he pa_nil he2) he1) hg (by decide) he1 hpl).mono fun σ H Q ⟨r, q⟩ => by
    have ⟨o, so, eo⟩ := r.sl.get g
    subst eo
    refine ⟨_, so, r, fun v H1 hv x1 b1 => ?_⟩
    rw [hv.intE]
    exact ⟨b, l, n, rfl, b1, n0, n1, fun H2 a pr pok few hp bo x2 => q _ H2 ⟨_, ⟨pr, pok, rfl⟩, hp.td⟩ (x1.trans x2) bo⟩
end
section
variable {X : Cx} {c : Cw} {M : Addr → Prop} {Γ : List Sl}
/-- 1 + e, e drawn -/
theorem px_oneMore {a e : Expr} {n : Nat} {pos : Pos} (ha : PD X c M Γ a (.int 1)) (he : PX X c M Γ e (below n)) : PX X c M Γ (.BinOp a .Add e pos) (below (n + 1)) :=
  px_two (fun h1 h2 => pe_op op_add h1 h2) back_s (PV.among (S := fun d => d = .int 1) ha rfl) he fun x y H Q d d2 ed ⟨k, kn, ee⟩ hx hy q => by
    subst ed ee
    rw [hx.intE, hy.intE]
    refine ⟨1, k, rfl, rfl, ?_⟩
    exact q _ H ⟨nI (k + 1), ⟨k + 1, by omega, rfl⟩, by
      show Td M H (.int (1 + (k : Int))) (.int ((k + 1 : Nat) : Int))
      rw [show (1 : Int) + (k : Int) = ((k + 1 : Nat) : Int) by omega]
      exact .int _⟩ (Ext.refl _ _)
variable {H0 : Hp} {m : Addr → Prop} {D : Ends}
/-- a test that is true, with more said beside -/
theorem hs_ifY {F : L2.St → Hp → Prop} {t : Expr} {th el : List Stmt} {pos : Pos} (st : ∀ σ H H', F σ H → Ext c.mx H H' → F σ H') (cm : ∀ a, c.mx a → m a) (ht : PQ X c M Γ t true) (h1 : HB X th (fun σ H => As c H0 m M Γ σ H ∧ F σ H) D) (h2 : HB X el (fun _ _ => False) D) : HS X (.If t th el pos) (fun σ H => As c H0 m M Γ σ H ∧ F σ H) D :=
  (ps_if ht h1 h2).mono fun D' σ H ⟨⟨⟨r, x0⟩, f⟩, rest⟩ => ⟨r, fun H1 x1 b1 => iteT ⟨⟨⟨r.ext x1 b1, x0.trans (x1.mono cm)⟩, st _ _ _ f x1⟩, rest⟩⟩
end
/-- what is known of the closures that _law_doors hands back -/
def sayD (P : Program) (w : World) (K : PySem.W.Frag) (mg : Str → Option Value) (base : Heap) (Ts : List Addr) (c : Cw) (M : Addr → Prop) (v : PyData) (CP : Addr) : Say c M := ⟨fun H fs => fs.length ≤ 20 ∧ ∀ r, progBad v = some r → ∀ f ∈ fs, FarAt P w K mg base Ts M 8 (.bad CP r) H f, fun H H' fs ⟨h1, h2⟩ x sub n => ⟨h1, fun r pb f hf => (h2 r pb f hf).ext x sub (n f hf)⟩⟩
section
variable {X : Cx} {Γ : List Sl} {Ts : List Addr} {b l PL PD0 CP : Addr} {M : Addr → Prop}
/-- _law_doors(e, None, None) -/
theorem pf_doors {f : Addr} {fd : FuncData} {e e2 e3 : Expr} {p pos : Pos} {v : PyData} (D : Df X.K X.mg "_law_doors" s_law_doors ["_law_program_here", "_law_frame_here", "_law_choice_here"] f fd) (G : FnOk X.prog X.w X.K X.mg X.base CX0 1 f fd ["_law_program_here", "_law_frame_here", "_law_choice_here"] (spDoors X.prog X.w X.K X.mg X.base Ts CP PD0)) (hr : Room 1 X.A) (nD : PD0 ∈ lamTabs) (ne : PD0 ≠ PL) (ha : PAr X (cw01 Ts b l PL PD0) M Γ [e, e2, e3] (ofD [v, .none, .none]))
    (hg : Gl X "_law_doors" := by rfl) (he : starEach [e, e2, e3] X.env = (false, eval e X.env) :: starEach [e2, e3] X.env := by rfl) (hpl : (backTo pos (starEach [e2, e3] X.env)).any (·.1) = false := by rfl) : PV X (cw01 Ts b l PL PD0) M Γ (.Call (.Name "_law_doors" p) [e, e2, e3] [] pos) (isF (sayD X.prog X.w X.K X.mg X.base Ts (cw01 Ts b l PL PD0) M v CP)) :=
  (pcall D G hr ha hg (by decide) he hpl).mono fun σ H Q ⟨rp, q⟩ => ⟨rp, fun vs H1 hvs x1 b1 => by
    have r1 := rp.ext x1 b1
    have memD : (PD0, lamQ "_law_doors" s_law_doors) ∈ tabs01 PL PD0 := List.mem_cons_self ..
    have oneD : ∀ z ∈ tabs01 PL PD0, z.1 = PD0 → z.2 = lamQ "_law_doors" s_law_doors := fun z hz e => by
      rcases List.mem_cons.mp hz with same | other
      · rw [same]
      · rw [List.mem_singleton.mp other] at e
        exact (ne e.symm).elim
    have inM : M PD0 := r1.sub PD0 (.inr ⟨_, memD⟩)
    show spDoors X.prog X.w X.K X.mg X.base Ts CP PD0 (vs ++ []) H1 Q E0
    rw [List.append_nil]
    refine ⟨M, v, .none, .none, hvs.data, r1.al, r1.tb, inM, b1.2.1 _ memD, fun lw fs H' nlw hlw nfs few far x2 t2 => ?_⟩
    have ⟨xm, b2⟩ := lam_step off_box memD oneD b1 x2 t2
    exact q _ H' ⟨lw, fs, rfl, nlw, hlw, nfs, by omega, few, far⟩ (x1.trans xm) b2⟩
end
end Bw
namespace Bw
open PySem PySem.Spec PyProof.Rows L2 GxR Gx RZ Nx TL
/-! ### law_k01: the whole -/
def forIn : Stmt → List Stmt
  | .For _ _ body _ _ => body
  | _ => []
section
variable {base : Heap} {K : PySem.W.Frag} {mg : Str → Option Value} {P : Program} {w : World}
/-- the closures of a turn are what _law_all may count on -/
theorem works_at {X : Cx} {Ts cs : List Addr} {c : Cw} {M : Addr → Prop} {Γ : List Sl} {σ : L2.St} {H : Hp} {o : Out} (sub : ∀ a, c.mx a → M a) {Ψ : Say c M} (h : FsIn Ψ 5 σ H) (each : ∀ fs, Ψ.is H fs → (∀ f ∈ fs, ¬ M f) → ∀ f ∈ fs, KindAt X c M Γ 8 o H f) : WkAt X c M Γ 8 o 5 σ H := by
  have ⟨lw, fs, at_, nlw, hlw, nfs, _, is⟩ := h
  exact ⟨lw, fs, at_, hlw, fun z => nlw (sub lw z), fun f hf => ⟨fun z => nfs f hf (sub f z), each fs is nfs f hf⟩⟩
set_option maxHeartbeats 4200000 in
theorem law01_turn {fl cL PL PD0 CB b l : Addr} {cs Ts : List Addr} {A : Around} {outer : List Env} {s : Shared} {H : Hp} {E : XK} (hr : Room 11 (A.deeper (envOfC "law" (defScope s_law) s.heap.objs.size fl (.ref cL)))) (O : On01 P w K mg base Ts cs CB cL PL PD0) (H1 : Hp) (i : Nat) (v : PyData) (fair : Fair v) (D0 : Ends) (good : ∀ σ H', As (cw01 Ts b l PL PD0) H1 (cw01 Ts b l PL PD0).mx (cw01 Ts b l PL PD0).mx (g01 b .any .any .any .any) σ H' → D0.nx σ H') :
    HB (cxOf CX0 P w K mg base nLaw01 "law" (defScope s_law) fl (.ref cL) A outer s H E).nox ((forIn ((defBody s_law).getD 1 (.Pass ⟨0, 0, 0, 0⟩))).drop 2) (As (cw01 Ts b l PL PD0) H1 (cw01 Ts b l PL PD0).mx (cw01 Ts b l PL PD0).mx (g01 b (.d (nI i)) .any .any (.d v))) D0 := by
  have hN := scLaw01.nd
  have hr1 := hr.mono (show 1 ≤ 11 by decide)
  have hr2 := hr.mono (show 2 ≤ 11 by decide)
  have hr8 := hr.mono (show 8 ≤ 11 by decide)
  have cm : ∀ a, (cw01 Ts b l PL PD0).mx a → (cw01 Ts b l PL PD0).mx a := fun _ z => z
  have ⟨fF, fdF, DF, GF⟩ := O.fst_
  have ⟨fD, fdD, DD, GD⟩ := O.doors
  have ⟨fAl, fdAl, DAl⟩ := O.all_
  have ⟨fA, fdA, DA⟩ := O.ali
  have ⟨fTo, fdTo, DTo⟩ := O.told
  have ⟨fW, fdW, DW, GW⟩ := O.wr
  have GA : FnOk P w K mg base CX0 8 fA fdA ["_law_found", "_law_due"] (spFun [] (RAlike 8)) := dt_alike (ok_alike DA O.B 8)
  have memL : (PL, lamQ "law" s_law) ∈ tabs01 PL PD0 := List.mem_cons_of_mem _ (List.mem_singleton.mpr rfl)
  have oneL : ∀ z ∈ tabs01 PL PD0, z.1 = PL → z.2 = lamQ "law" s_law := fun z hz e => by
    rcases List.mem_cons.mp hz with same | other
    · rw [same] at e
      exact (O.ne e).elim
    · rw [List.mem_singleton.mp other]
  have two : ∀ {s t : CloSp × List (Str × Addr)} (H : Hp) (fs : List Addr), (sayL (cw01 Ts b l PL PD0) (cw01 Ts b l PL PD0).mx [s, t]).is H fs → fs.length = 2 := fun H fs h => h.len
  refine hb_cons (hs_set 4 (d := fstD v) cm hN (pd_call (ds := [v]) DF GF hr2 (ar_d (pd_var 6 (pv 6) rfl) ar_nil) ⟨v, rfl, fair.sh, fair.few, rfl⟩ fun _ z => nomatch z)) ?_
  refine hb_cons (hs_setF (D := D0) 5 cm hN (pf_cat (pf_doors DD GD hr1 O.nD O.ne (ar_d (pd_var 6 (pv 6) rfl) (ar_d pd_non (ar_d pd_non ar_nil)))) (pf_lst (arfQ (pe_lam0 O.tb rfl O.nL (by exact LamX.lamS_by (show LamX.lamSB (defScope s_law) _ = true by decide +kernel))) (arfQ (pe_lam1 O.tb rfl O.nL (by exact lamF_by (show lamFB nLaw01 (defScope s_law) _ = true by decide +kernel))) arf_nil off_box memL oneL) off_box memL oneL) (by show 2 ≤ 20; decide)) (fun H fs h => Nat.le_trans h.1 (by decide)) (fun H fs h => Nat.le_trans (Nat.le_of_eq (two H fs h)) (by decide))) (Nat.lt_of_lt_of_le (by decide) (Nat.le_refl 7))) ?_
  refine hb_cons (hs_moreF (D := D0) 5 cm hN (pv 5) (pf_lst (arfQ (pe_lam1 O.tb rfl O.nL (by exact lamF_by (show lamFB nLaw01 (defScope s_law) _ = true by decide +kernel))) (arfQ (pe_lam1 O.tb rfl O.nL (by exact lamF_by (show lamFB nLaw01 (defScope s_law) _ = true by decide +kernel))) arf_nil off_box memL oneL) off_box memL oneL) (by show 2 ≤ 20; decide)) (fun H fs h => by have ⟨f1, f2, e, h1, h2⟩ := h; have z1 := h1.1; have z2 := two H f2 h2; rw [e, List.length_append]; omega) (fun H fs h => Nat.le_trans (Nat.le_of_eq (two H fs h)) (by decide)) (Nat.lt_of_lt_of_le (by decide) (Nat.le_refl 7))) ?_
  cases pb : progBad v with
  | none =>
    have ⟨p, pok, ep⟩ := prog_of_G pb
    have ef : fstD v = .none := by
      unfold fstD
      rw [pb]
    rw [ef]
    refine hb_pre (B := As (cw01 Ts b l PL PD0) H1 (cw01 Ts b l PL PD0).mx (cw01 Ts b l PL PD0).mx (g01 b (.d (nI i)) .any (.d .none) (.d (progD p)))) (fun σ H' h => by rw [← ep]; exact h.1) ?_
    refine hb_one (hs_if (b := !dNone .none) cm (pq_notN (d := .none) (pd_var 4 (pv 4) rfl)) (fun e => nomatch e) fun _ => hb_one (hs_if (b := !isSt (.str (progTx p))) cm (pq_not (pq_val (pd_kind (d := .str (progTx p)) O.B.isinstance (pd_told (cs := cs) (k := 6) (o := .val (.str (progTx p))) DTo O.B.isinstance O.hv O.hB rfl O.tb rfl memL oneL O.nL off_box hr8 (by exact LamX.lamS_by (show LamX.lamSB (defScope s_law) _ = true by decide +kernel)) (fun A0 outer0 s0 H0 E0 f0 c1 rm => pd_call (ds := [progD p]) DW GW rm (ar_d (pd_var 6 (pv 6) rfl) ar_nil) ⟨p, rfl, rfl, pok⟩ fun _ z => z)) (pe_bltn (v := .ty "str") (by rfl) O.B.str (by decide +kernel) rfl) (kit_str _)))) (fun e => nomatch e) fun _ => hb_nil fun σ H' h => good σ H' (((h.any 2).any 4).any 6)))
  | some r =>
    have ef : fstD v = .int r := by
      unfold fstD
      rw [pb]
    rw [ef]
    refine hb_one (hs_ifY (fun σ H H' f x => f.ext x fun _ z => z) cm (pq_notN (d := .int r) (pd_var 4 (pv 4) rfl)) (hb_one ?_) ((hb_when (p := False) (A := fun _ _ => True) fun z => z.elim).mono fun D' σ H y => ⟨⟨y.1, trivial⟩, y.2⟩))
    refine (ps_if (pt_not (pt_val (pe_allN (cs := cs) (k := 8) (n := 8) (d := toldBad 5 r) (o := .bad (cs.getD 5 0) r) (c := cw01 Ts b l PL PD0) (M := (cw01 Ts b l PL PD0).mx) (Γ := g01 b (.d (nI i)) .any (.d (.int r)) (.d v)) 5 DAl DA GA DTo O.B.isinstance O.hv O.hB ⟨5, O.C5, rfl, rfl⟩ rfl rfl (by decide) hr (fun _ => rfl) (pv 5) (pd_tup (ds := [.str "BadProgram", .int r]) (ar_d pd_str (ar_d (pd_var 4 (pv 4) rfl) ar_nil)) (show 2 ≤ sizeLine by decide))))) (pss_one (ps_ret pe_bl)) pss_nil).mono fun D' σ H' ⟨⟨a, f⟩, nx, rest⟩ => ⟨a.1, works_at (cs := cs) (Ts := Ts) (fun _ z => z) f ?_, fun H2 x2 b2 => ⟨true, rfl, iteF (nx σ H2 (good σ H2 (As.any 6 (As.any 4 (As.any 2 ⟨a.1.ext x2 b2, a.2.trans x2⟩)))))⟩⟩
    intro fs is nM f0 hf
    obtain ⟨f12, f3, e1, ⟨f1, f2, e2, hD, h2⟩, h3⟩ := is
    have ⟨u0, u1, eu0, k0, k1⟩ := ClosAt.two h2
    have ⟨u2, u3, eu2, k2, k3⟩ := ClosAt.two h3
    rw [e1, e2, List.append_assoc] at hf
    rcases List.mem_append.mp hf with hf | hf
    · exact (hD.2 r pb f0 hf).kind fun _ z => z
    rw [eu0, eu2] at hf
    simp only [List.cons_append, List.nil_append, List.mem_cons, List.not_mem_nil, or_false] at hf
    rcases hf with hf | hf | hf | hf <;> rw [hf]
    · refine .own _ k0 (bnd_plain rfl fun _ _ _ _ _ => rfl) (lamF_by (by dsimp only; exact (show lamFB nLaw01 (defScope s_law) _ = true by decide +kernel))) (fun Z c1 A0 outer0 s' H0 E' eP ew eK emg eb rm => ?_)
      have on' : OnD Z.prog Z.w Z.K Z.mg Z.base Ts (cs.getD 5 0) := by
        rw [eP, ew, eK, emg, eb]
        exact O.on
      have ⟨f0, fd0, D0, G0⟩ := on'.d_run
      exact po_call (ds := [v, .int 5, .int (-1)]) (takes_of rfl rfl rfl rfl) D0 G0 (rm.mono (by decide)) (ar_d (pd_var 6 (pv 6) rfl) (ar_d pd_int (ar_d (pd_neg (i := 1) pd_int) ar_nil))) ⟨v, [.int 5, .int (-1)], r, rfl, rfl, pb, rfl⟩ fun _ z => z
    · refine .own _ k1 (bnd_dflt rfl fun cells doc pm ct c1 td t o n tk ho hs => ⟨_, BindsTo.of_defaults rfl ho hs rfl rfl, fun z hz => by cases hz with | head => rfl | tail _ z0 => cases z0⟩) (lamF_by (by dsimp only; exact (show lamFB nLaw01 (defScope s_law) _ = true by decide +kernel))) (fun Z c1 A0 outer0 s' H0 E' eP ew eK emg eb rm => ?_)
      have on' : OnD Z.prog Z.w Z.K Z.mg Z.base Ts (cs.getD 5 0) := by
        rw [eP, ew, eK, emg, eb]
        exact O.on
      have ⟨f0, fd0, D0, G0⟩ := on'.d_made
      exact po_call (ds := [v, .none]) (takes_of rfl rfl rfl rfl) D0 G0 (rm.mono (by decide)) (ar_d (pd_var 6 (pv 6) rfl) (ar_d pd_non ar_nil)) ⟨v, [.none], r, rfl, rfl, pb, rfl⟩ fun _ z => z
    · refine .own _ k2 (bnd_dflt rfl fun cells doc pm ct c1 td t o n tk ho hs => ⟨_, BindsTo.of_defaults rfl ho hs rfl rfl, fun z hz => by cases hz with | head => rfl | tail _ z0 => cases z0⟩) (lamF_by (by dsimp only; exact (show lamFB nLaw01 (defScope s_law) _ = true by decide +kernel))) (fun Z c1 A0 outer0 s' H0 E' eP ew eK emg eb rm => ?_)
      have on' : OnD Z.prog Z.w Z.K Z.mg Z.base Ts (cs.getD 5 0) := by
        rw [eP, ew, eK, emg, eb]
        exact O.on
      have ⟨f0, fd0, D0, G0⟩ := on'.d_written
      exact po_call (ds := [v]) (takes_of rfl rfl rfl rfl) D0 G0 (rm.mono (by decide)) (ar_d (pd_var 6 (pv 6) rfl) ar_nil) ⟨v, [], r, rfl, rfl, pb, rfl⟩ fun _ z => z
    · refine .own _ k3 (bnd_dflt rfl fun cells doc pm ct c1 td t o n tk ho hs => ⟨_, BindsTo.of_defaults rfl ho hs rfl rfl, fun z hz => by cases hz with | head => rfl | tail _ z0 => cases z0⟩) (lamF_by (by dsimp only; exact (show lamFB nLaw01 (defScope s_law) _ = true by decide +kernel))) (fun Z c1 A0 outer0 s' H0 E' eP ew eK emg eb rm => ?_)
      have on' : OnD Z.prog Z.w Z.K Z.mg Z.base Ts (cs.getD 5 0) := by
        rw [eP, ew, eK, emg, eb]
        exact O.on
      have ⟨f0, fd0, D0, G0⟩ := on'.d_read_choice
      exact po_call (ds := [v, .none, .str ""]) (takes_of rfl rfl rfl rfl) D0 G0 (rm.mono (by decide)) (ar_d (pd_var 6 (pv 6) rfl) (ar_d pd_non (ar_d pd_str ar_nil))) ⟨v, [.none, .str ""], r, rfl, rfl, pb, rfl⟩ fun _ z => z
end
end Bw
namespace Bw
open PySem PySem.Spec PyProof.Rows L2 GxR Gx RZ Nx TL
section
variable {base : Heap} {K : PySem.W.Frag} {mg : Str → Option Value} {P : Program} {w : World}
set_option maxHeartbeats 4200000 in
theorem law01_rest {fl cL PL PD0 CB b l : Addr} {cs Ts : List Addr} {A : Around} {outer : List Env} {s : Shared} {H : Hp} {E : XK} (hr : Room 11 (A.deeper (envOfC "law" (defScope s_law) s.heap.objs.size fl (.ref cL)))) (O : On01 P w K mg base Ts cs CB cL PL PD0) (H1 : Hp) :
    HB (cxOf CX0 P w K mg base nLaw01 "law" (defScope s_law) fl (.ref cL) A outer s H E).nox ((defBody s_law).drop 1) (As (cw01 Ts b l PL PD0) H1 (cw01 Ts b l PL PD0).mx (cw01 Ts b l PL PD0).mx (g01 b .any .any .any .any)) { nx := fun _ _ => False, rt := fun v _ => v = .bl true } := by
  have hN := scLaw01.nd
  have hr1 := hr.mono (show 1 ≤ 11 by decide)
  have hr2 := hr.mono (show 2 ≤ 11 by decide)
  have hr3 := hr.mono (show 3 ≤ 11 by decide)
  have cm : ∀ a, (cw01 Ts b l PL PD0).mx a → (cw01 Ts b l PL PD0).mx a := fun _ z => z
  have ⟨fT, fdT, DT⟩ := O.tk
  have GT : FnOk P w K mg base CX0 1 fT fdT ["_law_box", "_law_many"] spTake := ok_take DT
  have ⟨fP, fdP, DP, GP⟩ := O.pr
  have ⟨fBe, fdBe, DBe, GBe⟩ := O.bent
  have ⟨fF, fdF, DF, GF⟩ := O.fst_
  refine hb_cons (hs_forD (α := Unit) (mw := (cw01 Ts b l PL PD0).mx) (own := [2]) (ds := intsFrom 0 6) (fun _ _ => True) (fun _ => g01 b .any .any .any .any) (fun i _ => g01 b (.d (nI i)) .any .any .any) () PassesOwn.never rfl cm (fun _ z => z) (fun _ z => .inl z) (it_range (n := 6) O.B.range pd_int (by decide)) (pg_name (i := 2) hN rfl (Or.inl rfl)) trivial rfl ?_ ?_ (fun _ σ H' _ h => h)) (hb_one (hs_ret cm pd_bl fun v H' tv _ _ => tv.blE))
  · intro i d _ hd _
    rw [(ints_get hd).1]
    exact tg_name 2
  intro H2 x2 al2 i d _ hd _
  refine hb_cons (hs_setX 6 (S := fun d => ∃ q : Prog, q.Ok ∧ d = progD q) cm hN (PV.up off_box (px_prog24 1 DP GP hr3 (pv 1) rfl pd_int (by decide) (by decide)))) (hb_ex fun d0 sd => ?_)
  obtain ⟨p0, p0ok, e0⟩ := sd
  rw [e0]
  refine hb_cons (B := fun σ H' => ∃ v, Fair v ∧ As (cw01 Ts b l PL PD0) H2 (cw01 Ts b l PL PD0).mx (cw01 Ts b l PL PD0).mx (g01 b (.d (nI i)) .any .any (.d v)) σ H') (hs_forX (n := 3) (mw := (cw01 Ts b l PL PD0).mx) (own := [3]) Fair (fun v => g01 b (.d (nI i)) .any .any (.d v)) (fun k v => g01 b (.d (nI i)) (.d (nI k)) .any (.d v)) (progD p0) PassesOwn.never rfl O.B.range cm (fun _ z => z) (fun _ z => .inl z) (px_oneMore pd_int (PV.up off_box (px_take 1 DT GT hr1 (pv 1) rfl pd_int (by decide) (by decide)))) (by decide) (pg_name (i := 3) hN rfl (Or.inl rfl)) (Fair.prog p0ok) rfl (fun k v _ => tg_name 3) ?_ (fun v σ H' fv h => ⟨v, fv, h⟩)) (hb_ex fun v fv => ?_)
  · intro H3 x3 al3 k v fv
    refine hb_one (hs_if cm (pq_isN (pd_call (ds := [v]) DF GF hr2 (ar_d (pd_var 6 (pv 6) rfl) ar_nil) ⟨v, rfl, fv.sh, fv.few, rfl⟩ fun _ z => nomatch z)) (fun e => ?_) (fun _ => hb_nil fun σ H' h => ⟨v, fv, h.any 3⟩))
    have pb : progBad v = none := by
      cases pb : progBad v with
      | none => rfl
      | some r =>
        unfold fstD at e
        rw [pb] at e
        cases e
    have ⟨p, pok, ep⟩ := prog_of_G pb
    subst ep
    exact hb_one (hs_post (hs_setX 6 (S := Fair) cm hN (PV.up off_box (PV.wider (px_bx (ds := [progD p]) 1 DBe GBe hr3 (pv 1) rfl (ar_d (pd_var 6 (pv 6) rfl) ar_nil) ⟨p, rfl, pok⟩) fun d h => h))) fun σ H' ⟨v2, f2, h⟩ => ⟨v2, f2, h.any 3⟩)
  · exact law01_turn hr O H2 i v fv _ fun σ H' h => ⟨(), trivial, h⟩
def spLaw01 (K : PySem.W.Frag) (Ts : List Addr) (PL PD0 : Addr) : Sp := fun vs H Q _ => ∃ (a : Addr) (ns : List Int), vs = [.ref a] ∧ SqL K H a (ns.map V.int) ∧ ns.length ≤ 63 ∧ (∀ T ∈ Ts, TabG H T) ∧ LamX.TabS H PD0 (lamQ "_law_doors" s_law_doors) ∧ LamX.TabS H PL (lamQ "law" s_law) ∧ ∀ H', Q (.bl true) H'
theorem ok_law01 {f cL PL PD0 CB : Addr} {cs Ts : List Addr} {fd : FuncData} (D : Dc K mg "law" s_law ["_law_script"] f fd cL) (O : On01 P w K mg base Ts cs CB cL PL PD0) : FnOk P w K mg base CX0 12 f fd ["_law_script"] (spLaw01 K Ts PL PD0) := by
  have ⟨fB, fdB, DBg⟩ := O.beg
  have GB : FnOk P w K mg base CX0 1 fB fdB ["_law_script"] (spBegun K) := ok_begun DBg O.B
  refine D.ok scLaw01 (fun vs H Q E h => ?_) (fun A outer s H vs Q E hr h => ?_)
  · have ⟨a, ns, e, _⟩ := h
    rw [e]
    rfl
  · obtain ⟨a, ns, rfl, hS, fewS, tabs, tD, tL, q⟩ := h
    have hr1 := hr.mono (show 1 ≤ 11 by decide)
    refine ⟨_, pss_cons (ps_set (i := 1) scLaw01.nd rfl (.inl rfl) (pcall DBg GB hr1 (pa_cons (pv 0) pa_nil))) (PSs.ex (C := fun _ : Addr × Addr × Hp => True) fun z _ => law01_rest (b := z.1) (l := z.2.1) hr O z.2.2), ?_⟩
    refine ⟨_, rfl, a, ns, rfl, hS, fewS, fun H1 b l nb nl bo1 x1 => ⟨(b, l, H1), trivial, ⟨⟨?_, fun T t => x1.tab T (tabs T t), ⟨bo1, fun p hp => ?_, fun p hp => ?_⟩, fun _ z => z, ?_⟩, Ext.refl _ _⟩, fun _ _ z => z.elim, fun v H' e => by rw [e]; exact q H', fun _ _ z => z.elim, fun _ _ z => z.elim⟩⟩
    · exact .cons trivial (.cons rfl (Reps.anys 5))
    · rcases List.mem_cons.mp hp with same | other
      · rw [same]
        exact tabS_ext O.nD (fun z => z) x1 tD
      · rw [List.mem_singleton.mp other]
        exact tabS_ext O.nL (fun z => z) x1 tL
    · rcases List.mem_cons.mp hp with same | other
      · rw [same]
        exact O.nD
      · rw [List.mem_singleton.mp other]
        exact O.nL
    · have ⟨L, z, h1, h2, _⟩ := bo1.ex
      intro x hx e
      rcases hx with hx | ⟨s, hx⟩
      · rcases hx with hx | hx
        · rw [hx, h1] at e; cases e
        · rw [hx, h2] at e; cases e
      · rcases List.mem_cons.mp hx with same | other
        · have ez : x = PD0 := congrArg Prod.fst same
          have ⟨ps, ht, _⟩ := tabS_ext O.nD (fun z => z) x1 tD
          rw [ez, ht] at e
          cases e
        · have ez : x = PL := congrArg Prod.fst (List.mem_singleton.mp other)
          have ⟨ps, ht, _⟩ := tabS_ext O.nL (fun z => z) x1 tL
          rw [ez, ht] at e
          cases e
end
end Bw
namespace Bw
open PySem PySem.Spec PyProof.Rows L2 GxR Gx RZ Nx TL
/-! ### law_k01: what the end wants -/
structure Wcls (K : PySem.W.Frag) (C : Addr) : Prop where
  cls : Cls K C
  program : NoAttr K C "program"
  frame : NoAttr K C "frame"
  places : NoAttr K C "places"
  groups : NoAttr K C "groups"
structure Dm (K : PySem.W.Frag) (C : Addr) (m : Str) (qual : Str) (st : Stmt) (ps : List Str) (f : Addr) (fd : FuncData) : Prop where
  F : Fun K m qual st f fd
  b : Binds K fd ps []
  at_ : Meth K C m f
section
variable {base : Heap} {K : PySem.W.Frag} {mg : Str → Option Value} {P : Program} {w : World} {Ts Ts' : List Addr} {f : Addr} {fd : FuncData} {k : Nat} {ps : List Str}
theorem fn_tabsW {R : List PyData → Out → Prop} (G : FnOk P w K mg base (L2.CX P w) k f fd ps (spFunX Ts R)) (s : ∀ T ∈ Ts, T ∈ Ts') : FnOk P w K mg base (L2.CX P w) k f fd ps (spFunX Ts' R) :=
  G.imp fun vs H Q E ⟨M, ds, o, all, al, tabs, r, q, bad⟩ => ⟨M, ds, o, all, al, fun T z => tabs T (s T z), r, q, bad⟩
theorem fn_tabsR {C CP : Addr} (G : FnOk P w K mg base (L2.CX P w) k f fd ps (spInitR C CP Ts)) (s : ∀ T ∈ Ts, T ∈ Ts') : FnOk P w K mg base (L2.CX P w) k f fd ps (spInitR C CP Ts') :=
  G.imp fun vs H Q E ⟨M, m, dx, us, v, d2, d3, r, e, hm, all, al, tabs, pb, bad⟩ => ⟨M, m, dx, us, v, d2, d3, r, e, hm, all, al, fun T z => tabs T (s T z), pb, bad⟩
end
end Bw
namespace Bw
open PySem PySem.Spec PyProof.Rows L2 GxR
/-! ### the end: what the top has left -/
/-- as LamX.walk_ofTs, where the tables of the defs named in xs are asked for -/
theorem walk_tabs {l : PySem.W.OpenLaw} {n k : Nat} {q : Program} {loose : List Str} {XP : (Str → Option Value) → Heap → Prop} {YP : World → Heap → Prop} {d : DefRec} {K : Params → PySem.W.Frag} {x : Str} (xs : List Str)
    (most : l.most = some n) (few : n ≤ sizeLine) (plain : d.params.defaults = []) (room : Room k callerA) (recs : ∀ y ∈ xs, ((recsOf q).any fun e => e.name == y) = true) (isIn : ∀ (w : World) (h : Heap), YP w h → (K w.params).In h)
    (F : ∀ (w : World) (mg : Str → Option Value) (fa : Addr) (h : Heap), (K w.params).In h → h.Ns mainGlobals mg → mg d.name = some (.ref fa) → (∀ y ∈ xs, ∀ f, mg y = some (.ref f) → LamX.OwnTab (K w.params) f h) → LamX.LawAtS l w (K w.params) CX0 k n x mg fa h) : PySem.W.WalkO q loose XP YP l.row.toRowW d [] (fun f vs => PySem.call f vs) := by
  refine Att.attach_callB most plain fun w s₀ s₁ mg mb fa o pm cd doc a vs ns G Y ho hd hcd hmg isList areInts short bits hg => ?_
  have there := isIn w _ Y
  have tabs : ∀ y ∈ xs, ∀ f, mg y = some (.ref f) → LamX.OwnTab (K w.params) f s₁.heap := by
    intro y hy f isF c T o1 fd1 e dd vs1 sl k1 k2 k3 k4 k5
    obtain ⟨rec, isRec, named⟩ := List.any_eq_true.mp (recs y hy)
    obtain ⟨f', o', fd', c', T', g1, g2, g3, g4, _, ⟨⟨oc, vc, g5, _, g6, g7⟩, empty⟩⟩ := G.T.tab rec isRec
    rw [beq_iff_eq.mp named, isF] at g1
    obtain rfl : f = f' := Value.ref.inj (Option.some.inj g1)
    obtain rfl : o1 = o' := Option.some.inj ((there _ _ k1).symm.trans g2)
    obtain rfl : fd1 = fd' := Data.func.inj (k2.symm.trans g3)
    obtain rfl : c = c' := Value.ref.inj (k3.symm.trans g4)
    obtain rfl : ({ cls := e, dict := dd, data := .fields vs1, slots := sl } : Obj) = oc := Option.some.inj ((there _ _ k4).symm.trans g5)
    obtain rfl : vs1 = vc := Data.fields.inj g6
    obtain rfl : T = T' := Value.ref.inj (Option.some.inj (k5.symm.trans g7))
    exact empty
  obtain ⟨fd, cs, sp, empty, apart, codes, binds, says, keeps⟩ := F w mg fa _ there G.T.g hmg tabs
  exact LamX.law_callTs there G.T.g G.T.b G.T.builtins G.T.nolimit hg empty apart codes G.T.bmain isList areInts (Nat.le_trans short few) room keeps binds (fun H isT isS => says H a ns short bits isT isS) fun _ _ _ z => z
section
variable {K : PySem.W.Frag} {h : Heap} {mg : Str → Option Value} {w : World} {A : Prop}
abbrev Bnd (x qual : Str) (st : Stmt) (ps : List Str) : Prop := ∀ (kV doc pm : Value) (an : Option Addr) (cdv ct : Value) (us : List Value), us.length = ps.length → bindArgs (PySem.W.fnOf x qual (defArgs st) (defBody st) (defScope st) .none kV doc pm an cdv ct) ⟨us, []⟩ = pure (ps.zip us)
theorem df_mk (x : Str) (st : Stmt) (ps : List Str) {f : Addr} {oc : Value} {od an : Option Addr} {osl : Array (Option Value)} {kV doc pm cdv ct : Value} (KX : K.In h) (G : h.Ns mainGlobals mg) (b : Bnd x x st ps)
    (at_ : PySem.W.nsIn K mainGlobals x = some (some (.ref f))) (lk : K.lookup f = some ⟨oc, od, .func (PySem.W.fnOf x x (defArgs st) (defBody st) (defScope st) .none kV doc pm an cdv ct), osl⟩) (cd : PySem.W.codeIn K cdv x = true) (kp : PySem.W.keepIn K (.ref f) = true)
    (next : ∀ f fd, Df K mg x st ps f fd → A) : A :=
  next f _ ⟨fun_mk (st := st) lk cd kp, (fun_mk (st := st) lk cd kp).binds b, PySem.W.mg_of KX G at_⟩
/-- a def that holds a generator expression: its code at c, its table at T -/
structure Gen (K : PySem.W.Frag) (h : Heap) (c T : Addr) : Prop where
  hd : PySem.W.CodeHd h c T
  no : K.lookup T = none
  tab : h.get? T = some { cls := .none, data := .fields #[] }
theorem dm_mk {C : Addr} (_ : Wcls K C) (m qual : Str) (st : Stmt) (ps : List Str) {f : Addr} {oc : Value} {od an : Option Addr} {osl : Array (Option Value)} {kV doc pm cdv ct : Value} (b : Bnd m qual st ps)
    (at_ : PySem.W.findIn K (.ref C) m = some (some (.ref f))) (fn : PySem.W.isFn K (.ref f) = true) (lk : K.lookup f = some ⟨oc, od, .func (PySem.W.fnOf m qual (defArgs st) (defBody st) (defScope st) .none kV doc pm an cdv ct), osl⟩) (cd : PySem.W.codeIn K cdv qual = true) (kp : PySem.W.keepIn K (.ref f) = true)
    (next : ∀ f fd, Dm K C m qual st ps f fd → A) : A :=
  next f _ ⟨fun_mk (st := st) lk cd kp, (fun_mk (st := st) lk cd kp).binds b, ⟨at_, fn, kp⟩⟩
theorem dcn_mk (x : Str) (st : Stmt) (ps : List Str) {f c T : Addr} {oc : Value} {od an : Option Addr} {osl : Array (Option Value)} {kV doc pm ct e : Value} {dd : Option Addr} {vs : Array Value} {sl : Array (Option Value)} (KX : K.In h) (G : h.Ns mainGlobals mg) (own : ∀ f, mg x = some (.ref f) → LamX.OwnTab K f h) (b : Bnd x x st ps)
    (at_ : PySem.W.nsIn K mainGlobals x = some (some (.ref f))) (lk : K.lookup f = some ⟨oc, od, .func (PySem.W.fnOf x x (defArgs st) (defBody st) (defScope st) .none kV doc pm an (.ref c) ct), osl⟩) (cd : PySem.W.codeIn K (.ref c) x = true) (kp : PySem.W.keepIn K (.ref f) = true)
    (lc : K.lookup c = some ⟨e, dd, .fields vs, sl⟩) (at11 : vs[11]? = some (.ref T)) (hd : PySem.W.codeHdIn K c T = true) (no : K.lookup T = none) (nt : T ∉ lamTabs)
    (next : ∀ f fd c T, Dc K mg x st ps f fd c → Gen K h c T → T ∉ lamTabs → A) : A := 
  next f _ c T ⟨⟨fun_mk (st := st) lk cd kp, (fun_mk (st := st) lk cd kp).binds b, PySem.W.mg_of KX G at_⟩, ⟨oc, od, kV, doc, pm, an, ct, osl, rfl, lk, cd⟩⟩ ⟨PySem.W.codeHd_of_K KX hd, no, own f (PySem.W.mg_of KX G at_) c T _ _ e dd vs sl lk rfl rfl lc at11⟩ nt
theorem dcl_mk (x : Str) (st : Stmt) (ps : List Str) (T0 : Addr) {f c T : Addr} {oc : Value} {od an : Option Addr} {osl : Array (Option Value)} {kV doc pm ct e : Value} {dd : Option Addr} {vs : Array Value} {sl : Array (Option Value)} (KX : K.In h) (G : h.Ns mainGlobals mg) (own : ∀ f, mg x = some (.ref f) → LamX.OwnTab K f h) (b : Bnd x x st ps)
    (at_ : PySem.W.nsIn K mainGlobals x = some (some (.ref f))) (lk : K.lookup f = some ⟨oc, od, .func (PySem.W.fnOf x x (defArgs st) (defBody st) (defScope st) .none kV doc pm an (.ref c) ct), osl⟩) (cd : PySem.W.codeIn K (.ref c) x = true) (kp : PySem.W.keepIn K (.ref f) = true)
    (lc : K.lookup c = some ⟨e, dd, .fields vs, sl⟩) (at11 : vs[11]? = some (.ref T)) (hd : PySem.W.codeHdIn K c T = true) (no : K.lookup T = none) (nt : T = T0)
    (next : ∀ f fd c T, Dc K mg x st ps f fd c → Gen K h c T → T = T0 → A) : A :=
  next f _ c T ⟨⟨fun_mk (st := st) lk cd kp, (fun_mk (st := st) lk cd kp).binds b, PySem.W.mg_of KX G at_⟩, ⟨oc, od, kV, doc, pm, an, ct, osl, rfl, lk, cd⟩⟩ ⟨PySem.W.codeHd_of_K KX hd, no, own f (PySem.W.mg_of KX G at_) c T _ _ e dd vs sl lk rfl rfl lc at11⟩ nt
structure PartAt (K : PySem.W.Frag) (d : Addr) (word : Str) (xs : List V) : Prop where
  ex : ∃ a, PySem.W.nsIn K d word = some (some (.ref a)) ∧ ∀ H, SqT K H a xs
theorem part_mk {d a : Addr} {word : Str} {xs : List V} {od : Option Addr} {its : Array Value} {n : Nat} {sl : Array (Option Value)} (at_ : PySem.W.nsIn K d word = some (some (.ref a))) (lk : K.lookup a = some ⟨.type "tuple", od, .seq its n, sl⟩) (few : its.size ≤ 10) (v : Vals xs its.toList) : PartAt K d word xs :=
  ⟨a, at_, fun H => .inr ⟨_, its, n, lk, rfl, rfl, Nat.le_trans few (by decide), v⟩⟩
end
end Bw
namespace Bw
open PySem PySem.Spec PyProof.Rows L2 GxR
theorem law_binds {K : PySem.W.Frag} {f : Addr} {fd : FuncData} (F : Fun K "law" "law" s_law f fd) : ∀ (s : Shared) (u : Value), BindsTo s fd ⟨[u], []⟩ [("_law_script", u)] := by
  obtain ⟨oc, od, kV, doc, pm, an, cdv, ct, osl, same, _, _⟩ := F.ex
  subst same
  exact fun s u => .of_eq rfl
theorem all_these {R : Addr × Addr → Prop} {a0 a1 a2 a3 a4 a5 : Addr × Addr} (ha0 : R a0) (ha1 : R a1) (ha2 : R a2) (ha3 : R a3) (ha4 : R a4) (ha5 : R a5) : ∀ p ∈ [a0, a1, a2, a3, a4, a5], R p := fun p hp => by
  simp only [List.mem_cons, List.not_mem_nil, or_false] at hp
  rcases hp with z | z | z | z | z | z <;> (rw [z]; assumption)
theorem tab_of {H : Hp} {T : Addr} (h : H T = some (.tbl #[])) (n : T ∉ lamTabs) : TabG H T := ⟨⟨#[], h, trivial⟩, n⟩
theorem law_at {l : PySem.W.OpenLaw} {w : World} {K : PySem.W.Frag} {mg : Str → Option Value} {h : Heap} {fa C dp : Addr} {es : Array DictEntry} {n0 : Nat} {f1 f2 f3 f4 f5 f6 f7 f8 f9 f10 f11 f12 f13 f14 f15 f16 f17 f18 f19 f20 f21 f22 f23 f24 f25 f26 f27 f28 f29 f30 f31 f32 f33 cDL tDL cDLdo tDLdo cDRC tDRC cDTsp tDTsp cDRn tDRn cDMd tDMd : Addr}
    {d1 d2 d3 d4 d5 d6 d7 d8 d9 d10 d11 d12 d13 d14 d15 d16 d17 d18 d19 d20 d21 d22 d23 d24 d25 d26 d27 d28 d29 d30 d31 d32 d33 : FuncData}
    (DL : Dc K mg "law" s_law ["_law_script"] f1 d1 cDL) (gDL : Gen K h cDL tDL) (eDL : tDL = 1002) (DB : Df K mg "_law_begun" s_begun ["_law_script"] f2 d2) (DT : Df K mg "_law_take" s_take ["_law_box", "_law_many"] f3 d3) (DA : Df K mg "_law_alike" s_alike ["_law_found", "_law_due"] f4 d4)
    (DR : Df K mg "_law_row" s_row ["_law_box", "_law_names", "_law_many", "_law_at"] f5 d5) (DP : Df K mg "_law_program" s_program ["_law_box", "_law_most"] f6 d6) (DBe : Df K mg "_law_bent" s_law_bent ["_law_box", "_law_program_here"] f7 d7) (DLod : Df K mg "_law_odd" s_law_odd ["_law_box", "_law_row_here"] f8 d8)
    (DLis : Df K mg "_law_is" s_law_is ["_law_part", "_law_low", "_law_high"] f9 d9) (DLfs : Df K mg "_law_first" s_law_first ["_law_program_here"] f10 d10) (DLdo : Dc K mg "_law_doors" s_law_doors ["_law_program_here", "_law_frame_here", "_law_choice_here"] f11 d11 cDLdo) (gDLdo : Gen K h cDLdo tDLdo) (eDLdo : tDLdo = 969) (DLto : Df K mg "_law_told" s_law_told ["_law_work"] f12 d12)
    (DLal : Df K mg "_law_all" s_law_all ["_law_works", "_law_due"] f13 d13) (DC : Df K mg "check_program" s_check_program ["program"] f14 d14) (DH0 : Df K mg "head_can_be" s_head_can_be ["program"] f15 d15) (DRC : Dc K mg "row_can_be" s_row_can_be ["row", "names", "many"] f16 d16 cDRC) (gDRC : Gen K h cDRC tDRC) (nDRC : tDRC ∉ lamTabs)
    (DN : Df K mg "is_number" s_is_number ["value", "low", "high"] f17 d17) (DTu : Df K mg "is_tuple_of" s_is_tuple_of ["value", "many"] f18 d18) (DAl : Df K mg "check_all" s_check_all ["program", "frame", "choice"] f19 d19) (DTsp : Dc K mg "spaced" s_spaced ["words"] f20 d20 cDTsp) (gDTsp : Gen K h cDTsp tDTsp) (nDTsp : tDTsp ∉ lamTabs)
    (DRb : Df K mg "run_boxes" s_run_boxes ["program", "frame", "choice", "given", "fuel", "junk"] f21 d21) (DWk : Df K mg "walk" s_walk ["program", "frame", "choice", "ways"] f22 d22) (DU : Df K mg "paper" s_paper ["program", "frame", "choice"] f23 d23) (DW : Df K mg "shows" s_shows ["program", "frame", "choice", "told"] f24 d24)
    (DKd : Df K mg "checked" s_checked ["program", "frame", "choice"] f25 d25) (DLt0 : Df K mg "least" s_least ["program", "frame", "choice", "most"] f26 d26) (DRn : Dc K mg "renumbered" s_renumbered ["program", "frame", "choice", "order"] f27 d27 cDRn) (gDRn : Gen K h cDRn tDRn) (nDRn : tDRn ∉ lamTabs) (DTwc : Df K mg "written_choice" s_written_choice ["program", "frame", "choice"] f28 d28)
    (DRu : Df K mg "run" s_run ["program", "given", "fuel"] f29 d29) (DMd : Dc K mg "made" s_made ["program", "frame"] f30 d30 cDMd) (gDMd : Gen K h cDMd tDMd) (nDMd : tDMd ∉ lamTabs) (DTwr : Df K mg "written" s_written ["program"] f31 d31) (DTrc : Df K mg "read_choice" s_read_choice ["program", "frame", "text"] f32 d32)
    (DmI : Dm K C "__init__" "Witness.__init__" s_w_init ["self", "program", "frame", "choice"] f33 d33) (isL : mg "law" = some (.ref fa)) (mkC : PySem.W.makesIn K C = true) (kpC : PySem.W.keepIn K (.ref C) = true) (gM : mg "Witness" = some (.ref C)) (M : Wcls K C)
    (PT0 : Parts K w mg dp es n0) (KA : KeysAre partKeys es.toList) (B : Bt mg) (nS : mg "set" = none) (nO : mg "sorted" = none) (G : Gk mg) {CB i5 : Addr} {cs : List Addr} {d5 : FuncData} (BB : Base K mg CB) (C5b : Bad K mg "BadProgram" (cs.getD 5 0) i5) (F5 : Fun K "__init__" "BadProgram.__init__" s_e_BadProgram i5 d5) (B5 : Binds K d5 ["self", "row"] []) (C5 : Caught K mg CB cs 5) (hvE : mg "ValueError" = none) : LamX.LawAtS l w K CX0 12 63 "_law_script" mg fa h := by
  obtain rfl : f1 = fa := Value.ref.inj (Option.some.inj (DL.D.g.symm.trans isL))
  refine ⟨d1, [(cDL, tDL), (cDLdo, tDLdo), (cDRC, tDRC), (cDTsp, tDTsp), (cDRn, tDRn), (cDMd, tDMd)], spLaw01 K [tDRC, tDTsp, tDRn, tDMd] tDL tDLdo, ?_, ?_, ?_, law_binds DL.D.F, ?_, ?_⟩
  · exact all_these gDL.tab gDLdo.tab gDRC.tab gDTsp.tab gDRn.tab gDMd.tab
  · exact all_these gDL.no gDLdo.no gDRC.no gDTsp.no gDRn.no gDMd.no
  · exact all_these gDL.hd gDLdo.hd gDRC.hd gDTsp.hd gDRn.hd gDMd.hd
  · intro H a ns short _ tabs isS
    exact ⟨a, ns, rfl, isS, short, (List.forall_mem_cons.mpr ⟨(tab_of (tabs (cDRC, tDRC) (by simp)) nDRC), (List.forall_mem_cons.mpr ⟨(tab_of (tabs (cDTsp, tDTsp) (by simp)) nDTsp), (List.forall_mem_cons.mpr ⟨(tab_of (tabs (cDRn, tDRn) (by simp)) nDRn), (List.forall_mem_cons.mpr ⟨(tab_of (tabs (cDMd, tDMd) (by simp)) nDMd), (fun _ z => by cases z)⟩)⟩)⟩)⟩), LamX.TabS.nil (tabs (cDLdo, tDLdo) (by simp)), LamX.TabS.nil (tabs (cDL, tDL) (by simp)), fun _ => rfl⟩
  · intro base inB _ TBs
    have xDL := TBs (cDL, tDL) (by simp)
    have bDL : GxR.TabB base mg cDL tDL := ⟨xDL.code, xDL.bm, xDL.gP⟩
    have xDLdo := TBs (cDLdo, tDLdo) (by simp)
    have bDLdo : GxR.TabB base mg cDLdo tDLdo := ⟨xDLdo.code, xDLdo.bm, xDLdo.gP⟩
    have xDRC := TBs (cDRC, tDRC) (by simp)
    have bDRC : GxR.TabB base mg cDRC tDRC := ⟨xDRC.code, xDRC.bm, xDRC.gP⟩
    have xDTsp := TBs (cDTsp, tDTsp) (by simp)
    have bDTsp : GxR.TabB base mg cDTsp tDTsp := ⟨xDTsp.code, xDTsp.bm, xDTsp.gP⟩
    have xDRn := TBs (cDRn, tDRn) (by simp)
    have bDRn : GxR.TabB base mg cDRn tDRn := ⟨xDRn.code, xDRn.bm, xDRn.gP⟩
    have xDMd := TBs (cDMd, tDMd) (by simp)
    have bDMd : GxR.TabB base mg cDMd tDMd := ⟨xDMd.code, xDMd.bm, xDMd.gP⟩
    have iDLdo : tDLdo ∈ lamTabs := by rw [eDLdo]; decide
    have iDL : tDL ∈ lamTabs := by rw [eDL]; decide
    have GTcp := dt_checkP (ok_check (P := l.prog) (w := w) (base := base) DC DH0 DRC bDRC DN DTu PT0 B G)
    have GTsp := ok_spaced (P := l.prog) (w := w) DTsp bDTsp B
    have GTwr := fn_tabs (Ts' := [tDRC, tDTsp, tDRn, tDMd]) (ok_written DTwr DC GTcp DTsp.D GTsp) (by simp)
    have GI5 := ok_badProgram (P := l.prog) (w := w) (base := base) F5 BB C5b
    have GHd := ok_headG (P := l.prog) (w := w) (base := base) DH0 DTu DN B G
    have GRw := dt_rowG (ok_rowG (P := l.prog) (w := w) DRC bDRC DN PT0 KA B G)
    have GCk := ok_chkG DC DH0 GHd DRC.D GRw C5b GI5 B5 B G
    have GCa := od_all DAl DC GCk
    have OD : OnD l.prog w K mg base [tDRC, tDTsp, tDRn, tDMd] (cs.getD 5 0) := ⟨⟨_, _, DRb, fn_tabsW (od_run_boxes DRb DAl GCa) (by simp)⟩, ⟨_, _, DWk, fn_tabsW (od_walk DWk DAl GCa) (by simp)⟩, ⟨_, _, DU, fn_tabsW (od_paper DU DAl GCa) (by simp)⟩, ⟨_, _, DW, fn_tabsW (od_shows DW DAl GCa) (by simp)⟩, ⟨_, _, DKd, fn_tabsW (od_checked DKd DAl GCa) (by simp)⟩, ⟨_, _, DLt0, fn_tabsW (od_least DLt0 DAl GCa) (by simp)⟩, ⟨_, _, DRn.D, fn_tabsW (od_renumbered DRn.D DAl GCa) (by simp)⟩, ⟨_, _, DTwc, fn_tabsW (od_written_choice DTwc DAl GCa) (by simp)⟩,
      ⟨_, _, DRu, fn_tabsW (od_run DRu DC GCk) (by simp)⟩, ⟨_, _, DMd.D, fn_tabsW (od_made DMd.D DC GCk) (by simp)⟩, ⟨_, _, DTwr, fn_tabsW (od_written DTwr DC GCk) (by simp)⟩, ⟨_, _, DTrc, fn_tabsW (od_read_choice DTrc DC GCk) (by simp)⟩, ⟨_, _, _, ⟨mkC, DmI.at_.at_, DmI.at_.fn, kpC⟩, gM, DmI.b, fn_tabsR (od_init DmI.F DAl GCa) (by simp)⟩⟩
    have OL : On01 l.prog w K mg base [tDRC, tDTsp, tDRn, tDMd] cs CB cDL tDL tDLdo := ⟨iDL, iDLdo, by rw [eDLdo, eDL]; decide, xDL, C5, BB.g, hvE, B, ⟨_, _, DB⟩, ⟨_, _, DT⟩, ⟨_, _, DP, ok_program DP DT DR B⟩, ⟨_, _, DBe, ok_bentP DBe DT DLod B⟩, ⟨_, _, DLfs, ok_lfirst DLfs DLis B⟩, ⟨_, _, DLdo.D, ok_doors DLdo xDLdo iDLdo OD⟩, ⟨_, _, DLal⟩, ⟨_, _, DA⟩, ⟨_, _, DLto⟩, ⟨_, _, DTwr, GTwr⟩, OD⟩
    exact ok_law01 DL OL
theorem bs_law : Bnd "law" "law" s_law ["_law_script"] := fun _ _ _ _ _ _ us hl => match us, hl with | [_], _ => rfl
theorem bs_begun : Bnd "_law_begun" "_law_begun" s_begun ["_law_script"] := fun _ _ _ _ _ _ us hl => match us, hl with | [_], _ => rfl
theorem bs_take : Bnd "_law_take" "_law_take" s_take ["_law_box", "_law_many"] := fun _ _ _ _ _ _ us hl => match us, hl with | [_, _], _ => rfl
theorem bs_alike : Bnd "_law_alike" "_law_alike" s_alike ["_law_found", "_law_due"] := fun _ _ _ _ _ _ us hl => match us, hl with | [_, _], _ => rfl
theorem bs_row : Bnd "_law_row" "_law_row" s_row ["_law_box", "_law_names", "_law_many", "_law_at"] := fun _ _ _ _ _ _ us hl => match us, hl with | [_, _, _, _], _ => rfl
theorem bs_program : Bnd "_law_program" "_law_program" s_program ["_law_box", "_law_most"] := fun _ _ _ _ _ _ us hl => match us, hl with | [_, _], _ => rfl
theorem bs_law_bent : Bnd "_law_bent" "_law_bent" s_law_bent ["_law_box", "_law_program_here"] := fun _ _ _ _ _ _ us hl => match us, hl with | [_, _], _ => rfl
theorem bs_law_odd : Bnd "_law_odd" "_law_odd" s_law_odd ["_law_box", "_law_row_here"] := fun _ _ _ _ _ _ us hl => match us, hl with | [_, _], _ => rfl
theorem bs_law_is : Bnd "_law_is" "_law_is" s_law_is ["_law_part", "_law_low", "_law_high"] := fun _ _ _ _ _ _ us hl => match us, hl with | [_, _, _], _ => rfl
theorem bs_law_first : Bnd "_law_first" "_law_first" s_law_first ["_law_program_here"] := fun _ _ _ _ _ _ us hl => match us, hl with | [_], _ => rfl
theorem bs_law_doors : Bnd "_law_doors" "_law_doors" s_law_doors ["_law_program_here", "_law_frame_here", "_law_choice_here"] := fun _ _ _ _ _ _ us hl => match us, hl with | [_, _, _], _ => rfl
theorem bs_law_told : Bnd "_law_told" "_law_told" s_law_told ["_law_work"] := fun _ _ _ _ _ _ us hl => match us, hl with | [_], _ => rfl
theorem bs_law_all : Bnd "_law_all" "_law_all" s_law_all ["_law_works", "_law_due"] := fun _ _ _ _ _ _ us hl => match us, hl with | [_, _], _ => rfl
theorem bs_check_program : Bnd "check_program" "check_program" s_check_program ["program"] := fun _ _ _ _ _ _ us hl => match us, hl with | [_], _ => rfl
theorem bs_head_can_be : Bnd "head_can_be" "head_can_be" s_head_can_be ["program"] := fun _ _ _ _ _ _ us hl => match us, hl with | [_], _ => rfl
theorem bs_row_can_be : Bnd "row_can_be" "row_can_be" s_row_can_be ["row", "names", "many"] := fun _ _ _ _ _ _ us hl => match us, hl with | [_, _, _], _ => rfl
theorem bs_is_number : Bnd "is_number" "is_number" s_is_number ["value", "low", "high"] := fun _ _ _ _ _ _ us hl => match us, hl with | [_, _, _], _ => rfl
theorem bs_is_tuple_of : Bnd "is_tuple_of" "is_tuple_of" s_is_tuple_of ["value", "many"] := fun _ _ _ _ _ _ us hl => match us, hl with | [_, _], _ => rfl
theorem bs_check_all : Bnd "check_all" "check_all" s_check_all ["program", "frame", "choice"] := fun _ _ _ _ _ _ us hl => match us, hl with | [_, _, _], _ => rfl
theorem bs_spaced : Bnd "spaced" "spaced" s_spaced ["words"] := fun _ _ _ _ _ _ us hl => match us, hl with | [_], _ => rfl
theorem bs_run_boxes : Bnd "run_boxes" "run_boxes" s_run_boxes ["program", "frame", "choice", "given", "fuel", "junk"] := fun _ _ _ _ _ _ us hl => match us, hl with | [_, _, _, _, _, _], _ => rfl
theorem bs_walk : Bnd "walk" "walk" s_walk ["program", "frame", "choice", "ways"] := fun _ _ _ _ _ _ us hl => match us, hl with | [_, _, _, _], _ => rfl
theorem bs_paper : Bnd "paper" "paper" s_paper ["program", "frame", "choice"] := fun _ _ _ _ _ _ us hl => match us, hl with | [_, _, _], _ => rfl
theorem bs_shows : Bnd "shows" "shows" s_shows ["program", "frame", "choice", "told"] := fun _ _ _ _ _ _ us hl => match us, hl with | [_, _, _, _], _ => rfl
theorem bs_checked : Bnd "checked" "checked" s_checked ["program", "frame", "choice"] := fun _ _ _ _ _ _ us hl => match us, hl with | [_, _, _], _ => rfl
theorem bs_least : Bnd "least" "least" s_least ["program", "frame", "choice", "most"] := fun _ _ _ _ _ _ us hl => match us, hl with | [_, _, _, _], _ => rfl
theorem bs_renumbered : Bnd "renumbered" "renumbered" s_renumbered ["program", "frame", "choice", "order"] := fun _ _ _ _ _ _ us hl => match us, hl with | [_, _, _, _], _ => rfl
theorem bs_written_choice : Bnd "written_choice" "written_choice" s_written_choice ["program", "frame", "choice"] := fun _ _ _ _ _ _ us hl => match us, hl with | [_, _, _], _ => rfl
theorem bs_run : Bnd "run" "run" s_run ["program", "given", "fuel"] := fun _ _ _ _ _ _ us hl => match us, hl with | [_, _, _], _ => rfl
theorem bs_made : Bnd "made" "made" s_made ["program", "frame"] := fun _ _ _ _ _ _ us hl => match us, hl with | [_, _], _ => rfl
theorem bs_written : Bnd "written" "written" s_written ["program"] := fun _ _ _ _ _ _ us hl => match us, hl with | [_], _ => rfl
theorem bs_read_choice : Bnd "read_choice" "read_choice" s_read_choice ["program", "frame", "text"] := fun _ _ _ _ _ _ us hl => match us, hl with | [_, _, _], _ => rfl
theorem bs_w_init : Bnd "__init__" "Witness.__init__" s_w_init ["self", "program", "frame", "choice"] := fun _ _ _ _ _ _ us hl => match us, hl with | [_, _, _, _], _ => rfl
section
variable {K : PySem.W.Frag} {h : Heap} {mg : Str → Option Value} {w : World} {A : Prop}
theorem gk_mk {t1 t2 t3 t4 t5 : Tok} (KX : K.In h) (G : h.Ns mainGlobals mg) (a1 : PySem.W.nsIn K mainGlobals "VALUE_MOST" = some (some (.int 999 t1))) (a2 : PySem.W.nsIn K mainGlobals "NAMES_MOST" = some (some (.int 8 t2))) (a3 : PySem.W.nsIn K mainGlobals "ROWS_MOST" = some (some (.int 24 t3)))
    (a4 : PySem.W.nsIn K mainGlobals "FUEL_MOST" = some (some (.int 1000 t4))) (a5 : PySem.W.nsIn K mainGlobals "REST_BY" = some (some (.int 1000 t5))) (next : Gk mg → A) : A :=
  next ⟨⟨_, PySem.W.mg_of KX G a1⟩, ⟨_, PySem.W.mg_of KX G a2⟩, ⟨_, PySem.W.mg_of KX G a3⟩, ⟨_, PySem.W.mg_of KX G a4⟩, ⟨_, PySem.W.mg_of KX G a5⟩⟩
theorem bt_mk (KX : K.In h) (G : h.Ns mainGlobals mg) (a1 : PySem.W.nsIn K mainGlobals "len" = some none) (a2 : PySem.W.nsIn K mainGlobals "list" = some none) (a3 : PySem.W.nsIn K mainGlobals "int" = some none) (a4 : PySem.W.nsIn K mainGlobals "tuple" = some none) (a5 : PySem.W.nsIn K mainGlobals "dict" = some none) (a6 : PySem.W.nsIn K mainGlobals "range" = some none) (a7 : PySem.W.nsIn K mainGlobals "min" = some none) (a8 : PySem.W.nsIn K mainGlobals "isinstance" = some none) (a9 : PySem.W.nsIn K mainGlobals "bool" = some none) (a10 : PySem.W.nsIn K mainGlobals "str" = some none) (a11 : PySem.W.nsIn K mainGlobals "all" = some none) (a12 : PySem.W.nsIn K mainGlobals "zip" = some none) (a13 : PySem.W.nsIn K mainGlobals "enumerate" = some none) (next : Bt mg → A) : A :=
  next ⟨PySem.W.mg_none_of KX G a1, PySem.W.mg_none_of KX G a2, PySem.W.mg_none_of KX G a3, PySem.W.mg_none_of KX G a4, PySem.W.mg_none_of KX G a5, PySem.W.mg_none_of KX G a6, PySem.W.mg_none_of KX G a7, PySem.W.mg_none_of KX G a8, PySem.W.mg_none_of KX G a9, PySem.W.mg_none_of KX G a10, PySem.W.mg_none_of KX G a11, PySem.W.mg_none_of KX G a12, PySem.W.mg_none_of KX G a13⟩
theorem no_mk (KX : K.In h) (G : h.Ns mainGlobals mg) (a1 : PySem.W.nsIn K mainGlobals "set" = some none) (next : mg "set" = none → A) : A := next (PySem.W.mg_none_of KX G a1)
theorem so_mk (KX : K.In h) (G : h.Ns mainGlobals mg) (a1 : PySem.W.nsIn K mainGlobals "sorted" = some none) (next : mg "sorted" = none → A) : A := next (PySem.W.mg_none_of KX G a1)
theorem mc_mk {C : Addr} (KX : K.In h) (G : h.Ns mainGlobals mg) (at_ : PySem.W.nsIn K mainGlobals "Witness" = some (some (.ref C))) (pg : PySem.W.plainGet K C Str.empty = true) (hd : PySem.W.hasDictIn K C = true) (po : PySem.W.plainOver K C = true) (sa : PySem.W.findIn K (.ref C) "__setattr__" = some (some (.builtin "object.__setattr__")))
    (n1 : PySem.W.findIn K (.ref C) "program" = some none) (n2 : PySem.W.findIn K (.ref C) "frame" = some none) (n3 : PySem.W.findIn K (.ref C) "places" = some none) (n4 : PySem.W.findIn K (.ref C) "groups" = some none) (mkC : PySem.W.makesIn K C = true) (kpC : PySem.W.keepIn K (.ref C) = true)
    (next : mg "Witness" = some (.ref C) → Wcls K C → PySem.W.makesIn K C = true → PySem.W.keepIn K (.ref C) = true → A) : A :=
  next (PySem.W.mg_of KX G at_) ⟨⟨pg, hd, po, sa⟩, n1, n2, n3, n4⟩ mkC kpC
theorem pt_mkX {d : Addr} {es : Array DictEntry} {n : Nat} (KX : K.In h) (G : h.Ns mainGlobals mg) (at_ : PySem.W.nsIn K mainGlobals "PARTS" = some (some (.ref d))) (lk : K.lookup d = some ⟨.type "dict", none, .dict es n, #[]⟩) (lit : PySem.W.KeysLit w.params es.toList) (low : (d == sysModules) = false)
    (p1 : PartAt K d "put" [.str "name", .str "number"]) (p2 : PartAt K d "copy" [.str "name", .str "name"]) (p3 : PartAt K d "add" [.str "name", .str "name", .str "name"]) (p4 : PartAt K d "take" [.str "name", .str "name", .str "name"]) (p5 : PartAt K d "less" [.str "name", .str "name", .str "name"])
    (p6 : PartAt K d "call" [.str "name", .str "name"]) (p7 : PartAt K d "say" [.str "name"]) (p8 : PartAt K d "if" [.str "name", .str "row"]) (p9 : PartAt K d "go" [.str "row"]) (p10 : PartAt K d "end" []) (ka : KeysAre partKeys es.toList) (next : ∀ d es n, Parts K w mg d es n → KeysAre partKeys es.toList → A) : A :=
  next d es n ⟨PySem.W.mg_of KX G at_, ⟨lk, lit, low⟩, fun row => match row with
    | .put .. => p1.ex | .copy .. => p2.ex | .add .. => p3.ex | .take .. => p4.ex | .less .. => p5.ex | .call .. => p6.ex | .say .. => p7.ex | .iff .. => p8.ex | .go .. => p9.ex | .fin => p10.ex⟩ ka
theorem bs_e_BadProgram : Bnd "__init__" "BadProgram.__init__" s_e_BadProgram ["self", "row"] := fun _ _ _ _ _ _ us hl => match us, hl with | [_, _], _ => rfl
theorem names9 {c0 c1 c2 c3 c4 c5 c6 c7 c8 : Addr} (KX : K.In h) (G : h.Ns mainGlobals mg) (n0 : PySem.W.nsIn K mainGlobals "BadChoice" = some (some (.ref c0))) (n1 : PySem.W.nsIn K mainGlobals "BadCount" = some (some (.ref c1))) (n2 : PySem.W.nsIn K mainGlobals "BadFrame" = some (some (.ref c2))) (n3 : PySem.W.nsIn K mainGlobals "BadGiven" = some (some (.ref c3))) (n4 : PySem.W.nsIn K mainGlobals "BadPaper" = some (some (.ref c4))) (n5 : PySem.W.nsIn K mainGlobals "BadProgram" = some (some (.ref c5))) (n6 : PySem.W.nsIn K mainGlobals "BadText" = some (some (.ref c6))) (n7 : PySem.W.nsIn K mainGlobals "NoRoom" = some (some (.ref c7))) (n8 : PySem.W.nsIn K mainGlobals "TooMany" = some (some (.ref c8))) : ∀ i, i < 9 → mg (kindNames.getD i Str.empty) = some (.ref (([c0, c1, c2, c3, c4, c5, c6, c7, c8] : List Addr).getD i 0))
  | 0, _ => PySem.W.mg_of KX G n0
  | 1, _ => PySem.W.mg_of KX G n1
  | 2, _ => PySem.W.mg_of KX G n2
  | 3, _ => PySem.W.mg_of KX G n3
  | 4, _ => PySem.W.mg_of KX G n4
  | 5, _ => PySem.W.mg_of KX G n5
  | 6, _ => PySem.W.mg_of KX G n6
  | 7, _ => PySem.W.mg_of KX G n7
  | 8, _ => PySem.W.mg_of KX G n8
  | _ + 9, lt => absurd lt (by omega)
theorem all9 {c0 c1 c2 c3 c4 c5 c6 c7 c8 D : Addr} {b0 b1 b2 b3 b4 b5 b6 b7 b8 : Bool} (k0 : PySem.W.kitOne K (.ref D) (.ref c0) = some b0) (k1 : PySem.W.kitOne K (.ref D) (.ref c1) = some b1) (k2 : PySem.W.kitOne K (.ref D) (.ref c2) = some b2) (k3 : PySem.W.kitOne K (.ref D) (.ref c3) = some b3) (k4 : PySem.W.kitOne K (.ref D) (.ref c4) = some b4) (k5 : PySem.W.kitOne K (.ref D) (.ref c5) = some b5) (k6 : PySem.W.kitOne K (.ref D) (.ref c6) = some b6) (k7 : PySem.W.kitOne K (.ref D) (.ref c7) = some b7) (k8 : PySem.W.kitOne K (.ref D) (.ref c8) = some b8) {j : Nat} (e : [b0, b1, b2, b3, b4, b5, b6, b7, b8] = (List.range 9).map fun i => decide (i = j) := by decide) : ∀ i, i < 9 → PySem.W.kitOne K (.ref D) (.ref (([c0, c1, c2, c3, c4, c5, c6, c7, c8] : List Addr).getD i 0)) = some (decide (i = j)) := by
  simp only [List.range, List.range.loop, List.map_cons, List.map_nil, List.cons.injEq, and_true] at e
  obtain ⟨e0, e1, e2, e3, e4, e5, e6, e7, e8⟩ := e
  intro i lt
  match i, lt with
  | 0, _ => rw [← e0]; exact k0
  | 1, _ => rw [← e1]; exact k1
  | 2, _ => rw [← e2]; exact k2
  | 3, _ => rw [← e3]; exact k3
  | 4, _ => rw [← e4]; exact k4
  | 5, _ => rw [← e5]; exact k5
  | 6, _ => rw [← e6]; exact k6
  | 7, _ => rw [← e7]; exact k7
  | 8, _ => rw [← e8]; exact k8
  | _ + 9, lt => omega
theorem exc_mk {CB c0 c1 c2 c3 c4 c5 c6 c7 c8 f5 : Addr} {nm5 q5} {N5} {bs5} {bm5} {sn5} {sub5} {ab5} {col5} {dd5} {ka5} {kb5} {kc5} {kd5} {ke5} {oc5} {od5 an5} {osl5} {kV5 doc5 pm5 cdv5 ct5} (KX : K.In h) (G : h.Ns mainGlobals mg)
    (n0 : PySem.W.nsIn K mainGlobals "BadChoice" = some (some (.ref c0)))
    (n1 : PySem.W.nsIn K mainGlobals "BadCount" = some (some (.ref c1)))
    (n2 : PySem.W.nsIn K mainGlobals "BadFrame" = some (some (.ref c2)))
    (n3 : PySem.W.nsIn K mainGlobals "BadGiven" = some (some (.ref c3)))
    (n4 : PySem.W.nsIn K mainGlobals "BadPaper" = some (some (.ref c4)))
    (n5 : PySem.W.nsIn K mainGlobals "BadProgram" = some (some (.ref c5)))
    (n6 : PySem.W.nsIn K mainGlobals "BadText" = some (some (.ref c6)))
    (n7 : PySem.W.nsIn K mainGlobals "NoRoom" = some (some (.ref c7)))
    (n8 : PySem.W.nsIn K mainGlobals "TooMany" = some (some (.ref c8)))
    (nb : PySem.W.nsIn K mainGlobals "BoxError" = some (some (.ref CB)))
    (bm : PySem.W.typeIn K (.ref CB) = some (.type "type"))
    (bg : PySem.W.specialIn K (.ref CB) "__getattribute__" = some (some (.builtin "type.__getattribute__")))
    (br : PySem.W.readsIn K CB (.type "type") = true)
    (bi : PySem.W.findCls K (.ref CB) (.type "type") "__init__" = some (.val (.builtin "ValueError.__init__")))
    (be : PySem.W.subIn K (.ref CB) (.type "BaseException") = some true)
    (bd : PySem.W.hasDictIn K CB = true)
    (og : PySem.W.specialIn K (.builtin "object.__class__") "__get__" = some (some (.builtin "getset_descriptor.__get__")))
    (ot : PySem.W.takesIn K (.builtin "object.__class__") = some true)
    (ve : PySem.W.nsIn K mainGlobals "ValueError" = some none)
    (cl5 : K.lookup c5 = some (excClassObj nm5 q5 c5 N5 bs5 bm5 true sn5 sub5 ab5 col5 dd5 ka5 kb5 kc5 kd5 ke5 "ValueError.__new__"))
    (rv5 : PySem.HandSPX.refsVE bm5 = true)
    (sa5 : PySem.W.findIn K (.ref c5) "__setattr__" = some (some (.builtin "object.__setattr__")))
    (ex5 : PySem.W.subIn K (.ref c5) (.type "BaseException") = some true)
    (ty5 : PySem.W.typeIn K (.ref c5) = some (.type "type"))
    (kp5 : PySem.W.keepIn K (.ref c5) = true)
    (rw5 : PySem.W.findIn K (.ref c5) "row" = some none)
    (in5 : PySem.W.findIn K (.ref c5) "__init__" = some (some (.ref f5)))
    (ft5 : PySem.W.typeIn K (.ref f5) = some (.type "function"))
    (lk5 : K.lookup f5 = some ⟨oc5, od5, .func (PySem.W.fnOf "__init__" "BadProgram.__init__" (defArgs s_e_BadProgram) (defBody s_e_BadProgram) (defScope s_e_BadProgram) .none kV5 doc5 pm5 an5 cdv5 ct5), osl5⟩)
    (cd5 : PySem.W.codeIn K cdv5 "BadProgram.__init__" = true)
    (kf5 : PySem.W.keepIn K (.ref f5) = true)
    (ga5 : PySem.W.findIn K (.ref c5) "__getattribute__" = some (some (.builtin "BaseException.__getattribute__")))
    (gg5 : PySem.W.findIn K (.ref c5) "__getattr__" = some none)
    (hd5 : PySem.W.hasDictIn K c5 = true)
    (hc5 : PySem.W.findIn K (.ref c5) "__class__" = some (some (.builtin "object.__class__")))
    (hm5 : PySem.W.mroIn K c5 (.type "object") = some true)
    (sb5 : PySem.W.subIn K (.ref c5) (.ref CB) = some true)
    (kv5 : PySem.W.kitOne K (.ref c5) (.type "ValueError") = some true)
    (k5x0 : PySem.W.kitOne K (.ref c5) (.ref c0) = some false)
    (k5x1 : PySem.W.kitOne K (.ref c5) (.ref c1) = some false)
    (k5x2 : PySem.W.kitOne K (.ref c5) (.ref c2) = some false)
    (k5x3 : PySem.W.kitOne K (.ref c5) (.ref c3) = some false)
    (k5x4 : PySem.W.kitOne K (.ref c5) (.ref c4) = some false)
    (k5x5 : PySem.W.kitOne K (.ref c5) (.ref c5) = some true)
    (k5x6 : PySem.W.kitOne K (.ref c5) (.ref c6) = some false)
    (k5x7 : PySem.W.kitOne K (.ref c5) (.ref c7) = some false)
    (k5x8 : PySem.W.kitOne K (.ref c5) (.ref c8) = some false)
    (next : ∀ (CB : Addr) (cs : List Addr) (i5 : Addr) (d5 : FuncData), Base K mg CB → Bad K mg "BadProgram" (cs.getD 5 0) i5 → Fun K "__init__" "BadProgram.__init__" s_e_BadProgram i5 d5 → Binds K d5 ["self", "row"] [] → Caught K mg CB cs 5 → mg "ValueError" = none → A) : A :=
  next CB [c0, c1, c2, c3, c4, c5, c6, c7, c8] f5 _ ⟨PySem.W.mg_of KX G nb, bm, bg, br, bi⟩
    ⟨PySem.W.mg_of KX G n5, ⟨⟨_, _, _, _, _, _, _, _, _, _, _, _, _, _, _, cl5, rv5⟩, sa5, ex5, ty5, kp5⟩, rw5, in5, ft5⟩ (fun_mk (st := s_e_BadProgram) lk5 cd5 kf5) ((fun_mk (st := s_e_BadProgram) lk5 cd5 kf5).binds bs_e_BadProgram) ⟨names9 KX G n0 n1 n2 n3 n4 n5 n6 n7 n8, all9 k5x0 k5x1 k5x2 k5x3 k5x4 k5x5 k5x6 k5x7 k5x8, kv5, PySem.W.exm_ref be bd bm sb5, ⟨ga5, gg5, ex5, hd5, hc5, og, ot, hm5⟩, ⟨ga5, gg5, ex5, hd5⟩, rw5, by decide⟩ (PySem.W.mg_none_of KX G ve)
end
end Bw
open PySem PySem.W
open PyProof.Rows
def PySem.W.Fast.tw6106858202846390447 : Unit := ()
def PySem.W.Fast.tw6127747970562044021 : Unit := ()
def PySem.W.Fast.tw3658160326502618724 : Unit := ()
def PySem.W.Fast.tw11639573393541990800 : Unit := ()
def PySem.W.Fast.tw16284933550364563433 : Unit := ()
def PySem.W.Fast.tw18336265869981534998 : Unit := ()
def PySem.W.Fast.tw17752562782237919703 : Unit := ()
def PySem.W.Fast.tw2175799342739821139 : Unit := ()
def PySem.W.Fast.tw12447670079309308497 : Unit := ()
def PySem.W.Fast.tw16355716478529159686 : Unit := ()
def PySem.W.Fast.tw11776884277802266562 : Unit := ()
def PySem.W.Fast.tw11025376626200787236 : Unit := ()
def PySem.W.Fast.tw634196107848110477 : Unit := ()
def PySem.W.Fast.tw8192529275667212767 : Unit := ()
def PySem.W.Fast.tw11813323296368269397 : Unit := ()
def PySem.W.Fast.tw11714403293896600555 : Unit := ()
def PySem.W.Fast.tw11673188542164711391 : Unit := ()
def PySem.W.Fast.tw13606695257464616761 : Unit := ()
def PySem.W.Fast.tw6467627694982751575 : Unit := ()
def PySem.W.Fast.tw1629339570078721254 : Unit := ()
def PySem.W.Fast.tw3126760704549590035 : Unit := ()
def PySem.W.Fast.tw3132419255895149952 : Unit := ()
def PySem.W.Fast.tw3666935598963109114 : Unit := ()
def PySem.W.Fast.tw17971693507120622340 : Unit := ()
def PySem.W.Fast.tw285806519132100743 : Unit := ()
def PySem.W.Fast.tw10349370619028144873 : Unit := ()
def PySem.W.Fast.tw765722396696675988 : Unit := ()
def PySem.W.Fast.tw470113158424750647 : Unit := ()
def PySem.W.Fast.tw9949515544851123920 : Unit := ()
def PySem.W.Fast.tw2675347645392547217 : Unit := ()
def PySem.W.Fast.tw9047874100511289091 : Unit := ()
def PySem.W.Fast.tw5599005240035757579 : Unit := ()
def PySem.W.Fast.tw9506080773303232491 : Unit := ()
def PySem.W.Fast.tw13304130972492626986 : Unit := ()
def PySem.W.Fast.tw12640739740683543184 : Unit := ()
def PySem.W.Fast.tw12929445565769413472 : Unit := ()
def PySem.W.Fast.tw9062717064536217167 : Unit := ()
def PySem.W.Fast.tw206329236802742171 : Unit := ()
def PySem.W.Fast.tw9898176313454829287 : Unit := ()
def PySem.W.Fast.tw10333393013893763765 : Unit := ()
def PySem.W.Fast.tw17951666594503503144 : Unit := ()
def PySem.W.Fast.tw5365037776327183471 : Unit := ()
def PySem.W.Fast.tw15739983597273512469 : Unit := ()
def PySem.W.Fast.tw1053700312530984948 : Unit := ()
def PySem.W.Fast.tw10799370032283153465 : Unit := ()
def PySem.W.Fast.tw12395683983970347231 : Unit := ()
def PySem.W.Fast.tw11675234682392511841 : Unit := ()
def PySem.W.Fast.tw8891913522260022857 : Unit := ()
def PySem.W.Fast.tw1259625676088979823 : Unit := ()
def PySem.W.Fast.tw7540075143788259709 : Unit := ()
def PySem.W.Fast.tw7373417935047475415 : Unit := ()
def PySem.W.Fast.tw16328973760953654511 : Unit := ()
def PySem.W.Fast.tw8565117601868261780 : Unit := ()
def PySem.W.Fast.tw7277120942514463616 : Unit := ()
def PySem.W.Fast.tw13301453045699733107 : Unit := ()
def PySem.W.Fast.tw7969031228737297566 : Unit := ()
def PySem.W.Fast.tw17693656127885166721 : Unit := ()
def PySem.W.Fast.tw14045807079712801201 : Unit := ()
def PySem.W.Fast.tw12399741534325242458 : Unit := ()
def PySem.W.Fast.tw13309378307692901448 : Unit := ()
def PySem.W.Fast.tw16178842813617413426 : Unit := ()
def PySem.W.Fast.tw12129579779283849902 : Unit := ()
def PySem.W.Fast.tw3093867141505238268 : Unit := ()
def PySem.W.Fast.tw9923743718656898980 : Unit := ()
def PySem.W.Fast.tw15419777863496520280 : Unit := ()
def PySem.W.Fast.tw6298790964604403154 : Unit := ()
def PySem.W.Fast.tw14654504824345811430 : Unit := ()
def PySem.W.Fast.tw183997681190613595 : Unit := ()
def PySem.W.Fast.tw16165784403576647948 : Unit := ()
def PySem.W.Fast.tw11581816264030344707 : Unit := ()
def PySem.W.Fast.tw9797497805497735631 : Unit := ()
def PySem.W.Fast.tw14682360585244253130 : Unit := ()
def PySem.W.Fast.tw2627215023208256721 : Unit := ()
def PySem.W.Fast.tw2761625976143793880 : Unit := ()
def PySem.W.Fast.tw2875994914958306597 : Unit := ()
def PySem.W.Fast.tw12130362365878583677 : Unit := ()
def PySem.W.Fast.tw4524673666536959056 : Unit := ()
def PySem.W.Fast.tw13660100293010180597 : Unit := ()
def PySem.W.Fast.tw834260350545160518 : Unit := ()
def PySem.W.Fast.tw8396121306701659537 : Unit := ()
def PySem.W.Fast.tw137112765190196424 : Unit := ()
def PySem.W.Fast.tw11722887264195852684 : Unit := ()
def PySem.W.Fast.tw12884307337662779130 : Unit := ()
def PySem.W.Fast.tw16598750592538717576 : Unit := ()
def PySem.W.Fast.tw591239512772135004 : Unit := ()
def PySem.W.Fast.tw8421248269399403695 : Unit := ()
def PySem.W.Fast.tw17092788976609203461 : Unit := ()
def PySem.W.Fast.tw15347934974264243409 : Unit := ()
def PySem.W.Fast.tw7408521416934767515 : Unit := ()
def PySem.W.Fast.tw14989347334402377533 : Unit := ()
def PySem.W.Fast.tw7581358131890634631 : Unit := ()
def PySem.W.Fast.tw1013649830881484017 : Unit := ()
def PySem.W.Fast.tw16383171219850633542 : Unit := ()
def PySem.W.Fast.tw1386511980382130410 : Unit := ()
def PySem.W.Fast.tw14111577967522767537 : Unit := ()
def PySem.W.Fast.tw10958950124618147508 : Unit := ()
def PySem.W.Fast.tw11538374391305895288 : Unit := ()
def PySem.W.Fast.tw2667526657468611240 : Unit := ()
def PySem.W.Fast.tw13905175466073602496 : Unit := ()
def PySem.W.Fast.tw17352318183246043609 : Unit := ()
def PySem.W.Fast.tw17572237726487562927 : Unit := ()
def PySem.W.Fast.tw15543455036735911991 : Unit := ()
def PySem.W.Fast.tw1813516761501459396 : Unit := ()
def PySem.W.Fast.tw2338270522301534080 : Unit := ()
def PySem.W.Fast.tw12221365444635751912 : Unit := ()
def PySem.W.Fast.tw13722453665969358915 : Unit := ()
def PySem.W.Fast.tw15665600126146094462 : Unit := ()
def PySem.W.Fast.tw3900979782440499398 : Unit := ()
def PySem.W.Fast.tw6482828271834300201 : Unit := ()
def PySem.W.Fast.tw14073340833799955682 : Unit := ()
def PySem.W.Fast.tw15815220586926500772 : Unit := ()
def PySem.W.Fast.tw5518160894571426399 : Unit := ()
def PySem.W.Fast.tw14842209445666481241 : Unit := ()
def PySem.W.Fast.tw3271811914684285374 : Unit := ()
def PySem.W.Fast.tw15507013411439782737 : Unit := ()
def PySem.W.Fast.tw7480285357787933410 : Unit := ()
def PySem.W.Fast.tw5765051233475910581 : Unit := ()
def PySem.W.Fast.tw4943611075433786406 : Unit := ()
def PySem.W.Fast.tw16612942737957263442 : Unit := ()
def PySem.W.Fast.tw12275593870030118856 : Unit := ()
def PySem.W.Fast.tw5577316420439584316 : Unit := ()
def PySem.W.Fast.tw1794543994537601894 : Unit := ()
def PySem.W.Fast.tw8764614780965019830 : Unit := ()
def PySem.W.Fast.tw15152722020143335774 : Unit := ()
def PySem.W.Fast.tw7488839218609154273 : Unit := ()
def PySem.W.Fast.tw7390628579303322487 : Unit := ()
def PySem.W.Fast.tw5520213068026229791 : Unit := ()
def PySem.W.Fast.tw18138856603911437598 : Unit := ()
def PySem.W.Fast.tw2085782445565293052 : Unit := ()
def PySem.W.Fast.tw10213618515723769997 : Unit := ()
def PySem.W.Fast.tw5193129763576148493 : Unit := ()
def PySem.W.Fast.tw14264125538718576168 : Unit := ()
def PySem.W.Fast.tw4393503634012063224 : Unit := ()
def PySem.W.Fast.tw9152328545396533105 : Unit := ()
def PySem.W.Fast.tw16462700924891384028 : Unit := ()
def PySem.W.Fast.tw12811228163565481474 : Unit := ()
def PySem.W.Fast.tw18424677535377707460 : Unit := ()
def PySem.W.Fast.tw7996691723068533999 : Unit := ()
def PySem.W.Fast.tw13912710601673645430 : Unit := ()
def PySem.W.Fast.tw1747553669564274133 : Unit := ()
def PySem.W.Fast.tw5372367391882547824 : Unit := ()
def PySem.W.Fast.tw15084790781716192205 : Unit := ()
def PySem.W.Fast.tw5993493446430939313 : Unit := ()
def PySem.W.Fast.tw2664659752903223115 : Unit := ()
def PySem.W.Fast.tw13697671457860396718 : Unit := ()
def PySem.W.Fast.tw4358067954214042862 : Unit := ()
def PySem.W.Fast.tw13627457185325840957 : Unit := ()
def PySem.W.Fast.tw10465186209147438516 : Unit := ()
def PySem.W.Fast.tw5174545845318473117 : Unit := ()
def PySem.W.Fast.tw10326891901136916338 : Unit := ()
def PySem.W.Fast.tw7768116051525424887 : Unit := ()
def PySem.W.Fast.tw4917396604945066631 : Unit := ()
def PySem.W.Fast.tw8284491724150051272 : Unit := ()
def PySem.W.Fast.tw5096947290349938791 : Unit := ()
def PySem.W.Fast.tw15900514750363545996 : Unit := ()
def PySem.W.Fast.tw11733119794572987082 : Unit := ()
def PySem.W.Fast.tw14393724046940413138 : Unit := ()
def PySem.W.Fast.tw6744583453116251468 : Unit := ()
def PySem.W.Fast.tw13897301527100970332 : Unit := ()
def PySem.W.Fast.tw1211552496563183672 : Unit := ()
def PySem.W.Fast.tw1893611827208256659 : Unit := ()
def PySem.W.Fast.tw7204638555696438876 : Unit := ()
def PySem.W.Fast.tw12389773028538832269 : Unit := ()
def PySem.W.Fast.tw842496896874617484 : Unit := ()
def PySem.W.Fast.tw9712023226612244662 : Unit := ()
def PySem.W.Fast.tw8933284227410641325 : Unit := ()
def PySem.W.Fast.tw15384439709898172924 : Unit := ()
def PySem.W.Fast.tw7175584188284558727 : Unit := ()
def PySem.W.Fast.tw14834429689945281298 : Unit := ()
def PySem.W.Fast.tw14943449037399927674 : Unit := ()
def PySem.W.Fast.tw7924157755605035390 : Unit := ()
def PySem.W.Fast.tw567735717355521923 : Unit := ()
def PySem.W.Fast.tw13184043625768021257 : Unit := ()
def PySem.W.Fast.tw2016723041321011075 : Unit := ()
def PySem.W.Fast.tw616525081556394035 : Unit := ()
def PySem.W.Fast.tw9339786701184829183 : Unit := ()
def PySem.W.Fast.tw17806771524216502881 : Unit := ()
def PySem.W.Fast.tw7850382144451705103 : Unit := ()
def PySem.W.Fast.tw10502194918346807623 : Unit := ()
def PySem.W.Fast.tw7023460864919831164 : Unit := ()
def PySem.W.Fast.tw10670650934222733291 : Unit := ()
def PySem.W.Fast.tw6421696863443135702 : Unit := ()
def PySem.W.Fast.tw17840793245988750039 : Unit := ()
def PySem.W.Fast.tw5648122699676310945 : Unit := ()
def PySem.W.Fast.tw5524967100523169535 : Unit := ()
def PySem.W.Fast.tw4798712506394506102 : Unit := ()
def PySem.W.Fast.tw16120932523209066318 : Unit := ()
def PySem.W.Fast.tw10356680071459153544 : Unit := ()
def PySem.W.Fast.tw7333904006363687590 : Unit := ()
def PySem.W.Fast.tw10711118939446280984 : Unit := ()
def PySem.W.Fast.tw10047530134620013036 : Unit := ()
def PySem.W.Fast.tw9020302440017183823 : Unit := ()
def PySem.W.Fast.tw11749315248565711380 : Unit := ()
def PySem.W.Fast.tw10915533421941340932 : Unit := ()
def PySem.W.Fast.tw8374087753347749398 : Unit := ()
def PySem.W.Fast.tw17625328542621291955 : Unit := ()
def PySem.W.Fast.tw14086546854075939697 : Unit := ()
def PySem.W.Fast.tw16213423373518656311 : Unit := ()
def PySem.W.Fast.tw12523476446398248539 : Unit := ()
def PySem.W.Fast.tw11017066467234566508 : Unit := ()
def PySem.W.Fast.tw10394916083981263685 : Unit := ()
def PySem.W.Fast.tw12255396183049764726 : Unit := ()
def PySem.W.Fast.tw5548286450533657042 : Unit := ()
def PySem.W.Fast.tw7433583977039821669 : Unit := ()
def PySem.W.Fast.tw8720394521766001559 : Unit := ()
def PySem.W.Fast.tw13869034876527583804 : Unit := ()
def PySem.W.Fast.tw16793775008083477278 : Unit := ()
def PySem.W.Fast.tw11009339798199500606 : Unit := ()
def PySem.W.Fast.tw10241048771332319319 : Unit := ()
def PySem.W.Fast.tw1915155577330066818 : Unit := ()
def PySem.W.Fast.tw1177784803520841588 : Unit := ()
def PySem.W.Fast.tw6611173313241321426 : Unit := ()
def PySem.W.Fast.tw3946421652507929331 : Unit := ()
def PySem.W.Fast.tw7867510349645270306 : Unit := ()
def PySem.W.Fast.tw12543159536226333281 : Unit := ()
def PySem.W.Fast.tw8111470689315364704 : Unit := ()
def PySem.W.Fast.tw711852434262579431 : Unit := ()
def PySem.W.Fast.tw5712877898663812053 : Unit := ()
def PySem.W.Fast.tw5564108992785810263 : Unit := ()
def PySem.W.Fast.tw6823914621899435347 : Unit := ()
def PySem.W.Fast.tw15484198960167320242 : Unit := ()
def PySem.W.Fast.tw17516743435528645772 : Unit := ()
def PySem.W.Fast.tw5330569453289823966 : Unit := ()
def PySem.W.Fast.tw11500667462664294548 : Unit := ()
def PySem.W.Fast.tw9920484049819690112 : Unit := ()
def PySem.W.Fast.tw12531742394000782931 : Unit := ()
def PySem.W.Fast.tw6197490469967105274 : Unit := ()
def PySem.W.Fast.tw11102319895135440831 : Unit := ()
def PySem.W.Fast.tw14722143452493138041 : Unit := ()
def PySem.W.Fast.tw11638375126862532454 : Unit := ()
def PySem.W.Fast.tw603758999506167911 : Unit := ()
def PySem.W.Fast.tw3293185591234862199 : Unit := ()
def PySem.W.Fast.tw2647532143297816631 : Unit := ()
def PySem.W.Fast.tw1928456196890575893 : Unit := ()
def PySem.W.Fast.tw17862215799640409357 : Unit := ()
def PySem.W.Fast.tw6416650189700046813 : Unit := ()
def PySem.W.Fast.tw13081272211120965842 : Unit := ()
def PySem.W.Fast.tw1289913975761157734 : Unit := ()
def PySem.W.Fast.tw9687359435366176751 : Unit := ()
def PySem.W.Fast.tw12429012410908680969 : Unit := ()
def PySem.W.Fast.tw12971420948487295773 : Unit := ()
def PySem.W.Fast.tw4706263236060369420 : Unit := ()
def PySem.W.Fast.tw11982846861624951403 : Unit := ()
def PySem.W.Fast.tw4465547872089080833 : Unit := ()
def PySem.W.Fast.tw13732958414985567458 : Unit := ()
def PySem.W.Fast.tw14379964617672304766 : Unit := ()
def PySem.W.Fast.tw16690821081989877976 : Unit := ()
def PySem.W.Fast.tw10586924428929798261 : Unit := ()
def PySem.W.Fast.tw6508789129738956713 : Unit := ()
def PySem.W.Fast.tw6484888597880991191 : Unit := ()
def PySem.W.Fast.tw7396895813554557223 : Unit := ()
def PySem.W.Fast.tw4265269723267635337 : Unit := ()
def PySem.W.Fast.tw15564961487619675824 : Unit := ()
def PySem.W.Fast.tw16701336482194842922 : Unit := ()
def PySem.W.Fast.tw1461628046449150977 : Unit := ()
def PySem.W.Fast.tw9325257477186977542 : Unit := ()
def PySem.W.Fast.tw5255055187042690121 : Unit := ()
def PySem.W.Fast.tw11916570973281713331 : Unit := ()
def PySem.W.Fast.tw1160297760080585564 : Unit := ()
def PySem.W.Fast.tw18156807401352197079 : Unit := ()
def PySem.W.Fast.tw17643686785921681361 : Unit := ()
def PySem.W.Fast.tw15234945351925185857 : Unit := ()
def PySem.W.Fast.tw4070545982531290049 : Unit := ()
def PySem.W.Fast.tw9160098507273164513 : Unit := ()
def PySem.W.Fast.tw8052836977528181487 : Unit := ()
def PySem.W.Fast.tw1182295726097128732 : Unit := ()
def PySem.W.Fast.tw12026256019805370953 : Unit := ()
def PySem.W.Fast.tw9597931831107823920 : Unit := ()
def PySem.W.Fast.tw4183755061827307379 : Unit := ()
def PySem.W.Fast.tw15955859614331316493 : Unit := ()
def PySem.W.Fast.tw2292770236054037686 : Unit := ()
def PySem.W.Fast.tw7808728889695425605 : Unit := ()
def PySem.W.Fast.tw4585829084666275728 : Unit := ()
def PySem.W.Fast.tw5584736770237681384 : Unit := ()
def PySem.W.Fast.tw13989871501513025493 : Unit := ()
def PySem.W.Fast.tw18024577831942144861 : Unit := ()
def PySem.W.Fast.tw16406435688283651873 : Unit := ()
def PySem.W.Fast.tw1864865774760104518 : Unit := ()
def PySem.W.Fast.tw5504028229397269250 : Unit := ()
def PySem.W.Fast.tw5994902100848751276 : Unit := ()
def PySem.W.Fast.tw860689501996014496 : Unit := ()
def PySem.W.Fast.tw9234425115149110773 : Unit := ()
def PySem.W.Fast.tw11303011962812171164 : Unit := ()
def PySem.W.Fast.tw3848776343072004168 : Unit := ()
def PySem.W.Fast.tw14456451051016271104 : Unit := ()
def PySem.W.Fast.tw3590053690052183685 : Unit := ()
def PySem.W.Fast.tw9496349256844120488 : Unit := ()
def PySem.W.Fast.tw14541477987490436389 : Unit := ()
def PySem.W.Fast.tw10562504426880213794 : Unit := ()
def PySem.W.Fast.tw17471294049303402822 : Unit := ()
def PySem.W.Fast.tw7563375945602232385 : Unit := ()
def PySem.W.Fast.tw6182391665471472855 : Unit := ()
def PySem.W.Fast.tw314427880132032492 : Unit := ()
def PySem.W.Fast.tw8708945873366102161 : Unit := ()
def PySem.W.Fast.tw6710534901232826969 : Unit := ()
def PySem.W.Fast.tw15105984601057332278 : Unit := ()
def PySem.W.Fast.tw1441209053080124117 : Unit := ()
def PySem.W.Fast.tw6108151566631988427 : Unit := ()
def PySem.W.Fast.tw2356524365779359369 : Unit := ()
def PySem.W.Fast.tw2374410716773887466 : Unit := ()
def PySem.W.Fast.tw14596947637039701534 : Unit := ()
def PySem.W.Fast.tw13922985274088225040 : Unit := ()
def PySem.W.Fast.tw14469698223931253360 : Unit := ()
def PySem.W.Fast.tw16477699978880664719 : Unit := ()
def PySem.W.Fast.tw14458396081516825326 : Unit := ()
def PySem.W.Fast.tw6580107339416305669 : Unit := ()
def PySem.W.Fast.tw16894229261757641282 : Unit := ()
def PySem.W.Fast.tw4033070615190264193 : Unit := ()
def PySem.W.Fast.tw15955503260984863866 : Unit := ()
def PySem.W.Fast.tw3189410128611690028 : Unit := ()
def PySem.W.Fast.tw16595337559137949047 : Unit := ()
def PySem.W.Fast.tw12976844737523102303 : Unit := ()
def PySem.W.Fast.tw8716661088414705689 : Unit := ()
def PySem.W.Fast.tw3067673490547060909 : Unit := ()
def PySem.W.Fast.tw5518985313816223656 : Unit := ()
def PySem.W.Fast.tw5206131874334820541 : Unit := ()
def PySem.W.Fast.tw17020461760516312499 : Unit := ()
def PySem.W.Fast.tw13556656140626139925 : Unit := ()
def PySem.W.Fast.tw14075876488431419736 : Unit := ()
def PySem.W.Fast.tw15838568526015009023 : Unit := ()
def PySem.W.Fast.tw10535777864813259986 : Unit := ()
def PySem.W.Fast.tw16955428052231845559 : Unit := ()
def PySem.W.Fast.tw11845311986555594948 : Unit := ()
def PySem.W.Fast.tw147604595172532308 : Unit := ()
def PySem.W.Fast.tw616835341692291800 : Unit := ()
def PySem.W.Fast.tw2973313030421861368 : Unit := ()
def PySem.W.Fast.tw1779373975708181136 : Unit := ()
def PySem.W.Fast.tw13230297499700082236 : Unit := ()
def PySem.W.Fast.tw10122608406123679865 : Unit := ()
def PySem.W.Fast.tw10086862350002265374 : Unit := ()
def PySem.W.Fast.tw16626820937187674180 : Unit := ()
def PySem.W.Fast.tw17306601970418002881 : Unit := ()
def PySem.W.Fast.tw5192708911514750653 : Unit := ()
def PySem.W.Fast.tw3245420614940737380 : Unit := ()
def PySem.W.Fast.tw5964932444575425713 : Unit := ()
def PySem.W.Fast.tw15635586888057289729 : Unit := ()
def PySem.W.Fast.tw606399216776045984 : Unit := ()
def PySem.W.Fast.tw15816858876739225323 : Unit := ()
def PySem.W.Fast.tw14350591872162298336 : Unit := ()
def PySem.W.Fast.tw7007293213254586449 : Unit := ()
def PySem.W.Fast.tw10061370826257099457 : Unit := ()
def PySem.W.Fast.tw4276839220525755973 : Unit := ()
def PySem.W.Fast.tw13554543823960410031 : Unit := ()
def PySem.W.Fast.tw10879457915525876031 : Unit := ()
def PySem.W.Fast.tw6550952088874832966 : Unit := ()
def PySem.W.Fast.tw13395592157862606548 : Unit := ()
def PySem.W.Fast.tw11792342906117095308 : Unit := ()
def PySem.W.Fast.tw12663106095303331999 : Unit := ()
def PySem.W.Fast.tw17493805950990143113 : Unit := ()
def PySem.W.Fast.tw6052377230474444252 : Unit := ()
def PySem.W.Fast.tw4914110746459404654 : Unit := ()
def PySem.W.Fast.tw10860552223256760813 : Unit := ()
def PySem.W.Fast.tw7784272283172286413 : Unit := ()
def PySem.W.Fast.tw14147245753349778168 : Unit := ()
def PySem.W.Fast.tw3378068102285342001 : Unit := ()
def PySem.W.Fast.tw941572555840238346 : Unit := ()
def PySem.W.Fast.tw13452864893549805724 : Unit := ()
def PySem.W.Fast.tw11498270248658572448 : Unit := ()
def PySem.W.Fast.tw8858842535402787728 : Unit := ()
def PySem.W.Fast.tw16558441488173669231 : Unit := ()
def PySem.W.Fast.tw3151226423517210475 : Unit := ()
def PySem.W.Fast.tw9605700146253711827 : Unit := ()
def PySem.W.Fast.tw1731111897752463404 : Unit := ()
def PySem.W.Fast.tw8384717392907652581 : Unit := ()
def PySem.W.Fast.tw2910552291674167764 : Unit := ()
def PySem.W.Fast.tw3865909279520733960 : Unit := ()
def PySem.W.Fast.tw9428161640176539566 : Unit := ()
def PySem.W.Fast.tw11438136193530988048 : Unit := ()
def PySem.W.Fast.tw15636644530513873292 : Unit := ()
def PySem.W.Fast.tw10512753521619204944 : Unit := ()
def PySem.W.Fast.tw4784927630083177762 : Unit := ()
def PySem.W.Fast.tw4615836245741710867 : Unit := ()
def PySem.W.Fast.tw331165999261056579 : Unit := ()
def PySem.W.Fast.tw3637726285671676767 : Unit := ()
def PySem.W.Fast.tw7480148974765060790 : Unit := ()
def PySem.W.Fast.tw12725298029696610326 : Unit := ()
def PySem.W.Fast.tw15800594313009823552 : Unit := ()
def PySem.W.Fast.tw17261257045663201157 : Unit := ()
def PySem.W.Fast.tw10980667681951627419 : Unit := ()
def PySem.W.Fast.tw2572714070027043645 : Unit := ()
def PySem.W.Fast.tw13938196903813980740 : Unit := ()
def PySem.W.Fast.tw2371391969513515129 : Unit := ()
def PySem.W.Fast.tw1650014786794740504 : Unit := ()
def PySem.W.Fast.tw4275761373665591292 : Unit := ()
def PySem.W.Fast.tw5514624098490014320 : Unit := ()
def PySem.W.Fast.tw4916637177436172464 : Unit := ()
def PySem.W.Fast.tw719110888315374618 : Unit := ()
def PySem.W.Fast.tw15917806790165712625 : Unit := ()
def PySem.W.Fast.tw17956123879356785487 : Unit := ()
def PySem.W.Fast.tw13232407264689784718 : Unit := ()
def PySem.W.Fast.tw6911203022187084394 : Unit := ()
def PySem.W.Fast.tw8910597808523742834 : Unit := ()
def PySem.W.Fast.tw3320277396522502798 : Unit := ()
def PySem.W.Fast.tw3094624774028631783 : Unit := ()
def PySem.W.Fast.tw16863804822441632941 : Unit := ()
def PySem.W.Fast.tw15759717193032590154 : Unit := ()
def PySem.W.Fast.tw17122486043342115271 : Unit := ()
def PySem.W.Fast.tw7736245625352644517 : Unit := ()
def PySem.W.Fast.tw9453467495224330315 : Unit := ()
def PySem.W.Fast.tw12712383968107976142 : Unit := ()
def PySem.W.Fast.tw7378178280840221529 : Unit := ()
def PySem.W.Fast.tw14455546945169664389 : Unit := ()
def PySem.W.Fast.tw18290334650123078477 : Unit := ()
def PySem.W.Fast.tw7963196028030138372 : Unit := ()
def PySem.W.Fast.tw15931274694675702528 : Unit := ()
def PySem.W.Fast.tw13368995983539014326 : Unit := ()
def PySem.W.Fast.tw10748623890826947950 : Unit := ()
def PySem.W.Fast.tw7145289120169213198 : Unit := ()
def PySem.W.Fast.tw12740689578702973812 : Unit := ()
def PySem.W.Fast.tw11556315730857004926 : Unit := ()
def PySem.W.Fast.tw15414663128956233973 : Unit := ()
def PySem.W.Fast.tw1760871737270038466 : Unit := ()
def PySem.W.Fast.tw12290306353944483414 : Unit := ()
def PySem.W.Fast.tw15682514918563814603 : Unit := ()
def PySem.W.Fast.tw15135688692419447550 : Unit := ()
def PySem.W.Fast.tw4653662881372058690 : Unit := ()
def PySem.W.Fast.tw17357093155983314122 : Unit := ()
def PySem.W.Fast.tw6824099492090255695 : Unit := ()
def PySem.W.Fast.tw1677722630754350560 : Unit := ()
def PySem.W.Fast.tw13413081944154890118 : Unit := ()
def PySem.W.Fast.tw1163655205889053143 : Unit := ()
def PySem.W.Fast.tw231937484905695498 : Unit := ()
def PySem.W.Fast.tw10344861577818325811 : Unit := ()
def PySem.W.Fast.tw6463778920778471077 : Unit := ()
def PySem.W.Fast.tw7855221134331021182 : Unit := ()
def PySem.W.Fast.tw5940339584924315283 : Unit := ()
def PySem.W.Fast.tw10610995278086158518 : Unit := ()
def PySem.W.Fast.tw8113222625401558179 : Unit := ()
def PySem.W.Fast.tw6538756045627650098 : Unit := ()
def PySem.W.Fast.tw8954438164949715019 : Unit := ()
def PySem.W.Fast.tw10239838700815790465 : Unit := ()
def PySem.W.Fast.tw13843411630287269115 : Unit := ()
def PySem.W.Fast.tw11447691337416033110 : Unit := ()
def PySem.W.Fast.tw5162887433424282907 : Unit := ()
def PySem.W.Fast.tw13698809927819930581 : Unit := ()
def PySem.W.Fast.tw1099029396188928992 : Unit := ()
def PySem.W.Fast.tw5478694609452024605 : Unit := ()
def PySem.W.Fast.tw4902707413756555287 : Unit := ()
def PySem.W.Fast.tw9917469805237350809 : Unit := ()
def PySem.W.Fast.tw2989414414268853534 : Unit := ()
def PySem.W.Fast.tw12556363680009579209 : Unit := ()
def PySem.W.Fast.tw13910177672207414285 : Unit := ()
def PySem.W.Fast.tw11213781153439191786 : Unit := ()
def PySem.W.Fast.tw18321960633306992590 : Unit := ()
def PySem.W.Fast.tw13034639784023843150 : Unit := ()
def PySem.W.Fast.tw14579615088526706423 : Unit := ()
def PySem.W.Fast.tw3067272061527983734 : Unit := ()
def PySem.W.Fast.tw17054283522875310498 : Unit := ()
def PySem.W.Fast.tw17648447790887508724 : Unit := ()
def PySem.W.Fast.tw17052221911776883257 : Unit := ()
def PySem.W.Fast.tw14164773659582274631 : Unit := ()
def PySem.W.Fast.tw2463954320612827733 : Unit := ()
def PySem.W.Fast.tw13967300659727650880 : Unit := ()
def PySem.W.Fast.tw12886838069306513205 : Unit := ()
def PySem.W.Fast.tw13417858493265219714 : Unit := ()
def PySem.W.Fast.tw399348721287682758 : Unit := ()
def PySem.W.Fast.tw11024661073350163295 : Unit := ()
def PySem.W.Fast.tw18128661953062412748 : Unit := ()
def PySem.W.Fast.tw9735499237188021721 : Unit := ()
def PySem.W.Fast.tw8446889168722077390 : Unit := ()
def PySem.W.Fast.tw154768970106401539 : Unit := ()
def PySem.W.Fast.tw17760474019542089853 : Unit := ()
def PySem.W.Fast.tw9422651633395153321 : Unit := ()
def PySem.W.Fast.tw10560492512473893633 : Unit := ()
def PySem.W.Fast.tw2322956663127846675 : Unit := ()
def PySem.W.Fast.tw14680846238009010400 : Unit := ()
def PySem.W.Fast.tw17099181495794709882 : Unit := ()
def PySem.W.Fast.tw6940852587439598187 : Unit := ()
def PySem.W.Fast.tw1026733190176888808 : Unit := ()
def PySem.W.Fast.tw3341062924434437270 : Unit := ()
def PySem.W.Fast.tw2670633719994648447 : Unit := ()
def PySem.W.Fast.tw13339404771865138337 : Unit := ()
def PySem.W.Fast.tw7400091459256675746 : Unit := ()
def PySem.W.Fast.tw6693048053220626185 : Unit := ()
def PySem.W.Fast.tw14959649340696481421 : Unit := ()
def PySem.W.Fast.tw13563162444275323042 : Unit := ()
def PySem.W.Fast.tw2087252877476371170 : Unit := ()
def PySem.W.Fast.tw4759429450534338551 : Unit := ()
def PySem.W.Fast.tw10487254104845561521 : Unit := ()
def PySem.W.Fast.tw16468327994859385047 : Unit := ()
def PySem.W.Fast.tw4644734988935394281 : Unit := ()
def PySem.W.Fast.tw9429031090381951385 : Unit := ()
def PySem.W.Fast.tw2073660377902942469 : Unit := ()
def PySem.W.Fast.tw404113527607024134 : Unit := ()
def PySem.W.Fast.tw16040047689872258413 : Unit := ()
def PySem.W.Fast.tw9880187242103049423 : Unit := ()
def PySem.W.Fast.tw6621311468802768553 : Unit := ()
def PySem.W.Fast.tw13462822757437330412 : Unit := ()
def PySem.W.Fast.tw11493028106974809698 : Unit := ()
def PySem.W.Fast.tw6579072912030773778 : Unit := ()
def PySem.W.Fast.tw7363654789769883691 : Unit := ()
def PySem.W.Fast.tw599289330334890327 : Unit := ()
def PySem.W.Fast.tw15129603416969476590 : Unit := ()
def PySem.W.Fast.tw5442060459227101810 : Unit := ()
def PySem.W.Fast.tw8050536621346277815 : Unit := ()
def PySem.W.Fast.tw11397941222411529127 : Unit := ()
def PySem.W.Fast.tw4360960980656063292 : Unit := ()
def PySem.W.Fast.tw11937518174411942239 : Unit := ()
def PySem.W.Fast.tw12387877832975827286 : Unit := ()
def PySem.W.Fast.tw4712540658588344996 : Unit := ()
def PySem.W.Fast.tw9659212264289442722 : Unit := ()
def PySem.W.Fast.tw15402529944711092922 : Unit := ()
def PySem.W.Fast.tw10766665219974267992 : Unit := ()
def PySem.W.Fast.tw18068471668355050357 : Unit := ()
def PySem.W.Fast.tw11999097715849868402 : Unit := ()
def PySem.W.Fast.tw11170684800976568914 : Unit := ()
def PySem.W.Fast.tw4107716815390432114 : Unit := ()
def PySem.W.Fast.tw11335259263421190663 : Unit := ()
def PySem.W.Fast.tw4915085817307988194 : Unit := ()
def PySem.W.Fast.tw12885334879967812142 : Unit := ()
def PySem.W.Fast.tw10534728722797696025 : Unit := ()
def PySem.W.Fast.tw17880747696848922169 : Unit := ()
def PySem.W.Fast.tw780581654164368505 : Unit := ()
def PySem.W.Fast.tw17301446632328540983 : Unit := ()
def PySem.W.Fast.tw11470860715804368003 : Unit := ()
def PySem.W.Fast.tw6022937027131623104 : Unit := ()
def PySem.W.Fast.tw5747470193048542390 : Unit := ()
def PySem.W.Fast.tw13618447398271909772 : Unit := ()
def PySem.W.Fast.tw7202304140032385302 : Unit := ()
def PySem.W.Fast.tw8610608974266252848 : Unit := ()
def PySem.W.Fast.tw16516259151981644740 : Unit := ()
def PySem.W.Fast.tw3338483193945928889 : Unit := ()
def PySem.W.Fast.tw7394769903456718889 : Unit := ()
def PySem.W.Fast.tw7773563621829874546 : Unit := ()
def PySem.W.Fast.tw4662727944338176194 : Unit := ()
def PySem.W.Fast.tw15435394274339712290 : Unit := ()
def PySem.W.Fast.tw11342856824569403817 : Unit := ()
def PySem.W.Fast.tw10910039008825820245 : Unit := ()
def PySem.W.Fast.tw16322085048603574624 : Unit := ()
def PySem.W.Fast.tw2353556232178212930 : Unit := ()
def PySem.W.Fast.tw1997000089452711022 : Unit := ()
def PySem.W.Fast.tw17155383215507617389 : Unit := ()
def PySem.W.Fast.tw8835892311733181553 : Unit := ()
def PySem.W.Fast.tw9406271052342422538 : Unit := ()
def PySem.W.Fast.tw13905647554911865006 : Unit := ()
def PySem.W.Fast.tw15590440115340520706 : Unit := ()
def PySem.W.Fast.tw10266848563802589144 : Unit := ()
def PySem.W.Fast.tw7895773593532278487 : Unit := ()
def PySem.W.Fast.tw2865887829133167998 : Unit := ()
def PySem.W.Fast.tw17587954153815867251 : Unit := ()
def PySem.W.Fast.tw3055335711758838266 : Unit := ()
def PySem.W.Fast.tw3113683565599975928 : Unit := ()
def PySem.W.Fast.tw3884292978161103903 : Unit := ()
def PySem.W.Fast.tw14240315631924652148 : Unit := ()
def PySem.W.Fast.tw5397627642332522595 : Unit := ()
def PySem.W.Fast.tw11131995076649496445 : Unit := ()
def PySem.W.Fast.tw11454562564538166450 : Unit := ()
def PySem.W.Fast.tw6143774398965167632 : Unit := ()
def PySem.W.Fast.tw15811314843530782654 : Unit := ()
def PySem.W.Fast.tw6881425034427803824 : Unit := ()
def PySem.W.Fast.tw10310829026455606708 : Unit := ()
def PySem.W.Fast.tw4280108559357197101 : Unit := ()
def PySem.W.Fast.tw12579358771463851941 : Unit := ()
def PySem.W.Fast.tw9997259543406210735 : Unit := ()
def PySem.W.Fast.tw2323503325228961499 : Unit := ()
def PySem.W.Fast.tw7210660270437126804 : Unit := ()
def PySem.W.Fast.tw4433726212144234568 : Unit := ()
def PySem.W.Fast.tw155271701847075399 : Unit := ()
def PySem.W.Fast.tw18018166967742554088 : Unit := ()
def PySem.W.Fast.tw7185895941860716930 : Unit := ()
def PySem.W.Fast.tw15153741955237899721 : Unit := ()
def PySem.W.Fast.tw14906748817609416905 : Unit := ()
def PySem.W.Fast.tw1875015230590141635 : Unit := ()
def PySem.W.Fast.tw2042075781980862932 : Unit := ()
def PySem.W.Fast.tw5983752423160170997 : Unit := ()
def PySem.W.Fast.tw6273136181601242370 : Unit := ()
def PySem.W.Fast.tw15263695461104081553 : Unit := ()
def PySem.W.Fast.tw18122869718731927388 : Unit := ()
def PySem.W.Fast.tw10055567159832438762 : Unit := ()
def PySem.W.Fast.tw5899849094362532790 : Unit := ()
def PySem.W.Fast.tw7235892027256025972 : Unit := ()
def PySem.W.Fast.tw7703023133937286191 : Unit := ()
def PySem.W.Fast.tw2649225509275901191 : Unit := ()
def PySem.W.Fast.tw8450000733372620229 : Unit := ()
def PySem.W.Fast.tw5028485962924042304 : Unit := ()
def PySem.W.Fast.tw7546866055821344015 : Unit := ()
def PySem.W.Fast.tw13542929698874266535 : Unit := ()
def PySem.W.Fast.tw18222618922030732575 : Unit := ()
def PySem.W.Fast.tw9561985284102926102 : Unit := ()
def PySem.W.Fast.tw11665496738916696670 : Unit := ()
def PySem.W.Fast.tw15213180146939415793 : Unit := ()
def PySem.W.Fast.tw13936925655424461120 : Unit := ()
def PySem.W.Fast.tw6322703679172058181 : Unit := ()
def PySem.W.Fast.tw13010636289937650206 : Unit := ()
def PySem.W.Fast.tw2025155373714946803 : Unit := ()
def PySem.W.Fast.tw14280057619979873330 : Unit := ()
def PySem.W.Fast.tw602775075337949554 : Unit := ()
def PySem.W.Fast.tw18086018203333918395 : Unit := ()
def PySem.W.Fast.tw15642237259907655165 : Unit := ()
def PySem.W.Fast.tw18186011897068968434 : Unit := ()
def PySem.W.Fast.tw9753824525155414239 : Unit := ()
def PySem.W.Fast.tw2293844847904210792 : Unit := ()
def PySem.W.Fast.tw7384865985032781314 : Unit := ()
def PySem.W.Fast.tw15205687228994750895 : Unit := ()
def PySem.W.Fast.tw15566179378582540365 : Unit := ()
def PySem.W.Fast.tw17854163574317140030 : Unit := ()
def PySem.W.Fast.tw4236384271339496023 : Unit := ()
def PySem.W.Fast.tw17040285015178350128 : Unit := ()
def PySem.W.Fast.tw11937004585603072415 : Unit := ()
def PySem.W.Fast.tw5740340896006130398 : Unit := ()
def PySem.W.Fast.tw17020207554530599744 : Unit := ()
def PySem.W.Fast.tw15186777370142915415 : Unit := ()
def PySem.W.Fast.tw18423793587974892831 : Unit := ()
def PySem.W.Fast.tw7125130499406187613 : Unit := ()
def PySem.W.Fast.tw3861627400521643022 : Unit := ()
def PySem.W.Fast.tw1249133728122756103 : Unit := ()
def PySem.W.Fast.tw3775665321640527602 : Unit := ()
def PySem.W.Fast.tw6129631721757214669 : Unit := ()
def PySem.W.Fast.tw12982846971440665311 : Unit := ()
def PySem.W.Fast.tw17525994624580322709 : Unit := ()
def PySem.W.Fast.tw5974391722277156323 : Unit := ()
def PySem.W.Fast.tw17685837248386135302 : Unit := ()
def PySem.W.Fast.tw3694846006122153921 : Unit := ()
def PySem.W.Fast.tw18182949742978840430 : Unit := ()
def PySem.W.Fast.tw3401419256660130999 : Unit := ()
def PySem.W.Fast.tw15558816705040753780 : Unit := ()
def PySem.W.Fast.tw15303493625097844796 : Unit := ()
def PySem.W.Fast.tw6427932216358490878 : Unit := ()
def PySem.W.Fast.tw3995195938819932992 : Unit := ()
def PySem.W.Fast.tw5713304799969432010 : Unit := ()
def PySem.W.Fast.tw11473381804723523727 : Unit := ()
def PySem.W.Fast.tw1620164337464728276 : Unit := ()
def PySem.W.Fast.tw11493520465811275636 : Unit := ()
def PySem.W.Fast.tw13645733310573590235 : Unit := ()
def PySem.W.Fast.tw10635364090511826458 : Unit := ()
def PySem.W.Fast.tw4542324009236637986 : Unit := ()
def PySem.W.Fast.tw16800814091790483 : Unit := ()
def PySem.W.Fast.tw8376789391998674377 : Unit := ()
def PySem.W.Fast.tw14857639587515870193 : Unit := ()
def PySem.W.Fast.tw7472133154013178083 : Unit := ()
def PySem.W.Fast.tw1425091324537039175 : Unit := ()
def PySem.W.Fast.tw16412429567575357441 : Unit := ()
def PySem.W.Fast.tw12512955878998188148 : Unit := ()
def PySem.W.Fast.tw16741780370238819270 : Unit := ()
def PySem.W.Fast.tw17126221855381477595 : Unit := ()
def PySem.W.Fast.tw14807090818062935407 : Unit := ()
def PySem.W.Fast.tw16577042789495983016 : Unit := ()
def PySem.W.Fast.tw369030000026174569 : Unit := ()
def PySem.W.Fast.tw904570791182422684 : Unit := ()
def PySem.W.Fast.tw12105540478134044926 : Unit := ()
def PySem.W.Fast.tw7969992636416417419 : Unit := ()
def PySem.W.Fast.tw3024568247882052942 : Unit := ()
def PySem.W.Fast.tw16978211553631450036 : Unit := ()
def PySem.W.Fast.tw5797943067123682292 : Unit := ()
def PySem.W.Fast.tw15364681562697179425 : Unit := ()
def PySem.W.Fast.tw2167621043738582566 : Unit := ()
def PySem.W.Fast.tw328165482274036848 : Unit := ()
def PySem.W.Fast.tw1433068336937710720 : Unit := ()
def PySem.W.Fast.tw18301989727482877311 : Unit := ()
def PySem.W.Fast.tw14066112041515182699 : Unit := ()
def PySem.W.Fast.tw11902592577878495170 : Unit := ()
def PySem.W.Fast.tw18212193906543037419 : Unit := ()
def PySem.W.Fast.tw3438851334560861344 : Unit := ()
def PySem.W.Fast.tw9824277947172456300 : Unit := ()
def PySem.W.Fast.tw1256447938666787666 : Unit := ()
def PySem.W.Fast.tw5125226153690142216 : Unit := ()
def PySem.W.Fast.tw6150794454589669075 : Unit := ()
def PySem.W.Fast.tw392465554330959404 : Unit := ()
def PySem.W.Fast.tw2096902183955063216 : Unit := ()
def PySem.W.Fast.tw16479088373738668532 : Unit := ()
def PySem.W.Fast.tw7080217160110152445 : Unit := ()
def PySem.W.Fast.tw10901670762245016425 : Unit := ()
def PySem.W.Fast.tw17084835757438841414 : Unit := ()
def PySem.W.Fast.tw2798212689984044468 : Unit := ()
def PySem.W.Fast.tw6817201765298542003 : Unit := ()
def PySem.W.Fast.tw5678450143102438996 : Unit := ()
def PySem.W.Fast.tw10949558276412065943 : Unit := ()
def PySem.W.Fast.tw13078147253769017120 : Unit := ()
def PySem.W.Fast.tw2479645728409274263 : Unit := ()
def PySem.W.Fast.tw4001616542366397172 : Unit := ()
def PySem.W.Fast.tw9920321722479005905 : Unit := ()
def PySem.W.Fast.tw7154814455128356845 : Unit := ()
def PySem.W.Fast.tw7786752372755171664 : Unit := ()
def PySem.W.Fast.tw14590039882216491734 : Unit := ()
def PySem.W.Fast.tw12691519508149870992 : Unit := ()
def PySem.W.Fast.tw4314293898125017770 : Unit := ()
def PySem.W.Fast.tw1552313556329497136 : Unit := ()
def PySem.W.Fast.tw9536956816174384205 : Unit := ()
def PySem.W.Fast.tw5250423242220515613 : Unit := ()
def PySem.W.Fast.tw16072420168658074476 : Unit := ()
def PySem.W.Fast.tw15468483580102938106 : Unit := ()
def PySem.W.Fast.tw16308995574883415589 : Unit := ()
def PySem.W.Fast.tw17728615198861844531 : Unit := ()
def PySem.W.Fast.tw9069302430406628966 : Unit := ()
def PySem.W.Fast.tw3114966044488761505 : Unit := ()
def PySem.W.Fast.tw1934890182777748951 : Unit := ()
def PySem.W.Fast.tw10027067209938463684 : Unit := ()
def PySem.W.Fast.tw10028029321673199009 : Unit := ()
def PySem.W.Fast.tw8667928808580927328 : Unit := ()
def PySem.W.Fast.tw806862918102937912 : Unit := ()
def PySem.W.Fast.tw16417976009111021263 : Unit := ()
def PySem.W.Fast.tw11008732696947235918 : Unit := ()
def PySem.W.Fast.tw10837553017790574643 : Unit := ()
def PySem.W.Fast.tw3081024658882492730 : Unit := ()
def PySem.W.Fast.tw10744177851322489698 : Unit := ()
def PySem.W.Fast.tw3035590261515022079 : Unit := ()
def PySem.W.Fast.tw7576482694595911255 : Unit := ()
def PySem.W.Fast.tw13627449945447715336 : Unit := ()
def PySem.W.Fast.tw13780483313441936725 : Unit := ()
def PySem.W.Fast.tw371046416912930988 : Unit := ()
def PySem.W.Fast.tw18248114998390772792 : Unit := ()
def PySem.W.Fast.tw10612443519859643970 : Unit := ()
def PySem.W.Fast.tw14746784455577001922 : Unit := ()
def PySem.W.Fast.tw11969957627094456412 : Unit := ()
def PySem.W.Fast.tw12334993680908803772 : Unit := ()
def PySem.W.Fast.tw2161359507842846368 : Unit := ()
def PySem.W.Fast.tw10664241736367203400 : Unit := ()
def PySem.W.Fast.tw17883827472479475924 : Unit := ()
def PySem.W.Fast.tw3423860653710132849 : Unit := ()
def PySem.W.Fast.tw2237943334151446761 : Unit := ()
def PySem.W.Fast.tw5556728545179362213 : Unit := ()
def PySem.W.Fast.tw490781859781510410 : Unit := ()
def PySem.W.Fast.tw6696883403798695381 : Unit := ()
def PySem.W.Fast.tw4826993646586492535 : Unit := ()
def PySem.W.Fast.tw1363555420368806266 : Unit := ()
def PySem.W.Fast.tw9315006723973088800 : Unit := ()
def PySem.W.Fast.tw6498094439363249480 : Unit := ()
def PySem.W.Fast.tw5874180022041088824 : Unit := ()
def PySem.W.Fast.tw3539186505075602587 : Unit := ()
def PySem.W.Fast.tw1603322987701180661 : Unit := ()
def PySem.W.Fast.tw13330390216125424419 : Unit := ()
def PySem.W.Fast.tw2175618995403885787 : Unit := ()
def PySem.W.Fast.tw6018874243268607409 : Unit := ()
def PySem.W.Fast.tw10923406921845320865 : Unit := ()
def PySem.W.Fast.tw6730862735514110614 : Unit := ()
def PySem.W.Fast.tw9308182028996546189 : Unit := ()
def PySem.W.Fast.tw7061404904848659772 : Unit := ()
def PySem.W.Fast.tw10678944496784376619 : Unit := ()
def PySem.W.Fast.tw1135335853097598884 : Unit := ()
def PySem.W.Fast.tw4748532807863874998 : Unit := ()
def PySem.W.Fast.tw9470709549934573465 : Unit := ()
def PySem.W.Fast.tw15646734447472533254 : Unit := ()
def PySem.W.Fast.tw18091638328681633468 : Unit := ()
def PySem.W.Fast.tw10257220005720307004 : Unit := ()
def PySem.W.Fast.tw7249059338614104176 : Unit := ()
def PySem.W.Fast.tw7621662084926338010 : Unit := ()
def PySem.W.Fast.tw14185794156213209577 : Unit := ()
def PySem.W.Fast.tw7804566800798934957 : Unit := ()
def PySem.W.Fast.tw8003139160078245095 : Unit := ()
def PySem.W.Fast.tw12726400337167974124 : Unit := ()
def PySem.W.Fast.tw12919398652760235924 : Unit := ()
def PySem.W.Fast.tw14320569065277360843 : Unit := ()
def PySem.W.Fast.tw12053527221988073464 : Unit := ()
def PySem.W.Fast.tw12192998830563589891 : Unit := ()
def PySem.W.Fast.tw5689029187145195320 : Unit := ()
def PySem.W.Fast.tw13848707087233467469 : Unit := ()
def PySem.W.Fast.tw916671192956324188 : Unit := ()
def PySem.W.Fast.tw11917362561361427435 : Unit := ()
def PySem.W.Fast.tw12446956563076447881 : Unit := ()
def PySem.W.Fast.tw12049159649574552637 : Unit := ()
def PySem.W.Fast.tw3102891565483603063 : Unit := ()
def PySem.W.Fast.tw14950280648657948290 : Unit := ()
def PySem.W.Fast.tw5066201387336742594 : Unit := ()
def PySem.W.Fast.tw4490583842398870092 : Unit := ()
def PySem.W.Fast.tw2219949886086720002 : Unit := ()
def PySem.W.Fast.tw6644101851132069090 : Unit := ()
def PySem.W.Fast.tw14702190830731911461 : Unit := ()
def PySem.W.Fast.tw3282745648996325850 : Unit := ()
def PySem.W.Fast.tw17582745925031667196 : Unit := ()
def PySem.W.Fast.tw8101368124707874421 : Unit := ()
def PySem.W.Fast.tw11254628923097431236 : Unit := ()
def PySem.W.Fast.tw6183460012490114090 : Unit := ()
def PySem.W.Fast.tw1874260936079214997 : Unit := ()
def PySem.W.Fast.tw1431393127385750864 : Unit := ()
def PySem.W.Fast.tw2004905133609012112 : Unit := ()
def PySem.W.Fast.tw10343998529304004047 : Unit := ()
def PySem.W.Fast.tw15184760891481492247 : Unit := ()
def PySem.W.Fast.tw17751209206855298394 : Unit := ()
def PySem.W.Fast.tw1073898677041430740 : Unit := ()
def PySem.W.Fast.tw9814879863144003730 : Unit := ()
def PySem.W.Fast.tw7511917402960362081 : Unit := ()
def PySem.W.Fast.tw7107272120006012168 : Unit := ()
def PySem.W.Fast.tw16987447557818019429 : Unit := ()
def PySem.W.Fast.tw2112150534217842119 : Unit := ()
def PySem.W.Fast.tw17846717879757448022 : Unit := ()
def PySem.W.Fast.tw7284132205028819290 : Unit := ()
def PySem.W.Fast.tw5405344258550705144 : Unit := ()
def PySem.W.Fast.tw17994048457618797324 : Unit := ()
def PySem.W.Fast.tw4759168008506218655 : Unit := ()
def PySem.W.Fast.tw13503244600021632853 : Unit := ()
def PySem.W.Fast.tw3022947562496762515 : Unit := ()
def PySem.W.Fast.tw10600663641562726189 : Unit := ()
def PySem.W.Fast.tw8846888389226464220 : Unit := ()
def PySem.W.Fast.tw8992261183924936819 : Unit := ()
def PySem.W.Fast.tw11897450730754067859 : Unit := ()
def PySem.W.Fast.tw14418202481272120035 : Unit := ()
def PySem.W.Fast.tw8502218563563157308 : Unit := ()
def PySem.W.Fast.tw10229684209838797973 : Unit := ()
def PySem.W.Fast.tw17033548681522291181 : Unit := ()
def PySem.W.Fast.tw3260844261355791532 : Unit := ()
def PySem.W.Fast.tw13111740722875256360 : Unit := ()
def PySem.W.Fast.tw10278279841825286012 : Unit := ()
def PySem.W.Fast.tw17844418303503534069 : Unit := ()
def PySem.W.Fast.tw14917422270867580002 : Unit := ()
def PySem.W.Fast.tw9165896347367409601 : Unit := ()
def PySem.W.Fast.tw7583136635164296458 : Unit := ()
def PySem.W.Fast.tw9835165145318061367 : Unit := ()
def PySem.W.Fast.tw17858137666347180643 : Unit := ()
def PySem.W.Fast.tw13966913296328175668 : Unit := ()
def PySem.W.Fast.tw18244154908837403053 : Unit := ()
def PySem.W.Fast.tw8303490906446329818 : Unit := ()
def PySem.W.Fast.tw13433332931216813441 : Unit := ()
def PySem.W.Fast.tw3125320451563110910 : Unit := ()
def PySem.W.Fast.tw1851208604635256635 : Unit := ()
def PySem.W.Fast.tw2825554490788949487 : Unit := ()
def PySem.W.Fast.tw16607201889450054311 : Unit := ()
def PySem.W.Fast.tw11097794406655468805 : Unit := ()
set_option maxHeartbeats 0 in
theorem PySem.Challenge.cw_boxwitness_k01_programs_refused_holds : PySem.Challenge.rw_boxwitness_k01_programs_refused.Holds := by
  w_on
  o_law
  k_head
  case hw => w_witness2
  k_fill
  refine Bw.walk_tabs (l := PySem.Challenge.rw_boxwitness_k01_programs_refused) (n := 63) (k := 12) (x := "_law_script") ["law", "_law_doors", "row_can_be", "spaced", "renumbered", "made"] rfl (by decide) rfl ⟨rfl, by decide, by decide⟩ ?recs (fun w h Y => PySem.W.km_in_of Y) ?F
  case recs => decide +kernel
  case F =>
    intro w mg fa h KX G hmg tabs
    refine' Bw.dcl_mk "law" Bw.s_law ["_law_script"] 1002 KX G (tabs "law" (by simp)) Bw.bs_law ?az1 ?lz1 ?cz1 ?kz1 ?qz1 ?ez1 ?dz1 ?zz1 ?tz1 ?nz1
    (case az1 => k_is); (case lz1 => k_is); (case cz1 => k_is); (case kz1 => k_is); (case qz1 => k_is); (case ez1 => rfl); (case dz1 => kernel_rfl); (case zz1 => kernel_rfl); (case tz1 => rfl)
    intro f fd c T DL gDL nDL
    refine' Bw.df_mk "_law_begun" Bw.s_begun ["_law_script"] KX G Bw.bs_begun ?az2 ?lz2 ?cz2 ?kz2 ?nz2
    (case az2 => k_is); (case lz2 => k_is); (case cz2 => k_is); (case kz2 => k_is)
    intro f fd DB
    refine' Bw.df_mk "_law_take" Bw.s_take ["_law_box", "_law_many"] KX G Bw.bs_take ?az3 ?lz3 ?cz3 ?kz3 ?nz3
    (case az3 => k_is); (case lz3 => k_is); (case cz3 => k_is); (case kz3 => k_is)
    intro f fd DT
    refine' Bw.df_mk "_law_alike" Bw.s_alike ["_law_found", "_law_due"] KX G Bw.bs_alike ?az4 ?lz4 ?cz4 ?kz4 ?nz4
    (case az4 => k_is); (case lz4 => k_is); (case cz4 => k_is); (case kz4 => k_is)
    intro f fd DA
    refine' Bw.df_mk "_law_row" Bw.s_row ["_law_box", "_law_names", "_law_many", "_law_at"] KX G Bw.bs_row ?az5 ?lz5 ?cz5 ?kz5 ?nz5
    (case az5 => k_is); (case lz5 => k_is); (case cz5 => k_is); (case kz5 => k_is)
    intro f fd DR
    refine' Bw.df_mk "_law_program" Bw.s_program ["_law_box", "_law_most"] KX G Bw.bs_program ?az6 ?lz6 ?cz6 ?kz6 ?nz6
    (case az6 => k_is); (case lz6 => k_is); (case cz6 => k_is); (case kz6 => k_is)
    intro f fd DP
    refine' Bw.df_mk "_law_bent" Bw.s_law_bent ["_law_box", "_law_program_here"] KX G Bw.bs_law_bent ?az7 ?lz7 ?cz7 ?kz7 ?nz7
    (case az7 => k_is); (case lz7 => k_is); (case cz7 => k_is); (case kz7 => k_is)
    intro f fd DBe
    refine' Bw.df_mk "_law_odd" Bw.s_law_odd ["_law_box", "_law_row_here"] KX G Bw.bs_law_odd ?az8 ?lz8 ?cz8 ?kz8 ?nz8
    (case az8 => k_is); (case lz8 => k_is); (case cz8 => k_is); (case kz8 => k_is)
    intro f fd DLod
    refine' Bw.df_mk "_law_is" Bw.s_law_is ["_law_part", "_law_low", "_law_high"] KX G Bw.bs_law_is ?az9 ?lz9 ?cz9 ?kz9 ?nz9
    (case az9 => k_is); (case lz9 => k_is); (case cz9 => k_is); (case kz9 => k_is)
    intro f fd DLis
    refine' Bw.df_mk "_law_first" Bw.s_law_first ["_law_program_here"] KX G Bw.bs_law_first ?az10 ?lz10 ?cz10 ?kz10 ?nz10
    (case az10 => k_is); (case lz10 => k_is); (case cz10 => k_is); (case kz10 => k_is)
    intro f fd DLfs
    refine' Bw.dcl_mk "_law_doors" Bw.s_law_doors ["_law_program_here", "_law_frame_here", "_law_choice_here"] 969 KX G (tabs "_law_doors" (by simp)) Bw.bs_law_doors ?az11 ?lz11 ?cz11 ?kz11 ?qz11 ?ez11 ?dz11 ?zz11 ?tz11 ?nz11
    (case az11 => k_is); (case lz11 => k_is); (case cz11 => k_is); (case kz11 => k_is); (case qz11 => k_is); (case ez11 => rfl); (case dz11 => kernel_rfl); (case zz11 => kernel_rfl); (case tz11 => rfl)
    intro f fd c T DLdo gDLdo nDLdo
    refine' Bw.df_mk "_law_told" Bw.s_law_told ["_law_work"] KX G Bw.bs_law_told ?az12 ?lz12 ?cz12 ?kz12 ?nz12
    (case az12 => k_is); (case lz12 => k_is); (case cz12 => k_is); (case kz12 => k_is)
    intro f fd DLto
    refine' Bw.df_mk "_law_all" Bw.s_law_all ["_law_works", "_law_due"] KX G Bw.bs_law_all ?az13 ?lz13 ?cz13 ?kz13 ?nz13
    (case az13 => k_is); (case lz13 => k_is); (case cz13 => k_is); (case kz13 => k_is)
    intro f fd DLal
    refine' Bw.df_mk "check_program" Bw.s_check_program ["program"] KX G Bw.bs_check_program ?az14 ?lz14 ?cz14 ?kz14 ?nz14
    (case az14 => k_is); (case lz14 => k_is); (case cz14 => k_is); (case kz14 => k_is)
    intro f fd DC
    refine' Bw.df_mk "head_can_be" Bw.s_head_can_be ["program"] KX G Bw.bs_head_can_be ?az15 ?lz15 ?cz15 ?kz15 ?nz15
    (case az15 => k_is); (case lz15 => k_is); (case cz15 => k_is); (case kz15 => k_is)
    intro f fd DH0
    refine' Bw.dcn_mk "row_can_be" Bw.s_row_can_be ["row", "names", "many"] KX G (tabs "row_can_be" (by simp)) Bw.bs_row_can_be ?az16 ?lz16 ?cz16 ?kz16 ?qz16 ?ez16 ?dz16 ?zz16 ?tz16 ?nz16
    (case az16 => k_is); (case lz16 => k_is); (case cz16 => k_is); (case kz16 => k_is); (case qz16 => k_is); (case ez16 => rfl); (case dz16 => kernel_rfl); (case zz16 => kernel_rfl); (case tz16 => decide)
    intro f fd c T DRC gDRC nDRC
    refine' Bw.df_mk "is_number" Bw.s_is_number ["value", "low", "high"] KX G Bw.bs_is_number ?az17 ?lz17 ?cz17 ?kz17 ?nz17
    (case az17 => k_is); (case lz17 => k_is); (case cz17 => k_is); (case kz17 => k_is)
    intro f fd DN
    refine' Bw.df_mk "is_tuple_of" Bw.s_is_tuple_of ["value", "many"] KX G Bw.bs_is_tuple_of ?az18 ?lz18 ?cz18 ?kz18 ?nz18
    (case az18 => k_is); (case lz18 => k_is); (case cz18 => k_is); (case kz18 => k_is)
    intro f fd DTu
    refine' Bw.df_mk "check_all" Bw.s_check_all ["program", "frame", "choice"] KX G Bw.bs_check_all ?az19 ?lz19 ?cz19 ?kz19 ?nz19
    (case az19 => k_is); (case lz19 => k_is); (case cz19 => k_is); (case kz19 => k_is)
    intro f fd DAl
    refine' Bw.dcn_mk "spaced" Bw.s_spaced ["words"] KX G (tabs "spaced" (by simp)) Bw.bs_spaced ?az20 ?lz20 ?cz20 ?kz20 ?qz20 ?ez20 ?dz20 ?zz20 ?tz20 ?nz20
    (case az20 => k_is); (case lz20 => k_is); (case cz20 => k_is); (case kz20 => k_is); (case qz20 => k_is); (case ez20 => rfl); (case dz20 => kernel_rfl); (case zz20 => kernel_rfl); (case tz20 => decide)
    intro f fd c T DTsp gDTsp nDTsp
    refine' Bw.df_mk "run_boxes" Bw.s_run_boxes ["program", "frame", "choice", "given", "fuel", "junk"] KX G Bw.bs_run_boxes ?az21 ?lz21 ?cz21 ?kz21 ?nz21
    (case az21 => k_is); (case lz21 => k_is); (case cz21 => k_is); (case kz21 => k_is)
    intro f fd DRb
    refine' Bw.df_mk "walk" Bw.s_walk ["program", "frame", "choice", "ways"] KX G Bw.bs_walk ?az22 ?lz22 ?cz22 ?kz22 ?nz22
    (case az22 => k_is); (case lz22 => k_is); (case cz22 => k_is); (case kz22 => k_is)
    intro f fd DWk
    refine' Bw.df_mk "paper" Bw.s_paper ["program", "frame", "choice"] KX G Bw.bs_paper ?az23 ?lz23 ?cz23 ?kz23 ?nz23
    (case az23 => k_is); (case lz23 => k_is); (case cz23 => k_is); (case kz23 => k_is)
    intro f fd DU
    refine' Bw.df_mk "shows" Bw.s_shows ["program", "frame", "choice", "told"] KX G Bw.bs_shows ?az24 ?lz24 ?cz24 ?kz24 ?nz24
    (case az24 => k_is); (case lz24 => k_is); (case cz24 => k_is); (case kz24 => k_is)
    intro f fd DW
    refine' Bw.df_mk "checked" Bw.s_checked ["program", "frame", "choice"] KX G Bw.bs_checked ?az25 ?lz25 ?cz25 ?kz25 ?nz25
    (case az25 => k_is); (case lz25 => k_is); (case cz25 => k_is); (case kz25 => k_is)
    intro f fd DKd
    refine' Bw.df_mk "least" Bw.s_least ["program", "frame", "choice", "most"] KX G Bw.bs_least ?az26 ?lz26 ?cz26 ?kz26 ?nz26
    (case az26 => k_is); (case lz26 => k_is); (case cz26 => k_is); (case kz26 => k_is)
    intro f fd DLt0
    refine' Bw.dcn_mk "renumbered" Bw.s_renumbered ["program", "frame", "choice", "order"] KX G (tabs "renumbered" (by simp)) Bw.bs_renumbered ?az27 ?lz27 ?cz27 ?kz27 ?qz27 ?ez27 ?dz27 ?zz27 ?tz27 ?nz27
    (case az27 => k_is); (case lz27 => k_is); (case cz27 => k_is); (case kz27 => k_is); (case qz27 => k_is); (case ez27 => rfl); (case dz27 => kernel_rfl); (case zz27 => kernel_rfl); (case tz27 => decide)
    intro f fd c T DRn gDRn nDRn
    refine' Bw.df_mk "written_choice" Bw.s_written_choice ["program", "frame", "choice"] KX G Bw.bs_written_choice ?az28 ?lz28 ?cz28 ?kz28 ?nz28
    (case az28 => k_is); (case lz28 => k_is); (case cz28 => k_is); (case kz28 => k_is)
    intro f fd DTwc
    refine' Bw.df_mk "run" Bw.s_run ["program", "given", "fuel"] KX G Bw.bs_run ?az29 ?lz29 ?cz29 ?kz29 ?nz29
    (case az29 => k_is); (case lz29 => k_is); (case cz29 => k_is); (case kz29 => k_is)
    intro f fd DRu
    refine' Bw.dcn_mk "made" Bw.s_made ["program", "frame"] KX G (tabs "made" (by simp)) Bw.bs_made ?az30 ?lz30 ?cz30 ?kz30 ?qz30 ?ez30 ?dz30 ?zz30 ?tz30 ?nz30
    (case az30 => k_is); (case lz30 => k_is); (case cz30 => k_is); (case kz30 => k_is); (case qz30 => k_is); (case ez30 => rfl); (case dz30 => kernel_rfl); (case zz30 => kernel_rfl); (case tz30 => decide)
    intro f fd c T DMd gDMd nDMd
    refine' Bw.df_mk "written" Bw.s_written ["program"] KX G Bw.bs_written ?az31 ?lz31 ?cz31 ?kz31 ?nz31
    (case az31 => k_is); (case lz31 => k_is); (case cz31 => k_is); (case kz31 => k_is)
    intro f fd DTwr
    refine' Bw.df_mk "read_choice" Bw.s_read_choice ["program", "frame", "text"] KX G Bw.bs_read_choice ?az32 ?lz32 ?cz32 ?kz32 ?nz32
    (case az32 => k_is); (case lz32 => k_is); (case cz32 => k_is); (case kz32 => k_is)
    intro f fd DTrc
    refine' Bw.gk_mk KX G ?az33 ?bz33 ?cz33 ?dz33 ?ez33 ?nz33
    (case az33 => k_is); (case bz33 => k_is); (case cz33 => k_is); (case dz33 => k_is); (case ez33 => k_is)
    intro GK
    refine' Bw.no_mk KX G ?az34 ?nz34
    (case az34 => k_is)
    intro nS
    refine' Bw.so_mk KX G ?az35 ?nz35
    (case az35 => k_is)
    intro nO
    refine' Bw.bt_mk KX G ?a1z36 ?a2z36 ?a3z36 ?a4z36 ?a5z36 ?a6z36 ?a7z36 ?a8z36 ?a9z36 ?a10z36 ?a11z36 ?a12z36 ?a13z36 ?nz36
    (case a1z36 => k_is); (case a2z36 => k_is); (case a3z36 => k_is); (case a4z36 => k_is); (case a5z36 => k_is); (case a6z36 => k_is); (case a7z36 => k_is); (case a8z36 => k_is); (case a9z36 => k_is); (case a10z36 => k_is); (case a11z36 => k_is); (case a12z36 => k_is); (case a13z36 => k_is)
    intro BT
    refine' Bw.pt_mkX (w := w) KX G ?az37 ?lz37 ?litz37 ?lowz37 (Bw.part_mk ?a1z37 ?l1z37 ?s1z37 ?v1z37) (Bw.part_mk ?a2z37 ?l2z37 ?s2z37 ?v2z37) (Bw.part_mk ?a3z37 ?l3z37 ?s3z37 ?v3z37) (Bw.part_mk ?a4z37 ?l4z37 ?s4z37 ?v4z37) (Bw.part_mk ?a5z37 ?l5z37 ?s5z37 ?v5z37) (Bw.part_mk ?a6z37 ?l6z37 ?s6z37 ?v6z37) (Bw.part_mk ?a7z37 ?l7z37 ?s7z37 ?v7z37) (Bw.part_mk ?a8z37 ?l8z37 ?s8z37 ?v8z37) (Bw.part_mk ?a9z37 ?l9z37 ?s9z37 ?v9z37) (Bw.part_mk ?a10z37 ?l10z37 ?s10z37 ?v10z37) ?kaz37 ?nz37
    (case az37 => k_is); (case lz37 => k_is); (case lowz37 => decide); (case litz37 => exact ⟨⟨_, _, rfl, rfl⟩, ⟨⟨_, _, rfl, rfl⟩, ⟨⟨_, _, rfl, rfl⟩, ⟨⟨_, _, rfl, rfl⟩, ⟨⟨_, _, rfl, rfl⟩, ⟨⟨_, _, rfl, rfl⟩, ⟨⟨_, _, rfl, rfl⟩, ⟨⟨_, _, rfl, rfl⟩, ⟨⟨_, _, rfl, rfl⟩, ⟨⟨_, _, rfl, rfl⟩, trivial⟩⟩⟩⟩⟩⟩⟩⟩⟩⟩)
    (case a1z37 => k_is); (case l1z37 => k_is); (case s1z37 => decide); (case v1z37 => exact .cons ⟨_, rfl⟩ (.cons ⟨_, rfl⟩ (.nil)))
    (case a2z37 => k_is); (case l2z37 => k_is); (case s2z37 => decide); (case v2z37 => exact .cons ⟨_, rfl⟩ (.cons ⟨_, rfl⟩ (.nil)))
    (case a3z37 => k_is); (case l3z37 => k_is); (case s3z37 => decide); (case v3z37 => exact .cons ⟨_, rfl⟩ (.cons ⟨_, rfl⟩ (.cons ⟨_, rfl⟩ (.nil))))
    (case a4z37 => k_is); (case l4z37 => k_is); (case s4z37 => decide); (case v4z37 => exact .cons ⟨_, rfl⟩ (.cons ⟨_, rfl⟩ (.cons ⟨_, rfl⟩ (.nil))))
    (case a5z37 => k_is); (case l5z37 => k_is); (case s5z37 => decide); (case v5z37 => exact .cons ⟨_, rfl⟩ (.cons ⟨_, rfl⟩ (.cons ⟨_, rfl⟩ (.nil))))
    (case a6z37 => k_is); (case l6z37 => k_is); (case s6z37 => decide); (case v6z37 => exact .cons ⟨_, rfl⟩ (.cons ⟨_, rfl⟩ (.nil)))
    (case a7z37 => k_is); (case l7z37 => k_is); (case s7z37 => decide); (case v7z37 => exact .cons ⟨_, rfl⟩ (.nil))
    (case a8z37 => k_is); (case l8z37 => k_is); (case s8z37 => decide); (case v8z37 => exact .cons ⟨_, rfl⟩ (.cons ⟨_, rfl⟩ (.nil)))
    (case a9z37 => k_is); (case l9z37 => k_is); (case s9z37 => decide); (case v9z37 => exact .cons ⟨_, rfl⟩ (.nil))
    (case a10z37 => k_is); (case l10z37 => k_is); (case s10z37 => decide); (case v10z37 => exact .nil)
    (case kaz37 => exact ⟨⟨_, rfl⟩, ⟨_, rfl⟩, ⟨_, rfl⟩, ⟨_, rfl⟩, ⟨_, rfl⟩, ⟨_, rfl⟩, ⟨_, rfl⟩, ⟨_, rfl⟩, ⟨_, rfl⟩, ⟨_, rfl⟩, trivial⟩)
    intro d es n PT0 KA
    refine' Bw.mc_mk KX G ?az38 ?bz38 ?cz38 ?dz38 ?ez38 ?fz38 ?gz38 ?hz38 ?iz38 ?jz38 ?kz38 ?nz38
    (case az38 => k_is); (case bz38 => k_is); (case cz38 => k_is); (case dz38 => k_is); (case ez38 => k_is); (case fz38 => k_is); (case gz38 => k_is); (case hz38 => k_is); (case iz38 => k_is); (case jz38 => k_is); (case kz38 => k_is)
    intro gM M mkC kpC
    refine' Bw.dm_mk M "__init__" "Witness.__init__" Bw.s_w_init ["self", "program", "frame", "choice"] Bw.bs_w_init ?az39 ?fz39 ?lz39 ?cz39 ?kz39 ?nz39
    (case az39 => k_is); (case fz39 => k_is); (case lz39 => k_is); (case cz39 => k_is); (case kz39 => k_is)
    intro f fd DmI
    refine' Bw.exc_mk KX G ?n0z40 ?n1z40 ?n2z40 ?n3z40 ?n4z40 ?n5z40 ?n6z40 ?n7z40 ?n8z40 ?nbz40 ?bmz40 ?bgz40 ?brz40 ?biz40 ?bez40 ?bdz40 ?ogz40 ?otz40 ?vez40 ?cl5z40 ?rv5z40 ?sa5z40 ?ex5z40 ?ty5z40 ?kp5z40 ?rw5z40 ?in5z40 ?ft5z40 ?lk5z40 ?cd5z40 ?kf5z40 ?ga5z40 ?gg5z40 ?hd5z40 ?hc5z40 ?hm5z40 ?sb5z40 ?kv5z40 ?k5x0z40 ?k5x1z40 ?k5x2z40 ?k5x3z40 ?k5x4z40 ?k5x5z40 ?k5x6z40 ?k5x7z40 ?k5x8z40 ?nz40
    (case n0z40 => k_is); (case n1z40 => k_is); (case n2z40 => k_is); (case n3z40 => k_is); (case n4z40 => k_is); (case n5z40 => k_is); (case n6z40 => k_is); (case n7z40 => k_is); (case n8z40 => k_is); (case nbz40 => k_is); (case bmz40 => k_is); (case bgz40 => k_is); (case brz40 => k_is); (case biz40 => k_is); (case bez40 => k_is); (case bdz40 => k_is); (case ogz40 => k_is); (case otz40 => k_is); (case vez40 => k_is); (case cl5z40 => k_is); (case rv5z40 => rfl); (case sa5z40 => k_is); (case ex5z40 => k_is); (case ty5z40 => k_is); (case kp5z40 => k_is); (case rw5z40 => k_is); (case in5z40 => k_is); (case ft5z40 => k_is); (case lk5z40 => k_is); (case cd5z40 => k_is); (case kf5z40 => k_is); (case ga5z40 => k_is); (case gg5z40 => k_is); (case hd5z40 => k_is); (case hc5z40 => k_is); (case hm5z40 => k_is); (case sb5z40 => k_is); (case kv5z40 => kit_is); (case k5x0z40 => kit_is); (case k5x1z40 => kit_is); (case k5x2z40 => kit_is); (case k5x3z40 => kit_is); (case k5x4z40 => kit_is); (case k5x5z40 => kit_is); (case k5x6z40 => kit_is); (case k5x7z40 => kit_is); (case k5x8z40 => kit_is)
    intro CB cs i5 d5 BB C5b F5 B5 C5 hvE
    exact Bw.law_at DL gDL nDL DB DT DA DR DP DBe DLod DLis DLfs DLdo gDLdo nDLdo DLto DLal DC DH0 DRC gDRC nDRC DN DTu DAl DTsp gDTsp nDTsp DRb DWk DU DW DKd DLt0 DRn gDRn nDRn DTwc DRu DMd gDMd nDMd DTwr DTrc DmI hmg mkC kpC gM M PT0 KA BT nS nO GK BB C5b F5 B5 C5 hvE
