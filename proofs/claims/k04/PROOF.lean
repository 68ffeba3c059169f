import PyProof.Rows.All
import Wide.All
import OpenK.AllK
import Wide.FinOn
import HandS.ForMost
import HandS.GenList
import HandS.AnyAll
import HandS.EndTab
import PyProof.GenCompD
import PyProof.TupleOfGen
import HandS.IsInst
import HandS.Zip
import HandS.Flow
import HandS.More
import HandS.Style
import KE.GoesEnum
import HandS.TryOnly
import HandS.EndOwn
import PySem.Challenge.RW_boxwitness_k04_runs_by_names
set_option Elab.async false
set_option linter.all false
set_option maxRecDepth 100000
set_option maxHeartbeats 3000000
namespace Gx
open PySem PySem.Spec PyProof.Rows L2 GxR GenW

/-- the context of a generator expression's own frame -/
abbrev gxC (X : Cx) (A : Around) (s : Shared) (H : Hp) (cenv : Env) (fp : List Addr) (pn : List (Addr × Obj)) : Cx :=
  { X with A := A, s_0 := s, H_0 := H, env := cenv, outer := X.stack, stack := cenv :: X.stack, ex := fp, fn := fun _ => false, calm := true, pn := pn, xe := fun _ _ => False }

section
variable {X : Cx} {σ : L2.St} {H : Hp} {s : Shared} {pins : List (Addr × Obj)}
/-- the cells that a generator expression brings along are cells of the def around it -/
theorem brought {scope : Scope} {own : List (Str × Nat)} (I : Inv X pins σ H s) (bk : BlkOk X.N X.env.scope scope own) {n : Str} {c : Addr}
    (e : (cloFrom X.env.cells scope.names []).lookup n = some c) : X.env.cells.lookup n = some c ∧ c < s.heap.objs.size := by
  have fr : ∀ m, (m, NameKind.free) ∈ scope.names → ∃ d, X.env.cells.lookup m = some d := fun m hm =>
    (bk.free _ hm rfl).elim (fun z => I.ok.has _ (.inl z)) fun z => I.ok.has _ (.inr z)
  rcases cloFrom_mem (PySem.mem_of_lookup e) with z | ⟨z, ec⟩
  · exact absurd z (by simp)
  · obtain ⟨d, hd⟩ := fr n z
    rw [ec, hd]
    exact ⟨rfl, (I.cell n d hd).elim fun _ q => q.lt⟩
theorem carried {scope : Scope} {own : List (Str × Nat)} (I : Inv X pins σ H s) (bk : BlkOk X.N X.env.scope scope own) {n : Str} (e : scope.names.lookup n = some .free) :
    ∃ c, (cloFrom X.env.cells scope.names []).lookup n = some c ∧ X.env.cells.lookup n = some c := by
  obtain ⟨c, hc⟩ := mem_lookup (cloFrom_has (acc := []) (cells := X.env.cells) (PySem.mem_of_lookup e))
  exact ⟨c, hc, (brought I bk hc).1⟩
theorem gx_start {A : Around} {scope : Scope} {own : List (Str × Nat)} {fp : List Addr} {code : Value} {cenv : Env} {pn pins' : List (Addr × Obj)} {s5 : Shared}
    (I : Inv X pins σ H s) (ok : BlkOk X.N X.env.scope scope own) (hN : X.N.Nodup) (hfp : ∀ b ∈ fp, FpOk X pins H b ∧ b < s.heap.objs.size)
    (hcenv : cenv = genEnv scope (cloFrom X.env.cells scope.names []) s.heap.objs.size code builtinsNs X.env) (hcell : ∀ y ∈ scope.names, y.2 ≠ .cell)
    (hA : A.handled = none) (hfr : A.frames = some (cenv :: X.stack)) (hos : s5.os = s.os) (hb : AllBare s5.gens)
    (kp : ∀ b o, s.heap.get? b = some o → s5.heap.get? b = some o) (hn : ∃ m, s5.heap.Ns s.heap.objs.size m)
    (hpn : ∀ p ∈ pn ++ pins', s5.heap.get? p.1 = some p.2 ∧ s.heap.objs.size < p.1 ∧ ∀ v, p.2.data ≠ .cell v) :
    Inv (gxC X A s H cenv fp pn) pins' (wipe σ (own.map (·.2))) H s5 := by
  subst hcenv
  -- a name that is seen in the generator and not its own is one that it brings along
  have seen : ∀ (i : Nat) (n : Str), X.N[i]? = some n → i ∉ own.map (·.2) → Vis scope n → scope.names.lookup n = some .free := fun i n hi ni hv => by
    have mine : ∀ kd : NameKind, scope.names.lookup n = some kd → kd = .local ∨ kd = .cell → False := fun kd hk hor => by
      rcases ok.own _ (PySem.mem_of_lookup hk) hor with z | z
      · obtain ⟨⟨n', j⟩, hm, rfl⟩ := List.mem_map.mp z
        exact ni (List.mem_map.mpr ⟨_, hm, nodup_ix hN (ok.ix _ hm) hi⟩)
      · exact z (List.mem_of_getElem? hi)
    rcases hv with z | z | z
    · exact (mine _ z (.inl rfl)).elim
    · exact (mine _ z (.inr rfl)).elim
    · exact z
  have good : Cx.Ok (gxC X A s H (genEnv scope (cloFrom X.env.cells scope.names []) s.heap.objs.size code builtinsNs X.env) fp pn) := {
    mod := I.ok.mod
    kind := ok.kind
    glob := I.ok.glob
    blt := rfl
    above := Nat.le_refl _
    inj := fun n n' c e e' => I.ok.inj n n' c (brought I ok e).1 (brought I ok e').1
    has := fun n hk => by
      rcases hk with z | z
      · exact (hcell _ (PySem.mem_of_lookup z) rfl).elim
      · exact (carried I ok z).elim fun c q => ⟨c, q.1⟩
    cab := fun n c z _ => Bool.noConfusion z
    hd := fun _ => hA
    frames := hfr
    stk := .inr ⟨rfl, rfl⟩
    exf := fun b m => ⟨Nat.ne_of_lt (hfp b m).2, fun n c e => (hfp b m).1.2.2.2.2.1 n c (brought I ok e).1⟩
    bs := I.bs
    bsz := Nat.le_trans I.ok.bsz I.sz
    noex := fun b o e m => (hfp b m).1.2.2.2.1.elim (I.ok.noex b o e) fun z => Nat.lt_irrefl _ (Nat.lt_of_lt_of_le (Heap.lt_size e) (Nat.le_trans I.ok.bsz z))
    exfs := fun b m z => (List.mem_cons.mp (I.stkSub b z)).elim (hfp b m).1.2.1 (hfp b m).1.2.2.1
    funs := I.stack
    frf := I.stkFree }
  exact {
    ok := good
    os := hos
    bare := hb
    base := Un.kept kp
    loc := by
      obtain ⟨mm, hmm⟩ := hn
      refine ⟨mm, hmm, fun i n v hi hv vis => ?_⟩
      obtain ⟨hv', ni⟩ := wipe_some hv
      have fr := seen i n hi ni vis
      obtain ⟨m0, _, at0⟩ := I.loc
      have both := ok.free _ (PySem.mem_of_lookup fr) rfl
      obtain ⟨u, ru, lk⟩ := at0 i n v hi hv' (.inr both)
      obtain ⟨c, q1, q2⟩ := carried I ok fr
      refine ⟨u, ru, .inr ⟨.inr fr, c, q1, ?_⟩⟩
      rcases lk with ⟨z, _⟩ | ⟨_, d, qd, qc⟩
      · have z : X.env.scope.names.lookup n = some NameKind.local := z
        rcases both with y | y <;> exact absurd (z.symm.trans y) (by decide)
      · obtain rfl : c = d := Option.some.inj (q2.symm.trans qd)
        exact qc.keeps kp
    cell := fun n c e => (I.cell n c (brought I ok e).1).elim fun v q => ⟨v, q.keeps kp⟩
    free := I.hok.fresh (Nat.le_refl _)
    freeC := fun n c e => I.freeC n c (brought I ok e).1
    pin := fun p m => by
      obtain ⟨q1, q2, q3⟩ := hpn p m
      refine ⟨q1, I.hok.fresh (Nat.le_of_lt q2), Nat.ne_of_gt q2, fun z => ?_, q3⟩
      exact (List.mem_cons.mp (I.stkSub p.1 z)).elim (fun y => Nat.lt_irrefl _ (Nat.lt_trans q2 (y ▸ I.lt))) (I.nofs (Nat.le_of_lt q2))
    hok := I.hok.kept kp
    len := (wipe_length _ _).trans I.len }
end

/-- what the consumer holds (Ss: its own objects; Acc: what they bear), what it wants of an item, when it asks on, what it wants of the end -/
structure GP where
  Ss : List Addr
  Acc : List V → Heap → Prop
  stay : ∀ acc h h', Acc acc h → (∀ S ∈ Ss, ∀ o, h.get? S = some o → h'.get? S = some o) → Acc acc h'
  Yq : List V → V → Hp → Prop
  Rq : V → Prop
  En : List V → Hp → Prop
/-- the state when the generator is left for a while, or for ever -/
structure Held (X : Cx) (fp : List Addr) (H4 : Hp) (s4 : Shared) (a : Addr) (g : Nat) (Ss : List Addr) (s₀ : Shared) (H' : Hp) (s : Shared) : Prop where
  os : s.os = s4.os
  bare : AllBare s.gens
  un : Un (frs X.stack) fp H4 H' s4.heap s.heap
  hok : HOk X.prog X.w H' s.heap
  gen : s.heap.IsGen a g
  lim : s.heap.NoLimit
  own : ∀ S ∈ Ss, (∀ o, s₀.heap.get? S = some o → s.heap.get? S = some o) ∧ H' S = none
structure SleptG (Ss : List Addr) (s s' : Shared) : Prop where
  os : s'.os = s.os
  bare : AllBare s'.gens
  keep : ∀ b o, b ∉ Ss → s.heap.get? b = some o → s'.heap.get? b = some o
  own : ∀ S ∈ Ss, ∃ o, s'.heap.get? S = some o ∧ ∀ v, o.data ≠ .cell v
def YG (X : Cx) (fp : List Addr) (H4 : Hp) (s4 : Shared) (a : Addr) (g : Nat) (G : GP) : Protocol := fun n s₀ v s kap =>
  ∃ acc y H', RelV y v ∧ Held X fp H4 s4 a g G.Ss s₀ H' s ∧ G.Acc acc s.heap ∧ G.Yq acc y H' ∧ (G.Rq y → ∀ s', SleptG G.Ss s s' → G.Acc (acc ++ [y]) s'.heap → kap (.send .none) s')
def FG (X : Cx) (fp : List Addr) (H4 : Hp) (s4 : Shared) (a : Addr) (g : Nat) (G : GP) : Nat → Shared → Shared → Prop := fun n s₀ s =>
  ∃ acc H', Held X fp H4 s4 a g G.Ss s₀ H' s ∧ G.Acc acc s.heap ∧ G.En acc H'
abbrev RG (X : Cx) (fp : List Addr) (H4 : Hp) (s4 : Shared) (a : Addr) (g : Nat) (G : GP) : GenEnd := fun n s₀ r s =>
  ((r = .ok (.ret .none) ∨ r = .ok .next) ∧ FG X fp H4 s4 a g G n s₀ s) ∨ ∃ e, r = .error e ∧ (fun (_ : Value) (_ : Shared) => False) e s

/-- the reading: W by the turn, a measure, what was handed out and the heap -/
def GxW (J : It) (g : TG) (tt : TT) (te : TE) (vs : List Nat) (σ : L2.St) (G : GP) (W : Nat → Nat → List V → Hp → Prop) : Prop :=
  ∀ i m acc H, W i m acc H → (J.stop i H ∧ G.En acc H) ∨ (J.go i H ∧ ∃ Nx : List V → Hp → Prop, (∀ acc' H', Nx acc' H' → ∃ m', m' < m ∧ W (i + 1) m' acc' H') ∧
    ∀ x H', J.yld i H x H' → g x (wipe σ vs) H' fun σ2 H2 => wipe σ2 vs = wipe σ vs ∧ tt σ2 H2 fun b H3 => if b = true then te σ2 H3 fun y H4 => G.Yq acc y H4 ∧ (G.Rq y → Nx (acc ++ [y]) H4) else Nx acc H3)

section
variable {X : Cx} {σ : L2.St}
theorem Held.of {A : Around} {s4 : Shared} {H4 H' : Hp} {cenv : Env} {fp : List Addr} {a : Addr} {g : Nat} {go : Obj} {Ss : List Addr} {s₀ s : Shared} {σ' : L2.St} {more : List (Addr × Obj)}
    (hgo : ∀ h : Heap, h.get? a = some go → h.IsGen a g) (I : Inv (gxC X A s4 H4 cenv fp [(a, go)]) (pinsAt Ss s₀.heap ++ more) σ' H' s) (hS : ∀ S ∈ Ss, ∃ o, s₀.heap.get? S = some o) : Held X fp H4 s4 a g Ss s₀ H' s where
  os := I.os
  bare := I.bare
  un := I.base
  hok := I.hok
  gen := hgo _ (I.pin (a, go) (List.mem_append_left _ (List.mem_singleton.mpr rfl))).1
  lim := I.nolimit
  own := fun S hs => by
    obtain ⟨o, e⟩ := hS S hs
    have p := I.pin (S, o) (List.mem_append_right _ (List.mem_append_left _ (mem_pinsAt hs e)))
    exact ⟨fun o' e' => by rw [e] at e'; cases e'; exact p.1, p.2.1⟩

theorem seg_gx {A : Around} {elt tg iter : Expr} {ifs : List Expr} {scope : Scope} {pos : Pos} {it : Addr} {cenv : Env} {s4 : Shared} {H4 : Hp} {fp : List Addr} {a : Addr} {gi : Nat} {go : Obj} {tn : Nat → Heap → Prop} {J : It} {g : TG} {tt : TT} {te : TE} {vs : List Nat} {G : GP} {W : Nat → Nat → List V → Hp → Prop}
    (T : Turn X.prog X.w X.K tg J fp it tn) (hco : cenv.scope.isCoroutine = false) (hgo : ∀ h : Heap, h.get? a = some go → h.IsGen a gi)
    (hfp : ∀ b ∈ fp, b < s4.heap.objs.size) (ha : s4.heap.objs.size < a) (hSs : ∀ S ∈ G.Ss, s4.heap.objs.size < S ∧ S ≠ a) (hcl : cenv.locals = s4.heap.objs.size) (hcc : ∀ x c, cenv.cells.lookup x = some c → c < s4.heap.objs.size)
    (pg : PG (gxC X (A.over (.compLoop (.GeneratorExp elt [⟨tg, iter, ifs, 0⟩] scope pos) 0 (.ref it) .none cenv) []) s4 H4 cenv fp [(a, go)]) tg g)
    (pt : PTs (gxC X (A.over (.compLoop (.GeneratorExp elt [⟨tg, iter, ifs, 0⟩] scope pos) 0 (.ref it) .none cenv) []) s4 H4 cenv fp [(a, go)]) ifs tt)
    (pe : PE (gxC X (A.over (.compLoop (.GeneratorExp elt [⟨tg, iter, ifs, 0⟩] scope pos) 0 (.ref it) .none cenv) []) s4 H4 cenv fp [(a, go)]) elt te)
    (turn : GxW J g tt te vs σ G W) :
    ∀ (m n i : Nat) (acc : List V) (H5 : Hp) (s₀ s : Shared), m + 1 ≤ n → W i m acc H5 →
      Inv (gxC X (A.over (.compLoop (.GeneratorExp elt [⟨tg, iter, ifs, 0⟩] scope pos) 0 (.ref it) .none cenv) []) s4 H4 cenv fp [(a, go)]) (pinsAt G.Ss s₀.heap) (wipe σ vs) H5 s → tn i s.heap → (∀ b ∈ fp, H5 b = none) → G.Acc acc s.heap →
      (∀ S ∈ G.Ss, ∃ o, s₀.heap.get? S = some o ∧ ∀ v, o.data ≠ .cell v) →
      Seg (model X.prog X.w) A (RG X fp H4 s4 a gi G) (YG X fp H4 s4 a gi G) n s₀ (.compLoop (.GeneratorExp elt [⟨tg, iter, ifs, 0⟩] scope pos) 0 (.ref it) .none cenv)
        ((model X.prog X.w).den (.compLoop (.GeneratorExp elt [⟨tg, iter, ifs, 0⟩] scope pos) 0 (.ref it) .none cenv)) [] s := by
  generalize hAG : A.over (.compLoop (.GeneratorExp elt [⟨tg, iter, ifs, 0⟩] scope pos) 0 (.ref it) .none cenv) [] = AG at pg pt pe ⊢
  refine fun m => Nat.strongRecOn m fun m ih => ?_
  intro n i acc H5 s₀ s hn w5 I5 st5 n5 hAcc hS0
  have hS0' : ∀ S ∈ G.Ss, ∃ o, s₀.heap.get? S = some o := fun S hs => let ⟨o, e, _⟩ := hS0 S hs; ⟨o, e⟩
  have stat : ∀ {H' : Hp} (q : Shared), (∀ b ∈ fp, H' b = none) → ∀ b ∈ fp, FpOk (gxC X AG s4 H4 cenv fp [(a, go)]) (pinsAt G.Ss q.heap) H' b := fun {H'} q hn b hb =>
    ⟨hn b hb, (I5.ok.exf b hb).1, I5.ok.exfs b hb, .inl hb, fun x c e => (I5.ok.exf b hb).2 x c e, fun p hp z => by
      rcases List.mem_append.mp hp with inPn | hp
      · have e := List.mem_singleton.mp inPn
        rw [e] at z
        have := hfp b hb
        rw [← z] at this
        exact absurd (Nat.lt_trans ha this) (Nat.lt_irrefl _)
      · have := (hSs _ (of_pinsAt hp).1).1
        rw [z] at this
        exact absurd (Nat.lt_trans this (hfp b hb)) (Nat.lt_irrefl _)⟩
  show Seg _ A _ _ _ s₀ _ ((compTurn (.GeneratorExp elt [⟨tg, iter, ifs, 0⟩] scope pos) 0 (.ref it) .none cenv).onRaise (leaving cenv)) [] s
  rw [Sem.onRaise_eq_wrap, compTurn_gen]
  refine seg_bind_wrap (m := standAt iter.pos) (wpAny_standAt ?_)
  rcases turn i m acc H5 w5 with ⟨stop, en⟩ | ⟨go', Nx, hNx, step⟩
  · refine seg_bind_wrap ?_
    rw [hAG]
    refine wpAny_mono (T.done (gxC X AG s4 H4 cenv fp [(a, go)]) rfl rfl rfl rfl i _ s _ H5 (fun _ _ => False) I5 (stat s₀ n5) st5 stop) (fun r s6 ⟨hr, I6⟩ => ?_) fun _ _ z => False.elim z
    subst hr
    have hd : Held X fp H4 s4 a gi G.Ss s₀ H5 s6 := Held.of (more := []) hgo (by rw [List.append_nil]; exact I6) hS0'
    refine seg_end (.ok .next) (.inl ⟨.inr rfl, acc, H5, hd, ?_, en⟩)
    refine G.stay acc _ _ hAcc fun S hs o e => ?_
    obtain ⟨o0, e0, _⟩ := hS0 S hs
    have p5 := (I5.pin (S, o0) (List.mem_append_right _ (mem_pinsAt hs e0))).1
    rw [e] at p5; cases p5
    exact (I6.pin (S, o0) (List.mem_append_right _ (mem_pinsAt hs e0))).1
  · refine seg_bind_wrap ?_
    rw [hAG]
    refine wpAny_mono (T.item (gxC X AG s4 H4 cenv fp [(a, go)]) rfl rfl rfl rfl i _ s _ H5 (fun _ _ => False) I5 (stat s₀ n5) st5 go') (fun r s6 ⟨u, hr, h6⟩ => ?_) fun _ _ z => False.elim z
    subst hr
    refine seg_bind_wrap ?_
    rw [hAG]
    refine wpAny_mono h6 (fun _ s7 ⟨x, H7, I7, r7, y7, st7, n7⟩ => ?_) fun _ _ z => False.elim z
    have I7' := I7.pinned (stat s₀ n7) (T.obj _ _ st7)
    refine seg_bind_wrap ?_
    rw [hAG]
    refine wpAny_mono (pg.run _ s7 _ H7 x u _ I7' r7 (step x H7 y7)) (fun _ s8 ⟨σ8, H8, I8, hw8, q8⟩ => ?_) fun _ _ z => False.elim z
    refine seg_bind_wrap ?_
    rw [hAG]
    refine wpAny_mono (pt.run _ s8 σ8 H8 _ I8 q8) (fun b s9 ⟨H9, I9, q9⟩ => ?_) fun _ _ z => False.elim z
    have accAt : ∀ {σ' : L2.St} {H' : Hp} {s' : Shared}, Inv (gxC X AG s4 H4 cenv fp [(a, go)]) (pinsAt G.Ss s₀.heap ++ pinsAt fp s7.heap) σ' H' s' → G.Acc acc s'.heap := fun {σ' H' s'} I' =>
      G.stay acc _ _ hAcc fun S hs o e => by
        obtain ⟨o0, e0, _⟩ := hS0 S hs
        have p5 := (I5.pin (S, o0) (List.mem_append_right _ (mem_pinsAt hs e0))).1
        rw [e] at p5; cases p5
        exact (I'.pin (S, o0) (List.mem_append_right _ (List.mem_append_left _ (mem_pinsAt hs e0)))).1
    have hl8 : (wipe σ vs).length = σ8.length := by rw [← hw8, wipe_length]
    have hk8 : ∀ (j : Nat) v, (wipe σ vs)[j]? = some (some v) → σ8[j]? = some (some v) := fun j v e => by
      rw [← hw8] at e
      exact (wipe_some e).1
    have pin' : ∀ {σ' : L2.St} {H' : Hp} {s' : Shared}, Inv (gxC X AG s4 H4 cenv fp [(a, go)]) (pinsAt G.Ss s₀.heap ++ pinsAt fp s7.heap) σ' H' s' → ∀ b ∈ fp, ∀ o, s7.heap.get? b = some o → s'.heap.get? b = some o ∧ H' b = none := fun {σ' H' s'} I' b hb o e =>
      have pb := I'.pin (b, o) (List.mem_append_right _ (List.mem_append_right _ (mem_pinsAt hb e)))
      ⟨pb.1, pb.2.1⟩
    cases b with
    | false =>
      simp only [if_false, Bool.false_eq_true] at q9 ⊢
      obtain ⟨m', hm', w'⟩ := hNx acc H9 q9
      refine seg_again rfl (ih m' hm' n (i + 1) acc H9 s₀ s9 (by omega) w' (I9.unpinned.weak hl8 hk8) (T.keep _ _ _ st7 fun b hb o e => (pin' I9 b hb o e).1) (fun b hb => ?_) (accAt I9) hS0)
      exact (T.obj _ _ st7 b hb).elim fun o q => (pin' I9 b hb o q.1).2
    | true =>
      simp only [if_true] at q9 ⊢
      have plainYield : yieldOut cenv = yieldValue := funext fun v => by simp only [hco, yieldOut, if_false, Bool.false_eq_true]
      simp only [plainYield]
      simp only [Sem.bind_eq_wrap', Sem.wrap_wrap]
      refine seg_wrap ?_
      rw [hAG]
      refine wpAny_mono (pe.run _ s9 σ8 H9 _ I9 q9) (fun z s10 ⟨yv, H10, I10, r10, yq, nx⟩ => ?_) fun _ _ z => False.elim z
      obtain ⟨n', rfl⟩ : ∃ n', n = n' + 1 := ⟨n - 1, by omega⟩
      refine seg_at (seg_yield rfl rfl rfl ⟨acc, yv, H10, r10, Held.of hgo I10 hS0', accAt I10, yq, fun hR s'' sl hA'' => ?_⟩)
      obtain ⟨m', hm', w'⟩ := hNx _ H10 (nx hR)
      have fS : ∀ b ∈ fp, b ∉ G.Ss := fun b hb z => absurd (Nat.lt_trans (hSs b z).1 (hfp b hb)) (Nat.lt_irrefl _)
      have hSn : ∀ S ∈ G.Ss, H10 S = none ∧ S ≠ cenv.locals ∧ S ∉ frs X.stack := fun S hs => by
        obtain ⟨o0, e0, _⟩ := hS0 S hs
        have p := I10.pin (S, o0) (List.mem_append_right _ (List.mem_append_left _ (mem_pinsAt hs e0)))
        exact ⟨p.2.1, p.2.2.1, p.2.2.2.1⟩
      have nt : ∀ b u, H10 b = some u → b ∉ G.Ss := fun b u q hb => by rw [(hSn b hb).1] at q; cases q
      have I11 : Inv (gxC X AG s4 H4 cenv fp [(a, go)]) (pinsAt fp s7.heap) σ8 H10 s10 := I10.pins_of fun p hp => I10.pin p (List.mem_append_right _ (List.mem_append_right _ hp))
      have I12 : Inv (gxC X AG s4 H4 cenv fp [(a, go)]) (pinsAt fp s7.heap) σ8 H10 s'' := by
        obtain ⟨z1, z2, z3, z4⟩ := sl
        obtain ⟨hh, gg, d, t, o⟩ := s''
        have ho : o = s10.os := z1
        subst ho
        refine I11.step (g' := gg) (t' := t) (d' := d) (ch := G.Ss) (fun b hb => ?_)
          (fun b ob _ _ hc q _ => z3 b ob hc q) (fun b ob _ _ hc q _ => ⟨ob.slots, z3 b ob hc q⟩) (fun _ _ _ _ n => n) (fun b ob hc q => ⟨ob, z3 b ob hc q⟩)
          (fun _ _ same => same) (fun _ _ _ same => same) (fun b ps q => ⟨#[], by simp [q]⟩) (fun m hm => ?_) (fun b u q => ?_) z2
        · refine ⟨.inr (Nat.le_of_lt (hSs b hb).1), (hSn b hb).2.1, fun x c e z => ?_, fun p hp z => ?_⟩
          · have h1 := hcc x c e
            rw [z] at h1
            exact absurd (Nat.lt_trans (hSs b hb).1 h1) (Nat.lt_irrefl _)
          · rcases List.mem_append.mp hp with inPn | hp
            · have e := List.mem_singleton.mp inPn
              rw [e] at z
              exact (hSs b hb).2 z.symm
            · exact fS p.1 (of_pinsAt hp).1 (by rw [z]; exact hb)
        · obtain ⟨fo, ents, cnt, hfo, tl⟩ := hm
          exact ⟨fo, ents, cnt, z3 _ fo (fun z => (hSn _ z).2.1 rfl) hfo, tl⟩
        · refine (I11.hok b u q).stay (fun c v hc y => z3 c v ?_ y) (fun _ y => y) fun _ _ y => y
          rcases hc with y | y
          · rw [y]; exact nt b u q
          · exact nt c _ y
      have pin12 : ∀ b ∈ fp, ∀ o, s7.heap.get? b = some o → s''.heap.get? b = some o ∧ H10 b = none := fun b hb o e =>
        let z := I12.pin (b, o) (List.mem_append_right _ (mem_pinsAt hb e))
        ⟨z.1, z.2.1⟩
      have hS12 : ∀ S ∈ G.Ss, ∃ o, s''.heap.get? S = some o ∧ ∀ v, o.data ≠ .cell v := sl.own
      refine seg_again rfl (ih m' hm' n' (i + 1) (acc ++ [yv]) H10 s'' s'' (by omega) w' ?_ (T.keep _ _ _ st7 fun b hb o e => (pin12 b hb o e).1) (fun b hb => ?_) hA'' hS12)
      · refine (I12.weak hl8 hk8).pins_of fun p hp => ?_
        obtain ⟨h1, h2⟩ := of_pinsAt hp
        obtain ⟨o, e, hc⟩ := hS12 p.1 h1
        rw [h2] at e; cases e
        exact ⟨h2, (hSn _ h1).1, (hSn _ h1).2.1, (hSn _ h1).2.2, hc⟩
      · exact (T.obj _ _ st7 b hb).elim fun o q => (pin12 b hb o q.1).2
end
end Gx
set_option maxHeartbeats 3000000
namespace Gx
open PySem PySem.Spec PyProof.Rows L2 GxR GenW

theorem over_frames {A : Around} {st : List Env} {e : Expr} {itv acc : Value} {cenv : Env} (hg : ∃ elt gs sc p, e = .GeneratorExp elt gs sc p) (h : A.frames = some st) : (A.over (.compLoop e 0 itv acc cenv) []).frames = some (cenv :: st) := by
  obtain ⟨elt, gs, sc, p, rfl⟩ := hg
  show pushEnvs (Code.envs (.compLoop (.GeneratorExp elt gs sc p) 0 itv acc cenv)) (pushEnvs (envsOf []) A.frames) = some (cenv :: st)
  rw [h]
  rfl
theorem over_room {A : Around} {k : Nat} {e : Expr} {itv acc : Value} {cenv : Env} (hg : ∃ elt gs sc p, e = .GeneratorExp elt gs sc p) (r : Room (k + 1) A) : Room k (A.over (.compLoop e 0 itv acc cenv) []) := by
  obtain ⟨elt, gs, sc, p, rfl⟩ := hg
  have h1 : (A.over (.compLoop (.GeneratorExp elt gs sc p) 0 itv acc cenv) []).depth ≤ A.depth + 1 := Nat.le_of_eq rfl
  have h2 : (A.over (.compLoop (.GeneratorExp elt gs sc p) 0 itv acc cenv) []).units ≤ A.units + 3 := Nat.le_of_eq rfl
  exact ⟨r.hd, by have := r.dp; omega, by have := r.un; omega⟩

/-- the state behind the making of a generator expression -/
structure Made (X : Cx) (pins : List (Addr × Obj)) (σ : L2.St) (e : Expr) (scope : Scope) (tg : Expr) (J : It) (H4 : Hp) (s4 : Shared) (it : Addr) (fp : List Addr) (tn : Nat → Heap → Prop) (code : Value) (a : Addr) (gi : Nat) (go : Obj) (s5 : Shared) : Prop where
  inv : Inv X pins σ H4 s4
  T : Turn X.prog X.w X.K tg J fp it tn
  st : tn 0 s4.heap
  fpo : ∀ b ∈ fp, FpOk X pins H4 b ∧ b < s4.heap.objs.size
  os : s5.os = s4.os
  bare : AllBare s5.gens
  kp : ∀ b o, s4.heap.get? b = some o → s5.heap.get? b = some o
  ns : ∃ m, s5.heap.Ns s4.heap.objs.size m
  obj : s5.heap.get? a = some go
  gen : ∀ h : Heap, h.get? a = some go → h.IsGen a gi
  ncell : ∀ v, go.data ≠ .cell v
  lo : s4.heap.objs.size < a
  hi : a < s5.heap.objs.size
  gs : s5.gens[gi]? = some (.fresh (.compStart e 0 (.ref it) .none (genEnv scope (cloFrom X.env.cells scope.names []) s4.heap.objs.size code builtinsNs X.env)))

section
variable {X : Cx} {σ : L2.St} {H : Hp} {s : Shared} {pins : List (Addr × Obj)}
theorem gx_eval {c P : Addr} {elt tg iter : Expr} {ifs : List Expr} {scope : Scope} {own : List (Str × Nat)} {gpos : Pos} {wi : TI} {k : Nat} {R : It → Hp → Prop} {Q' : Value → Shared → Prop}
    (hr : Room k X.A) (TB : TabB X.base X.mg c P) (hcode : X.env.code = .ref c) (ok : BlkOk X.N X.env.scope scope own) (hcell : ∀ y ∈ scope.names, y.2 ≠ .cell) (h0 : scope.names.lookup (".0" : Str) = some NameKind.local) (hco : scope.isCoroutine = false)
    (hi : PI X tg iter wi) (hs : ∀ v, genFold iter X.env v = pure v) (I : Inv X pins σ H s) (h : wi σ H fun J H1 => TabG H1 P ∧ ∀ H1', Tabbed P H1 H1' → R J H1')
    (hQ : ∀ J H4 s4 it fp tn code a gi go s5, R J H4 → Made X pins σ (.GeneratorExp elt [⟨tg, iter, ifs, 0⟩] scope gpos) scope tg J H4 s4 it fp tn code a gi go s5 → Q' (.ref a) s5) :
    wpAny (model X.prog X.w) X.A (eval (.GeneratorExp elt [⟨tg, iter, ifs, 0⟩] scope gpos) X.env) Q' X.xe s := by
  have mayBring := fun (y : Str × NameKind) (hy : y ∈ scope.names) (e : y.2 = .free) => (ok.free y hy e).elim (fun z => I.ok.has y.1 (.inl z)) fun z => I.ok.has y.1 (.inr z)
  refine wpAny_GeneratorExp_make hco (closure_ok mayBring) hcell h0 ok.kind hr.depth ?_ hs
  refine thn (hi.run pins s σ H _ I h) fun xv s1 hx => thn hx fun itv s2 h2 => ?_
  obtain ⟨it, fp, tn, J, H2, e, I2, T, st2, f2, ⟨ps, hP, ht⟩, q⟩ := h2
  subst e
  have hPs : s2.heap.get? P = some { cls := .none, data := .fields ps } := I2.hok P _ hP
  have cd : PySem.W.CodeHd s2.heap c P := TB.code.keeps fun b u e => I2.bk b u e
  have fpP : ∀ b ∈ fp, b ≠ P := fun b hb z => by
    have := (f2 b hb).1
    rw [z, hP] at this
    cases this
  have goOn : ∀ (cv : Value) (g3 : Heap) (tk : Nat) (qs : Array Value), Heap.ExtBut P s2.heap g3 → s2.heap.objs.size ≤ g3.objs.size → g3.get? P = some { cls := .none, data := .fields qs } → (∃ new, qs = ps ++ new) → TriplesOk qs.toList →
      wpAny (model X.prog X.w) X.A (builtinsFor X.env.globals X.env.builtins)
        (fun bn t4 => ∀ h5, h5.Ns t4.heap.objs.size (fun y => if y = ".0" then some (.ref it) else none) → Heap.SameBut t4.heap.objs.size (t4.heap.push { cls := .type "frame", data := .dict #[] }) h5 →
          Q' (.ref h5.objs.size) { t4 with
            gens := t4.gens.push (.fresh (.compStart (.GeneratorExp elt [⟨tg, iter, ifs, 0⟩] scope gpos) 0 (.ref it) .none (genEnv scope (cloFrom X.env.cells scope.names []) t4.heap.objs.size cv bn X.env)))
            toks := t4.toks + 1 + 1 + 1
            heap := h5.push { cls := .type "generator", data := .fields #[.int t4.gens.size 0, .str "<genexpr>" (t4.toks + 1), .str (X.env.qual ++ "<genexpr>") (t4.toks + 1 + 1)] } }) X.xe { s2 with heap := g3, toks := tk } := by
    intro cv g3 tk qs ext grow atP ⟨new, enew⟩ trip
    obtain ⟨mo, mob, m1, m2, _, m4, m5, m6, m7, m8⟩ := TB.bm
    have kept3 : ∀ b u, b ≠ P → s2.heap.get? b = some u → g3.get? b = some u := ext
    have glob3 : g3.Ns X.env.globals X.mg := I2.ok.glob ▸ (I2.mod.glob.keeps I2.bk).extBut ext TB.gP
    refine wpAny_builtinsFor glob3 m1 m2 (kept3 _ _ m4 (I2.bk _ _ m5)) m6 m7 m8 fun h5 ns5 but5 => ?_
    have sz5 : h5.objs.size = g3.objs.size + 1 := but5.1.trans (Heap.size_push ..)
    have up5 : ∀ b o, g3.get? b = some o → h5.get? b = some o := fun b o e => but5.extBut b o (Nat.ne_of_lt (Heap.lt_size e)) (Heap.get?_push_of_some _ e)
    have J4 := inv_tab (h' := g3) (more := new) (g' := s2.gens) (d' := s2.drawn) (t' := tk) I2 hP kept3 (enew ▸ atP) I2.bare
    refine hQ J _ { s2 with heap := g3, gens := s2.gens, drawn := s2.drawn, toks := tk } it fp tn cv h5.objs.size s2.gens.size
      { cls := .type "generator", data := .fields #[.int s2.gens.size 0, .str "<genexpr>" (tk + 1), .str (X.env.qual ++ "<genexpr>") (tk + 1 + 1)] } _ (q _ ⟨⟨ps ++ new, upd_same, enew ▸ trip⟩, fun b nb => upd_ne nb⟩) {
        inv := J4
        T := T
        st := T.keep _ _ _ st2 fun b hb o e => kept3 b o (fpP b hb) e
        fpo := fun b hb => ⟨⟨(upd_ne (fpP b hb)).trans (f2 b hb).1, (f2 b hb).2⟩, (T.obj _ _ st2 b hb).elim fun o z => Nat.lt_of_lt_of_le (Heap.lt_size z.1) grow⟩
        os := rfl
        bare := I2.bare.push rfl
        kp := fun b o e => Heap.get?_push_of_some _ (up5 b o e)
        ns := ⟨_, ns5.push _⟩
        obj := Heap.get?_push_size _ rfl
        gen := fun h e => ⟨_, _, _, e, rfl, rfl, rfl⟩
        ncell := fun v z => nomatch z
        lo := by show g3.objs.size < h5.objs.size; omega
        hi := Nat.lt_of_lt_of_eq (Nat.lt_succ_self _) (Heap.size_push ..).symm
        gs := Array.getElem?_push_size .. }
  refine ⟨I2.nolimit, ?_⟩
  match known : codeAmong gpos ps.toList with
  | some old => exact wpAny_genexprCode_hit hcode (cd.code hPs ht) known (goOn old s2.heap s2.toks ps (Heap.ExtBut.refl _ _) (Nat.le_refl _) hPs ⟨#[], by simp⟩ ht)
  | none =>
    refine wpAny_genexprCodeX hcode (cd.code hPs ht) (cd.tab hPs) known fun c' g3 tk ext ge lt co _ tabAt _ => ?_
    obtain ⟨_, _, _, _, _, _, _, _, _, _, _, _, _, _, _, _, _, _, _, trip, _⟩ := co
    exact goOn _ g3 tk _ ext (Nat.le_trans ge (Nat.le_of_lt lt)) tabAt.2 ⟨_, rfl⟩ trip

/-- the generator's run, from its start, whoever wakes it -/
theorem gx_run {elt tg iter : Expr} {ifs : List Expr} {scope : Scope} {own : List (Str × Nat)} {gpos : Pos} {J : It} {H4 : Hp} {s4 : Shared} {it : Addr} {fp : List Addr} {tn : Nat → Heap → Prop} {code : Value} {a : Addr} {gi : Nat} {go : Obj} {s5 : Shared} {g : TG} {tt : TT} {te : TE} {k m : Nat} {G : GP} {W : Nat → Nat → List V → Hp → Prop}
    (ok : BlkOk X.N X.env.scope scope own) (hcell : ∀ y ∈ scope.names, y.2 ≠ .cell) (hco : scope.isCoroutine = false) (hN : X.N.Nodup)
    (M : Made X pins σ (.GeneratorExp elt [⟨tg, iter, ifs, 0⟩] scope gpos) scope tg J H4 s4 it fp tn code a gi go s5)
    (hg : ∀ (A : Around) (s : Shared) (H : Hp) (C : Addr) (cl : List (Str × Addr)) (code : Value) (fp : List Addr) (pn : List (Addr × Obj)), Room k A → PG (gxC X A s H (genEnv scope cl C code builtinsNs X.env) fp pn) tg g)
    (ht : ∀ (A : Around) (s : Shared) (H : Hp) (C : Addr) (cl : List (Str × Addr)) (code : Value) (fp : List Addr) (pn : List (Addr × Obj)), Room k A → PTs (gxC X A s H (genEnv scope cl C code builtinsNs X.env) fp pn) ifs tt)
    (he : ∀ (A : Around) (s : Shared) (H : Hp) (C : Addr) (cl : List (Str × Addr)) (code : Value) (fp : List Addr) (pn : List (Addr × Obj)), Room k A → PE (gxC X A s H (genEnv scope cl C code builtinsNs X.env) fp pn) elt te)
    (w0 : W 0 m [] H4) (turn : GxW J g tt te (own.map (·.2)) σ G W) {A : Around} {s6 : Shared} (hr : Room (k + 1) A) (hfr : A.frames = some X.stack)
    (hSs : ∀ S ∈ G.Ss, s4.heap.objs.size < S ∧ S ≠ a ∧ ∃ o, s6.heap.get? S = some o ∧ ∀ v, o.data ≠ .cell v) (hAcc : G.Acc [] s6.heap) (hos : s6.os = s5.os) (hb : AllBare s6.gens) (hk : ∀ b o, s5.heap.get? b = some o → s6.heap.get? b = some o) :
    (GenState.fresh (.compStart (.GeneratorExp elt [⟨tg, iter, ifs, 0⟩] scope gpos) 0 (.ref it) .none (genEnv scope (cloFrom X.env.cells scope.names []) s4.heap.objs.size code builtinsNs X.env))).Goes (model X.prog X.w) A (RG X fp H4 s4 a gi G) (YG X fp H4 s4 a gi G) (m + 1) (.send .none) s6 := by
  refine ⟨rfl, ?_⟩
  generalize hce : genEnv scope (cloFrom X.env.cells scope.names []) s4.heap.objs.size code builtinsNs X.env = cenv
  have hrG := over_room (e := .GeneratorExp elt [⟨tg, iter, ifs, 0⟩] scope gpos) (itv := .ref it) (acc := .none) (cenv := cenv) ⟨_, _, _, _, rfl⟩ hr
  have hfG := over_frames (e := .GeneratorExp elt [⟨tg, iter, ifs, 0⟩] scope gpos) (itv := .ref it) (acc := .none) (cenv := cenv) ⟨_, _, _, _, rfl⟩ hfr
  obtain ⟨m5, hn5⟩ := M.ns
  have kp6 : ∀ b o, s4.heap.get? b = some o → s6.heap.get? b = some o := fun b o e => hk b o (M.kp b o e)
  have I6 : Inv (gxC X (A.over (.compLoop (.GeneratorExp elt [⟨tg, iter, ifs, 0⟩] scope gpos) 0 (.ref it) .none cenv) []) s4 H4 cenv fp [(a, go)]) (pinsAt G.Ss s6.heap) (wipe σ (own.map (·.2))) H4 s6 := by
    refine gx_start M.inv ok hN M.fpo hce.symm hcell hrG.hd hfG (hos.trans M.os) hb kp6 ⟨m5, hn5.keeps hk⟩ fun p hp => ?_
    rcases List.mem_append.mp hp with inPn | hp
    · obtain rfl := List.mem_singleton.mp inPn
      exact ⟨hk _ _ M.obj, M.lo, M.ncell⟩
    · obtain ⟨h1, h2⟩ := of_pinsAt hp
      obtain ⟨q1, _, o, e, q2⟩ := hSs _ h1
      rw [h2] at e; cases e
      exact ⟨h2, q1, q2⟩
  have hcc : ∀ x c, cenv.cells.lookup x = some c → c < s4.heap.objs.size := fun x c e => (brought M.inv ok (by rw [← hce] at e; exact e)).2
  have st6 : tn 0 s6.heap := M.T.keep _ _ _ M.st fun b _ o e => kp6 b o e
  have loop := seg_gx (iter := iter) (scope := scope) (pos := gpos) (go := go) (A := A) (σ := σ) (G := G) (W := W) M.T (by rw [← hce]; exact hco) M.gen (fun b hb => (M.fpo b hb).2) M.lo (fun S hs => ⟨(hSs S hs).1, (hSs S hs).2.1⟩) (by rw [← hce]; rfl) hcc
    (by rw [← hce]; exact hg _ _ _ _ _ _ _ _ (by rw [hce]; exact hrG)) (by rw [← hce]; exact ht _ _ _ _ _ _ _ _ (by rw [hce]; exact hrG)) (by rw [← hce]; exact he _ _ _ _ _ _ _ _ (by rw [hce]; exact hrG)) turn m (m + 1) 0 [] H4 s6 s6 (Nat.le_refl _) w0 I6 st6 (fun b hb => (M.fpo b hb).1.1) hAcc (fun S hs => (hSs S hs).2.2)
  show Seg _ A _ _ _ s6 _ ((compStart (.GeneratorExp elt [⟨tg, iter, ifs, 0⟩] scope gpos) 0 (.ref it) .none cenv).onRaise (leaving cenv)) [] s6
  unfold compStart
  rw [Sem.onRaise_eq_wrap]
  show Seg _ A _ _ _ s6 _ ((ask >>= _).wrap _ _ _ _) [] s6
  refine seg_bind_wrap (m := ask) (wpAny_askSetting ?_)
  split
  · exact seg_again rfl loop
  · first
      | exact seg_bind_wrap (wpAny_rule (seg_bind_wrap (wpAny_standAt (seg_bind_wrap (M.T.self _ 0 s6 _ _ st6 (seg_again rfl loop))))))
      | (refine seg_bind_wrap (wpAny_rule ?_); show Seg _ A _ _ _ s6 _ ((standAt iter.pos >>= _).wrap _ _ _ _) [] s6; exact seg_bind_wrap (wpAny_standAt (seg_bind_wrap (M.T.self _ 0 s6 _ _ st6 (seg_again rfl loop)))))
end
end Gx
set_option maxHeartbeats 3000000
namespace Gx
open PySem PySem.Spec PyProof.Rows L2 GxR GenW

/-- into a built-in's own tree -/
theorem entered {prog : Program} {w : World} {A : Around} {R : Result → Shared → Prop} {s : Shared} {id : String} {b : Builtin} {args : Args} (he : entryFor table id = some b) (hp : plainId id = true)
    (h : wpAny (model prog w) A.in1 (b args) (fun f s' => match f with | .done fl => R (.ok fl) s' | .again c => c.quiet = true ∧ codeAny (model prog w) A c R s') (fun e s' => R (.error e) s') s) :
    codeAny (model prog w) A (.builtin id args) R s := codeAny_builtin he (by rw [Around.under_plainId hp args]; exact h)

/-- all(..): it stops at the first False -/
def gAll (Qt Qf : Hp → Prop) : GP where
  Ss := []
  Acc := fun _ _ => True
  stay := fun _ _ _ _ _ => trivial
  Yq := fun _ y H' => ∃ c, y = .bl c ∧ (c = false → Qf H')
  Rq := fun y => y = .bl true
  En := fun _ H' => Qt H'

theorem goesRG {X : Cx} {fp : List Addr} {H4 : Hp} {s4 : Shared} {a : Addr} {gi : Nat} {G : GP} {gs : GenState} {B : Around} {n : Nat} {r : Resume} {s : Shared}
    (h : gs.Goes (model X.prog X.w) B (RG X fp H4 s4 a gi G) (YG X fp H4 s4 a gi G) n r s) :
    gs.Goes (model X.prog X.w) B (fun n s₀ r s1 => ((r = .ok (.ret .none) ∨ r = .ok .next) ∧ FG X fp H4 s4 a gi G n s₀ s1) ∨ ∃ e, r = .error e ∧ (fun (_ : Value) (_ : Shared) => False) e s1) (YG X fp H4 s4 a gi G) n r s := h

/-- it may be asked n times more -/
def Left (X : Cx) (A : Around) (fp : List Addr) (H4 : Hp) (s4 : Shared) (a : Addr) (gi : Nat) (G : GP) (gs : GenState) (t : Shared) : Nat → Prop
  | 0 => False
  | m + 1 => gs.Goes (model X.prog X.w) A (RG X fp H4 s4 a gi G) (YG X fp H4 s4 a gi G) m (.send .none) t
/-- one asking: the next item in the state that it left, or the end; P n is what is wanted where n askings are left -/
theorem ask_gx {X : Cx} {A : Around} {E : Value → Shared → Prop} {Q : Option Value → Shared → Prop} {fp : List Addr} {H4 : Hp} {s4 s : Shared} {a : Addr} {gi n : Nat} {G : GP} {gs : GenState} (hh : A.handled = none) (hd : A.depth < recursionLimit)
    (hg : s.heap.IsGen a gi) (hl : s.heap.NoLimit) (hgs : s.gens[gi]? = some gs) (hgo : gs.Goes (model X.prog X.w) A.in1 (RG X fp H4 s4 a gi G) (YG X fp H4 s4 a gi G) n (.send .none) (s.setGen gi .running))
    (item : ∀ (acc : List V) (y : V) (v : Value) (H' : Hp) (t : Shared) (gs' : GenState), RelV y v → gs'.bare = true → gi < t.gens.size → Held X fp H4 s4 a gi G.Ss (s.setGen gi .running) H' t → G.Acc acc t.heap → G.Yq acc y H' →
      (∀ t', G.Rq y → SleptG G.Ss t t' → G.Acc (acc ++ [y]) t'.heap → Left X A.in1 fp H4 s4 a gi G gs' t' n) → Q (some v) (t.setGen gi gs'))
    (fin : ∀ (acc : List V) (H' : Hp) (t : Shared) (h' : Heap), Held X fp H4 s4 a gi G.Ss (s.setGen gi .running) H' t → G.Acc acc t.heap → G.En acc H' → (∀ b o, t.heap.get? b = some o → h'.get? b = some o) → Q none { t.setGen gi .finished with heap := h' }) :
    wpAny (model X.prog X.w) A (pyNext (.ref a)) Q E s := by
  have inG : gi + 1 ≤ s.gens.size := (Array.getElem?_eq_some_iff.mp hgs).1
  refine wpAny_gsz inG (next_genG hh hl hd hg hgs (goesRG hgo) (fun v t gs' nice hv grown => ?_) (fun t hp h' up _ => ?_) fun _ _ none => none.elim)
  · obtain ⟨acc, y, H', ry, held, hacc, yq, more⟩ := hv
    have sz : gi + 1 ≤ t.gens.size := setGen_size t gi gs' ▸ grown
    refine item acc y v H' t gs' ry nice sz held hacc yq fun t' r sl ac => ?_
    have z := more r t' sl ac
    cases n with
    | zero => exact z
    | succ m => exact z
  · obtain ⟨acc, H', held, hacc, en⟩ := hp
    exact fin acc H' t h' held hacc en up

theorem all_loop {X : Cx} {A : Around} {R : Result → Shared → Prop} {fp : List Addr} {H4 : Hp} {s4 : Shared} {a : Addr} {gi : Nat} {Qt Qf : Hp → Prop} (hh : A.handled = none) (hd : A.depth < recursionLimit)
    (hR : ∀ (b : Bool) (s' : Shared) (H' : Hp), s'.os = s4.os → AllBare s'.gens → Un (frs X.stack) fp H4 H' s4.heap s'.heap → HOk X.prog X.w H' s'.heap → (if b = true then Qt H' else Qf H') → R (.ok (.ret (.bool b))) s') :
    ∀ (n : Nat) (s : Shared), s.heap.IsGen a gi → s.heap.NoLimit → (∃ gs, s.gens[gi]? = some gs ∧ gs.Goes (model X.prog X.w) A.in1.in1 (RG X fp H4 s4 a gi (gAll Qt Qf)) (YG X fp H4 s4 a gi (gAll Qt Qf)) n (.send .none) (s.setGen gi .running)) →
      codeAny (model X.prog X.w) A (.builtin "all.loop" ⟨[.ref a], []⟩) R s := by
  refine fun n => Nat.strongRecOn n fun n ih s hg hl ⟨gs, hgs, hgo⟩ => entered F.entry_all_loop F.plain_all_loop ?_
  refine wpAny_bind (m := pyNext (.ref a)) (ask_gx (A := A.in1) hh hd hg hl hgs hgo (fun acc y v H' t gs' ry nice sz held _ yq more => ?_) fun acc H' t h' held _ en up => ?_)
  · obtain ⟨c, rfl, no⟩ := yq
    obtain rfl : v = Value.bool c := ry
    refine wpAny_bind (wpAny_holding (wpAny_truthy_bool (wpAny_bind (wpAny_letGo ?_))))
    cases c with
    | false => exact wpAny_bind (m := rule _) (wpAny_rule (wpAny_pure (hR false _ H' held.os (allBare_setGen held.bare nice) held.un held.hok (no rfl))))
    | true =>
      have next := more ((t.setGen gi gs').setGen gi .running) rfl ⟨rfl, allBare_setGen (s := t.setGen gi gs') (allBare_setGen held.bare nice) rfl, fun _ _ _ e => e, fun S z => nomatch z⟩ trivial
      cases n with
      | zero => exact next.elim
      | succ m => exact wpAny_pure ⟨plainId_quiet F.plain_all_loop _, ih m (Nat.lt_succ_self m) _ held.gen held.lim ⟨gs', setGen_at sz, next⟩⟩
  · exact wpAny_bind (m := rule _) (wpAny_rule (wpAny_pure (hR true _ H' held.os (allBare_setGen held.bare rfl) (held.un.trans (Un.kept up)) (held.hok.kept up) en)))

/-- tuple(..): what is handed out is kept in the list at S -/
def gTupG (S : Addr) (En : List V → Hp → Prop) : GP where
  Ss := [S]
  Acc := fun acc h => ∃ its c, h.get? S = some (lstObj its c) ∧ Vals acc its.toList
  stay := fun acc h h' ⟨its, c, e, r⟩ k => ⟨its, c, k S (List.mem_singleton.mpr rfl) _ e, r⟩
  Yq := fun acc _ _ => acc.length < sizeLine
  Rq := fun _ => True
  En := En

theorem ext_loop {X : Cx} {A : Around} {R : Result → Shared → Prop} {fp : List Addr} {H4 : Hp} {s4 : Shared} {a S : Addr} {gi : Nat} {En : List V → Hp → Prop} {res : Value} (hh : A.handled = none) (hd : A.depth < recursionLimit) (hSa : S ≠ a) (hSc : S ≠ cStatics)
    (hR : ∀ (s' : Shared) (its : Array Value) (c : Nat) (H' : Hp) (ys : List V), s'.heap.get? S = some (lstObj its c) → Vals ys its.toList → s'.os = s4.os → AllBare s'.gens → Un (frs X.stack) fp H4 H' s4.heap s'.heap → HOk X.prog X.w H' s'.heap → H' S = none → En ys H' → R (.ok (.ret res)) s') :
    ∀ (n : Nat) (s : Shared), s.heap.IsGen a gi → s.heap.NoLimit → (∃ gs, s.gens[gi]? = some gs ∧ gs.Goes (model X.prog X.w) A.in1.in1 (RG X fp H4 s4 a gi (gTupG S En)) (YG X fp H4 s4 a gi (gTupG S En)) n (.send .none) (s.setGen gi .running)) →
      codeAny (model X.prog X.w) A (.builtin "list.extend.loop" ⟨[.ref S, .ref a, res], []⟩) R s := by
  refine fun n => Nat.strongRecOn n fun n ih s hg hl ⟨gs, hgs, hgo⟩ => entered F.entry_extend_loop F.plain_extend_loop ?_
  refine wpAny_bind (m := pyNext (.ref a)) (ask_gx (A := A.in1) hh hd hg hl hgs hgo (fun acc y v H' t gs' ry nice sz held hacc yq more => ?_) fun acc H' t h' held ⟨its, c, e, r⟩ en up => ?_)
  · obtain ⟨its, c, e, r⟩ := hacc
    have few : acc.length < sizeLine := yq
    have same : acc.length = its.size := (Vals.length r).trans Array.length_toList
    obtain ⟨c', put⟩ : ∃ c', (t.heap.update S (Obj.mapSeq (·.push v))).get? S = some (lstObj (its.push v) c') := ⟨_, Heap.get?_update_self _ e rfl⟩
    have else_ : ∀ b o, b ≠ S → t.heap.get? b = some o → (t.heap.update S (Obj.mapSeq (·.push v))).get? b = some o := fun b o nb q => by
      rw [Heap.get?_update_other _ _ nb.symm]; exact q
    refine wpAny_bind (m := updateSeq S (·.push v)) (wpAny_updateSeq (s := t.setGen gi gs') e rfl ?_ (by omega) (by show (its.push v).size ≤ sizeLine + 1; rw [Array.size_push]; omega))
    have next := more ({ (t.setGen gi gs').setGen gi .running with heap := t.heap.update S (Obj.mapSeq (·.push v)) }) trivial
      ⟨rfl, allBare_setGen (s := t.setGen gi gs') (allBare_setGen held.bare nice) rfl, fun b o nb q => else_ b o (fun z => nb (z ▸ List.mem_singleton.mpr rfl)) q, fun S' z => by
        rw [List.mem_singleton.mp z]
        exact ⟨_, put, fun v z => nomatch z⟩⟩ ⟨_, _, put, by rw [Array.toList_push]; exact r.append (.cons ry .nil)⟩
    cases n with
    | zero => exact next.elim
    | succ m =>
      refine wpAny_pure ⟨plainId_quiet F.plain_extend_loop _, ih m (Nat.lt_succ_self m) { t.setGen gi gs' with heap := t.heap.update S (Obj.mapSeq (·.push v)) } ?_ ?_ ⟨gs', setGen_at sz, next⟩⟩
      · exact held.gen.elim fun o q => q.elim fun nm q => q.elim fun qn q => ⟨o, nm, qn, else_ a o hSa.symm q.1, q.2⟩
      · exact held.lim.elim fun mc q => ⟨mc, q.1.at' fun o z => else_ cStatics o hSc.symm z, q.2⟩
  · exact wpAny_pure (hR _ its c H' acc (up _ _ e) r held.os (allBare_setGen held.bare rfl) (held.un.trans (Un.kept up)) (held.hok.kept up) (held.own S (List.mem_singleton.mpr rfl)).2 en)

theorem collect_gx {X : Cx} {A : Around} {E : Value → Shared → Prop} {Q : List Value → Shared → Prop} {s : Shared} {fp : List Addr} {H4 : Hp} {s4 : Shared} {a : Addr} {gi n : Nat} {gs : GenState} {En : List V → Hp → Prop} (hh : A.handled = none) (hd : A.depth < recursionLimit)
    (hg : s.heap.IsGen a gi) (hl : s.heap.NoLimit) (hgs : s.gens[gi]? = some gs) (hb : AllBare s.gens)
    (hgo : ∀ s6 : Shared, (∃ c, s6.heap.get? s.heap.objs.size = some (lstObj #[] c)) → (∀ b o, s.heap.get? b = some o → s6.heap.get? b = some o) → s6.os = s.os → AllBare s6.gens → gs.Goes (model X.prog X.w) A.in1.in1 (RG X fp H4 s4 a gi (gTupG s.heap.objs.size En)) (YG X fp H4 s4 a gi (gTupG s.heap.objs.size En)) n (.send .none) s6)
    (hQ : ∀ (s' : Shared) (its : Array Value) (H' : Hp) (ys : List V), Vals ys its.toList → s'.os = s4.os → AllBare s'.gens → Un (frs X.stack) fp H4 H' s4.heap s'.heap → HOk X.prog X.w H' s'.heap → En ys H' → Q its.toList s') :
    wpAny (model X.prog X.w) A (collect (.ref a)) Q E s := by
  obtain ⟨go, _, _, hgo', _⟩ := id hg
  have older : a < s.heap.objs.size := Heap.lt_size hgo'
  have notA : s.heap.objs.size ≠ a := Nat.ne_of_gt older
  have notC : s.heap.objs.size ≠ cStatics := Nat.ne_of_gt (hl.elim fun _ z => z.1.lt)
  have up1 : ∀ b o, s.heap.get? b = some o → (s.heap.push (lstObj #[] 0)).get? b = some o := fun b o z => Heap.get?_push_of_some _ z
  have isG : ∀ {h : Heap}, (∀ b o, s.heap.get? b = some o → h.get? b = some o) → Shared.TypeIs { s with heap := h } (.ref a) "generator" := fun {h} z => Heap.IsGen.typeIs (s := { s with heap := h }) (hg.keeps z)
  -- the empty list is made, touched once, and filled
  refine wpAny_bind (m := runValue (.builtin "proto.collect" ⟨[.ref a], []⟩)) (wpAny_runValue (entered F.entry_proto_collect F.plain_proto_collect ?_))
  refine wpAny_bind (m := newList []) (wpAny_newObj_type (wpAny_pure ⟨plainId_quiet F.plain_list_iadd _, entered F.entry_list_iadd F.plain_list_iadd ?_⟩))
  show wpAny (model X.prog X.w) A.in1 (Builtin.List.listExtendWith (.ref s.heap.objs.size) (.ref a) (.ref s.heap.objs.size)) _ _ { s with heap := s.heap.push (lstObj #[] 0) }
  have other : Builtin.List.listSameRef (.ref s.heap.objs.size) (.ref a) = false := by simp [Builtin.List.listSameRef, notA]
  have noSeq : ((Value.type "generator" == Value.type "list") || (Value.type "generator" == Value.type "tuple")) = false := by decide
  simp only [Builtin.List.listExtendWith]
  refine wpAny_bind (wpAny_typeOf (isG up1) ?_)
  simp only [other, noSeq, Bool.false_or, Bool.or_self, if_false, Bool.false_eq_true]
  refine wpAny_bind (m := pyIter (.ref a)) (wpAny_pyIter_gen (s := { s with heap := s.heap.push (lstObj #[] 0) }) (hg.keeps up1) ?_)
  refine wpAny_bind (m := holding _ (Builtin.List.listLengthHint (.ref a))) (wpAny_holding ?_)
  simp only [Builtin.List.listLengthHint]
  refine wpAny_bind (wpAny_specialOf (isG up1) F.gen_no_len ?_)
  refine wpAny_bind (m := specialOf (Value.ref a) (Str.ofString "__length_hint__")) (wpAny_specialOf (isG up1) F.gen_no_hint (wpAny_pure ?_))
  refine wpAny_bind (m := rule "list.extend.makes-room") (wpAny_rule ?_)
  have e1 : (s.heap.push (lstObj #[] 0)).get? s.heap.objs.size = some (lstObj #[] 0) := Heap.get?_push_size _ rfl
  have e2 := Heap.get?_update_self (Obj.mapSeq fun xs => xs.push Value.none) e1 rfl
  have e3 := Heap.get?_update_self (Obj.mapSeq fun xs => xs.pop) e2 rfl
  refine wpAny_bind (m := updateSeq s.heap.objs.size (·.push .none) >>= fun _ => updateSeq s.heap.objs.size (·.pop)) (wpAny_bind (wpAny_updateSeq e1 rfl (wpAny_updateSeq e2 rfl ?_)))
  have up3 : ∀ b o, s.heap.get? b = some o → Heap.get? (Heap.update (Heap.update (s.heap.push (lstObj #[] 0)) s.heap.objs.size (Obj.mapSeq fun xs => xs.push Value.none)) s.heap.objs.size (Obj.mapSeq fun xs => xs.pop)) b = some o := fun b o z => by
    have nb : s.heap.objs.size ≠ b := Nat.ne_of_gt (Heap.lt_size z)
    rw [Heap.get?_update_other _ _ nb, Heap.get?_update_other _ _ nb]
    exact up1 b o z
  refine wpAny_pure ⟨plainId_quiet F.plain_extend_loop _, ext_loop (X := X) (A := A) (fp := fp) (H4 := H4) (s4 := s4) (S := s.heap.objs.size) (En := En) hh hd notA notC (fun s' its c H' ys q1 q2 q3 q4 q5 q6 _ q8 => ?_) n _ (hg.keeps up3) (hl.keeps up3) ⟨gs, hgs, hgo _ ⟨_, e3⟩ up3 rfl (allBare_setGen (s := { s with heap := _ }) hb rfl)⟩⟩
  exact wpAny_bind (m := load s.heap.objs.size) (wpAny_load q1 (wpAny_pure (hQ s' its H' ys q2 q3 q4 q5 q6 q8)))

section
variable {X : Cx}
/-- all(elt for tg in iter if ..); W's third letter: what was handed out -/
def tAllG (P : Addr) (wi : TI) (g : TG) (tt : TT) (te : TE) (vs : List Nat) : TE := fun σ H Q => wi σ H fun J H1 => TabG H1 P ∧ ∀ H1', Tabbed P H1 H1' →
  ∃ W : Nat → Nat → List V → Hp → Prop, (∃ m, W 0 m [] H1') ∧ GxW J g tt te vs σ (gAll (fun H => Q (.bl true) H) (fun H => Q (.bl false) H)) W
/-- tuple(elt for tg in iter if ..) -/
def tTupG (P : Addr) (wi : TI) (g : TG) (tt : TT) (te : TE) (vs : List Nat) : TE := fun σ H Q => wi σ H fun J H1 => TabG H1 P ∧ ∀ H1', Tabbed P H1 H1' →
  ∃ W : Nat → Nat → List V → Hp → Prop, (∃ m, W 0 m [] H1') ∧ GxW J g tt te vs σ (gTupG 0 (fun ys H => ys.length ≤ sizeLine ∧ ∀ p, H p = none → Q (.ref p) (upd H p (.tup ys)))) W

theorem pe_allG {c P : Addr} {elt tg iter : Expr} {ifs : List Expr} {scope : Scope} {own : List (Str × Nat)} {gpos p pos : Pos} {wi : TI} {g : TG} {tt : TT} {te : TE} {k : Nat}
    (hr : Room (k + 2) X.A) (hgl : Gl X "all") (hmg : X.mg "all" = none) (TB : TabB X.base X.mg c P) (hcode : X.env.code = .ref c) (hN : X.N.Nodup) (hi : PI X tg iter wi) (ok : BlkOk X.N X.env.scope scope own)
    (hg : ∀ (A : Around) (s : Shared) (H : Hp) (C : Addr) (cl : List (Str × Addr)) (code : Value) (fp : List Addr) (pn : List (Addr × Obj)), Room k A → PG (gxC X A s H (genEnv scope cl C code builtinsNs X.env) fp pn) tg g)
    (ht : ∀ (A : Around) (s : Shared) (H : Hp) (C : Addr) (cl : List (Str × Addr)) (code : Value) (fp : List Addr) (pn : List (Addr × Obj)), Room k A → PTs (gxC X A s H (genEnv scope cl C code builtinsNs X.env) fp pn) ifs tt)
    (he : ∀ (A : Around) (s : Shared) (H : Hp) (C : Addr) (cl : List (Str × Addr)) (code : Value) (fp : List Addr) (pn : List (Addr × Obj)), Room k A → PE (gxC X A s H (genEnv scope cl C code builtinsNs X.env) fp pn) elt te)
    (hcell : ∀ y ∈ scope.names, y.2 ≠ .cell := by decide) (h0 : scope.names.lookup (".0" : Str) = some NameKind.local := by rfl) (hco : scope.isCoroutine = false := by rfl) (hs : ∀ v, genFold iter X.env v = pure v := by intro _; rfl)
    (hst : starEach [.GeneratorExp elt [⟨tg, iter, ifs, 0⟩] scope gpos] X.env = (false, eval (.GeneratorExp elt [⟨tg, iter, ifs, 0⟩] scope gpos) X.env) :: starEach [] X.env := by rfl) :
    PE X (.Call (.Name "all" p) [.GeneratorExp elt [⟨tg, iter, ifs, 0⟩] scope gpos] [] pos) (tAllG P wi g tt te (own.map (·.2))) := by
  constructor
  intro pins s σ H Q I h
  refine wpAny_Call_Name_kw (ld_blt I hgl hmg (by decide +kernel : bootBuiltins "all" = some (.builtin "all")) ?_)
  refine PyProof.Rows.callWith_builtin1 ?_ hst (by rfl)
  rw [hst]
  show wpAny _ _ (spliced ((false, eval (.GeneratorExp elt [⟨tg, iter, ifs, 0⟩] scope gpos) X.env) :: backTo pos (starEach [] X.env))) _ _ s
  refine Calls.spliced_cons (gx_eval hr TB hcode ok hcell h0 hco hi hs I h fun J H4 s4 it fp tn code a gi go s5 hR M => ?_)
  refine Calls.spliced_nil ?_
  obtain ⟨W, ⟨m0, w0⟩, turn⟩ := hR
  refine call_function_tree F.kind_all F.plain_all F.entry_all (F.args_all1 (.ref a)) ?_
  refine wpAny_bind (m := oneArg "all" ⟨[.ref a], []⟩) (wpAny_pure ?_)
  refine wpAny_bind (wpAny_pyIter_gen (M.gen _ M.obj) ?_)
  have lim5 : s5.heap.NoLimit := M.inv.nolimit.keeps M.kp
  refine wpAny_pure ⟨plainId_quiet F.plain_all_loop _, all_loop (X := X) (A := X.A) (fp := fp) (H4 := H4) (s4 := s4) (Qt := fun H => Q (.bl true) H) (Qf := fun H => Q (.bl false) H) hr.hd hr.depth (fun b s' H' hos hb un hok q => ?_) (m0 + 1) s5 (M.gen _ M.obj) lim5 ⟨_, M.gs, ?_⟩⟩
  · show EP X pins σ Q (.bool b) s'
    refine ⟨.bl b, H', M.inv.call' (ch := fp) hos un hok hb fun b hb => ⟨(M.fpo b hb).1.2.2.2.1, (M.fpo b hb).1.2.1, (M.fpo b hb).1.2.2.2.2.1, (M.fpo b hb).1.2.2.2.2.2⟩, rfl, ?_⟩
    cases b with
    | true => exact q
    | false => exact q
  · refine gx_run ok hcell hco hN M hg ht he w0 turn (A := X.A.in1.in1) (s6 := s5.setGen gi .running) ?_ M.inv.ok.frames (fun S hs => by cases hs) trivial rfl (allBare_setGen M.bare rfl) fun b o e => e
    exact ⟨hr.hd, by have := hr.dp; show X.A.depth + 3 * (k + 1) + 5 < _; omega, by have := hr.un; show X.A.units + 1 + 1 + 16 * (k + 1) + 200 < _; omega⟩

theorem pe_tupG {c P : Addr} {elt tg iter : Expr} {ifs : List Expr} {scope : Scope} {own : List (Str × Nat)} {gpos p pos : Pos} {wi : TI} {g : TG} {tt : TT} {te : TE} {k : Nat}
    (hr : Room (k + 2) X.A) (hgl : Gl X "tuple") (hmg : X.mg "tuple" = none) (TB : TabB X.base X.mg c P) (hcode : X.env.code = .ref c) (hN : X.N.Nodup) (hi : PI X tg iter wi) (ok : BlkOk X.N X.env.scope scope own)
    (hg : ∀ (A : Around) (s : Shared) (H : Hp) (C : Addr) (cl : List (Str × Addr)) (code : Value) (fp : List Addr) (pn : List (Addr × Obj)), Room k A → PG (gxC X A s H (genEnv scope cl C code builtinsNs X.env) fp pn) tg g)
    (ht : ∀ (A : Around) (s : Shared) (H : Hp) (C : Addr) (cl : List (Str × Addr)) (code : Value) (fp : List Addr) (pn : List (Addr × Obj)), Room k A → PTs (gxC X A s H (genEnv scope cl C code builtinsNs X.env) fp pn) ifs tt)
    (he : ∀ (A : Around) (s : Shared) (H : Hp) (C : Addr) (cl : List (Str × Addr)) (code : Value) (fp : List Addr) (pn : List (Addr × Obj)), Room k A → PE (gxC X A s H (genEnv scope cl C code builtinsNs X.env) fp pn) elt te)
    (hcell : ∀ y ∈ scope.names, y.2 ≠ .cell := by decide) (h0 : scope.names.lookup (".0" : Str) = some NameKind.local := by rfl) (hco : scope.isCoroutine = false := by rfl) (hs : ∀ v, genFold iter X.env v = pure v := by intro _; rfl)
    (hst : starEach [.GeneratorExp elt [⟨tg, iter, ifs, 0⟩] scope gpos] X.env = (false, eval (.GeneratorExp elt [⟨tg, iter, ifs, 0⟩] scope gpos) X.env) :: starEach [] X.env := by rfl) :
    PE X (.Call (.Name "tuple" p) [.GeneratorExp elt [⟨tg, iter, ifs, 0⟩] scope gpos] [] pos) (tTupG P wi g tt te (own.map (·.2))) := by
  constructor
  intro pins s σ H Q I h
  refine wpAny_Call_Name_kw (ld_blt I hgl hmg (by decide +kernel : bootBuiltins "tuple" = some (.type "tuple")) ?_)
  refine PyProof.Rows.callWith_type1 ?_ hst (by rfl)
  rw [hst]
  show wpAny _ _ (spliced ((false, eval (.GeneratorExp elt [⟨tg, iter, ifs, 0⟩] scope gpos) X.env) :: backTo pos (starEach [] X.env))) _ _ s
  refine Calls.spliced_cons (gx_eval hr TB hcode ok hcell h0 hco hi hs I h fun J H4 s4 it fp tn code a gi go s5 hR M => ?_)
  refine Calls.spliced_nil ?_
  obtain ⟨W, ⟨m0, w0⟩, turn⟩ := hR
  have lim5 : s5.heap.NoLimit := M.inv.nolimit.keeps M.kp
  have hTI : s5.TypeIs (.ref a) "generator" := (M.gen _ M.obj).typeIs
  have main : ∀ {E : Value → Shared → Prop} {Qc : List Value → Shared → Prop}, (∀ (s' : Shared) (its : Array Value) (H' : Hp) (ys : List V), Vals ys its.toList → s'.os = s4.os → AllBare s'.gens → Un (frs X.stack) fp H4 H' s4.heap s'.heap → HOk X.prog X.w H' s'.heap → (ys.length ≤ sizeLine ∧ ∀ p, H' p = none → Q (.ref p) (upd H' p (.tup ys))) → Qc its.toList s') →
      wpAny (model X.prog X.w) X.A.in1.in1 (collect (.ref a)) Qc E s5 := fun {E Qc} hQc => by
    refine collect_gx (X := X) (n := m0 + 1) (En := fun ys H => ys.length ≤ sizeLine ∧ ∀ p, H p = none → Q (.ref p) (upd H p (.tup ys))) (fp := fp) (H4 := H4) (s4 := s4) hr.hd hr.depth (M.gen _ M.obj) lim5 M.gs M.bare (fun s6 hS6 hk6 hos6 hb6 => ?_) hQc
    have hSa : s5.heap.objs.size ≠ a := Nat.ne_of_gt M.hi
    obtain ⟨cS, eS⟩ := hS6
    refine gx_run (G := gTupG s5.heap.objs.size (fun ys H => ys.length ≤ sizeLine ∧ ∀ p, H p = none → Q (.ref p) (upd H p (.tup ys)))) ok hcell hco hN M hg ht he w0 turn (A := X.A.in1.in1.in1.in1) (s6 := s6) ?_ M.inv.ok.frames (fun S hs => ?_) ⟨_, _, eS, .nil⟩ hos6 hb6 hk6
    · exact ⟨hr.hd, by have := hr.dp; show X.A.depth + 3 * (k + 1) + 5 < _; omega, by have := hr.un; show X.A.units + 1 + 1 + 1 + 1 + 16 * (k + 1) + 200 < _; omega⟩
    · rw [List.mem_singleton.mp hs]
      exact ⟨Nat.lt_trans M.lo M.hi, hSa, _, eS, fun v z => by cases z⟩
  refine callType_codes (Q₁ := fun obj s₁ => s₁.TypeIs obj "tuple" ∧ EP X pins σ Q obj s₁) F.called_tuple (F.typeCall_tuple_1 _) F.entry_object_init (?_) fun obj s₁ h₁ => ?_
  · refine codeAny_of_tree ?_
    show wpAny _ X.A.in1.in1 (do checkBuiltinCall "tuple.__new__" ⟨[.type "tuple", .ref a], []⟩; again (.builtin "tuple.__new__" ⟨[.type "tuple", .ref a], []⟩)) _ _ s5
    refine wpAny_bind (wpAny_of_eq (F.newCall_tuple_1 (.ref a)) (wpAny_pure ⟨plainId_quiet F.plain_tuple_new _, entered F.entry_tuple_new F.plain_tuple_new ?_⟩))
    have isTup := sub_tuple_self
    have itsInit := init_tuple_lookup
    have here := madeHere_tuple
    wp_walk using wpAny_typeOf hTI, main
    intro s' its H' ys r hos hb un hok ⟨hlen, q⟩
    show wpAny _ _ (Builtin.Tuple.tupleExact its.toList.toArray >>= fun v => ret v) _ _ _
    simp only [Builtin.Tuple.tupleExact]
    have e : its.toList.toArray = its := by simp
    rw [e]
    have hl : ys.length = its.size := by
      rw [← Array.length_toList]
      exact Vals.length r
    refine wpAny_bind (wpAny_newObj_type ?_ (by show its.size ≤ sizeLine; omega))
    refine wpAny_pure ?_
    have isT : Shared.TypeIs { s' with heap := s'.heap.push { cls := .type "tuple", data := .seq its } } (.ref s'.heap.objs.size) "tuple" := ⟨_, Heap.get?_push_size _ rfl, rfl⟩
    refine ⟨isT, ?_⟩
    have I7 : Inv X pins σ H' s' := M.inv.call' (ch := fp) hos un hok hb fun b hb => ⟨(M.fpo b hb).1.2.2.2.1, (M.fpo b hb).1.2.1, (M.fpo b hb).1.2.2.2.2.1, (M.fpo b hb).1.2.2.2.2.2⟩
    have hf : H' s'.heap.objs.size = none := I7.hok.fresh (Nat.le_refl _)
    refine ⟨.ref s'.heap.objs.size, upd H' s'.heap.objs.size (.tup ys), I7.laid (t' := s'.toks) (fun b u e => Heap.get?_push_of_some _ e) (Nat.le_refl _) ⟨hlen, its.toList, r, ⟨_, Heap.get?_push_size _ rfl, rfl, 0, by rw [e]⟩⟩, rfl, q _ hf⟩
  · exact ⟨h₁.1, F.args_object_init_2 obj _, object_init_meets F.called_tuple.init.lookup F.called_tuple.made (by decide) X.prog X.w X.A.in1 _ s₁ ⟨h₁.1, rfl, h₁.2⟩⟩
end
end Gx
namespace Bw
open PySem
def topS (i : Nat) : Stmt := PySem.Challenge.pw_boxwitness_k04_runs_by_names.main.body.getD i (.Pass ⟨0, 0, 0, 0⟩)
abbrev s_is_number : Stmt := topS 7
abbrev s_is_tuple_of : Stmt := topS 8
abbrev s_are_values : Stmt := topS 9
abbrev s_check_program : Stmt := topS 15
abbrev s_head_can_be : Stmt := topS 16
abbrev s_row_can_be : Stmt := topS 17
abbrev s_names_of : Stmt := topS 18
abbrev s_handed : Stmt := topS 19
abbrev s_at_end : Stmt := topS 20
abbrev s_next_row : Stmt := topS 21
abbrev s_cell_of : Stmt := topS 24
abbrev s_do_moves : Stmt := topS 25
abbrev s_m_init : Stmt := L2.inClass (topS 29) 0
abbrev s_m_unknown : Stmt := L2.inClass (topS 29) 1
abbrev s_m_do_row : Stmt := L2.inClass (topS 29) 2
abbrev s_m_eat : Stmt := L2.inClass (topS 29) 3
abbrev s_made_of : Stmt := topS 30
abbrev s_told_of : Stmt := topS 31
abbrev s_check_given : Stmt := topS 32
abbrev s_run : Stmt := topS 33
abbrev s_begun : Stmt := topS 35
abbrev s_take : Stmt := topS 36
abbrev s_alike : Stmt := topS 37
abbrev s_row : Stmt := topS 38
abbrev s_program : Stmt := topS 39
abbrev s_law_frame : Stmt := topS 40
abbrev s_law_homes : Stmt := topS 41
abbrev s_law_group : Stmt := topS 42
abbrev s_law_choice : Stmt := topS 43
abbrev s_law_fits : Stmt := topS 44
abbrev s_lrun : Stmt := topS 45
abbrev s_law : Stmt := topS 46
end Bw
namespace Bw
open PySem PySem.Spec PyProof.Rows L2 GxR
/-! ### heaps: what may change -/
structure Ext (m : Addr → Prop) (H H' : Hp) : Prop where
  tup : ∀ a xs, H a = some (.tup xs) → H' a = some (.tup xs)
  oth : ∀ a o, ¬ m a → (∀ ps, o ≠ .tbl ps) → H a = some o → H' a = some o
  tab : ∀ P, TabG H P → TabG H' P
  dom : ∀ a, H' a = none → H a = none
theorem dom_upd {H : Hp} {p a : Addr} {o : HO} (e : upd H p o a = none) : H a = none := by
  by_cases z : a = p
  · rw [z, upd_same] at e
    cases e
  · rw [upd_ne z] at e
    exact e
abbrev no : Addr → Prop := fun _ => False
theorem Ext.refl (m : Addr → Prop) (H : Hp) : Ext m H H := ⟨fun _ _ h => h, fun _ _ _ _ h => h, fun _ h => h, fun _ h => h⟩
theorem Ext.trans {m : Addr → Prop} {H H1 H2 : Hp} (a : Ext m H H1) (b : Ext m H1 H2) : Ext m H H2 :=
  ⟨fun x xs h => b.tup x xs (a.tup x xs h), fun x o n t h => b.oth x o n t (a.oth x o n t h), fun P h => b.tab P (a.tab P h), fun x h => a.dom x (b.dom x h)⟩
theorem Ext.mono {m m' : Addr → Prop} {H H' : Hp} (a : Ext m H H') (h : ∀ x, m x → m' x) : Ext m' H H' := ⟨a.tup, fun x o n t e => a.oth x o (fun z => n (h x z)) t e, a.tab, a.dom⟩
theorem Ext.of0 {m : Addr → Prop} {H H' : Hp} (a : Ext no H H') : Ext m H H' := a.mono fun _ z => z.elim
theorem Ext.new {m : Addr → Prop} {H : Hp} {p : Addr} {o : HO} (h : H p = none) : Ext m H (upd H p o) :=
  ⟨fun x xs e => by rw [upd_ne (ne_of_none e h)]; exact e, fun x o' _ _ e => by rw [upd_ne (ne_of_none e h)]; exact e, fun P ⟨ps, e, t⟩ => ⟨ps, by rw [upd_ne (ne_of_none e h)]; exact e, t⟩, fun a e => dom_upd e⟩
theorem Ext.put {m : Addr → Prop} {H : Hp} {x : Addr} {o o' : HO} (e : H x = some o) (hm : m x) (h1 : ∀ xs, o ≠ .tup xs) (h2 : ∀ ps, o ≠ .tbl ps) : Ext m H (upd H x o') :=
  ⟨fun a xs h => by rw [upd_ne (ne_of h e (fun z => h1 xs z.symm))]; exact h, fun a u n _ h => by rw [upd_ne (fun z => n (by rw [z]; exact hm))]; exact h,
    fun P ⟨ps, h, t⟩ => ⟨ps, by rw [upd_ne (ne_of h e (fun z => h2 ps z.symm))]; exact h, t⟩, fun a e => dom_upd e⟩
theorem Ext.tbd {m : Addr → Prop} {H H' : Hp} {P : Addr} (t : TabG H P) (h : Tabbed P H H') : Ext m H H' := by
  obtain ⟨ps, e, t1⟩ := t
  refine ⟨fun a xs q => ?_, fun a o _ n q => ?_, fun P' ⟨ps', e', t'⟩ => ?_, fun a q => ?_⟩
  · rw [h.2 a (ne_of q e (by intro z; cases z))]; exact q
  · rw [h.2 a (ne_of q e (n ps))]; exact q
  · by_cases z : P' = P
    · rw [z]; exact h.1
    · exact ⟨ps', by rw [h.2 P' z]; exact e', t'⟩
  · by_cases z : a = P
    · obtain ⟨ps2, e2, _⟩ := h.1
      rw [z, e2] at q
      cases q
    · rw [h.2 a z] at q
      exact q
/-- an object of one's own is written -/
theorem Ext.own {m : Addr → Prop} {H0 H : Hp} {D : Addr} {o : HO} (e : Ext m H0 H) (n : H0 D = none) : Ext m H0 (upd H D o) :=
  ⟨fun x xs h => by rw [upd_ne (ne_of_none h n)]; exact e.tup x xs h, fun x u nm t h => by rw [upd_ne (ne_of_none h n)]; exact e.oth x u nm t h,
    fun P hP => by
      obtain ⟨ps, h, t⟩ := e.tab P hP
      obtain ⟨ps0, h0, _⟩ := hP
      exact ⟨ps, by rw [upd_ne (ne_of_none h0 n)]; exact h, t⟩, fun x h => e.dom x (dom_upd h)⟩
/-- what is new once stays apart from what stood -/
theorem Ext.lst {m : Addr → Prop} {H H' : Hp} (a : Ext m H H') {l : Addr} {xs : List V} (n : ¬ m l) (h : H l = some (.lst xs)) : H' l = some (.lst xs) := a.oth l _ n (fun _ z => by cases z) h
theorem Ext.sqL {m : Addr → Prop} {K : PySem.W.Frag} {H H' : Hp} (a : Ext m H H') {l : Addr} {xs : List V} (n : ¬ m l) (h : SqL K H l xs) : SqL K H' l xs := by
  rcases h with (h | ⟨locked, h⟩) | h
  · exact .inl (.inl (a.lst n h))
  · exact .inl (.inr ⟨locked, a.oth l _ n (fun _ z => by cases z) h⟩)
  · exact .inr h
/-- which built-ins are still the built-ins -/
structure Bt (mg : Str → Option Value) : Prop where
  len : mg "len" = none
  list : mg "list" = none
  int : mg "int" = none
  tuple : mg "tuple" = none
  dict : mg "dict" = none
  range : mg "range" = none
  min : mg "min" = none
  isinstance : mg "isinstance" = none
  bool : mg "bool" = none
  str : mg "str" = none
  all : mg "all" = none
  zip : mg "zip" = none
  enumerate : mg "enumerate" = none
/-- a def of the text, as callers want it -/
structure Df (K : PySem.W.Frag) (mg : Str → Option Value) (x : Str) (st : Stmt) (ps : List Str) (f : Addr) (fd : FuncData) : Prop where
  F : Fun K x x st f fd
  b : Binds K fd ps []
  g : mg x = some (.ref f)
theorem pcall {X : Cx} {x : Str} {st : Stmt} {ps : List Str} {f : Addr} {fd : FuncData} {k : Nat} {sp : Sp} {e : Expr} {es : List Expr} {t : TA} {p pos : Pos} (D : Df X.K X.mg x st ps f fd) (G : FnOk X.prog X.w X.K X.mg X.base CX0 k f fd ps sp) (hr : Room k X.A) (ha : PA X (e :: es) t) (hg : Gl X x := by rfl)
    (hdb : (x == ("__debug__" : Str)) = false := by decide) (he : starEach (e :: es) X.env = (false, eval e X.env) :: starEach es X.env := by rfl) (hpl : (backTo pos (starEach es X.env)).any (·.1) = false := by rfl) : PE X (.Call (.Name x p) (e :: es) [] pos) (tCall sp [] E0 t) :=
  pe_call G hr hg D.g D.F.kp D.b .nil pass0 ha hdb he hpl
theorem SqT.of {K : PySem.W.Frag} {H : Hp} {a : Addr} {xs : List V} (h : H a = some (.tup xs)) : SqT K H a xs := .inl (.inl h)
theorem SqL.of {K : PySem.W.Frag} {H : Hp} {a : Addr} {xs : List V} (h : H a = some (.lst xs)) : SqL K H a xs := .inl (.inl h)
theorem small_lt {n k : Nat} (h : n ≤ k) (hk : k ≤ 100000) : n < sizeLine := Nat.lt_of_le_of_lt (Nat.le_trans h hk) (by decide)
end Bw
set_option maxHeartbeats 3000000
namespace Bw
open PySem PySem.Spec PyProof.Rows L2 GxR
/-! ### d.update(e), both of them dicts that are tracked -/
def rUpdate : V → List V → Hp → VK → Prop := fun x vs H Q => ∃ (d o : Addr) (kvs more : List (Key × V)), x = .ref d ∧ vs = [.ref o] ∧ H d = some (.dK kvs) ∧ H o = some (.dK more) ∧ d ≠ o ∧ kvs.length + more.length ≤ sizeLine ∧ Q .non (upd H d (.dK (mergeK kvs more)))
theorem mt_update {X : Cx} : MtM X "dict.update" rUpdate := by
  intro pins s σ H x args v us Q I rx rv h
  obtain ⟨d, o, kvs, more, rfl, rfl, hd, ho, ne, few, q⟩ := h
  obtain rfl : v = .ref d := rx
  obtain ⟨u, rfl, ru⟩ := rv.one
  obtain rfl : u = .ref o := ru
  obtain ⟨_, low1, ws, kw, dw⟩ := dk_of I.hok hd
  obtain ⟨_, low2, ms, km, dm⟩ := dk_of I.hok ho
  have l1 := kw.length
  have l2 := km.length
  refine call_meetsIn PySem.F.slot_dict_update dw.typeIs PySem.F.entry_dict_update (PySem.F.args_dict_update_2 _ _) (meets_dict_update (mixKind X.prog X.w) d o ne low2) ⟨ws, ms, dw, dm, by omega, fun h' new _ but => ?_⟩
  have few' : (mergeK kvs more).length ≤ sizeLine := Nat.le_trans (length_mergeK more kvs) few
  refine ⟨.non, upd H d (.dK (mergeK kvs more)), d_write (t' := s.toks) I (by rw [hd]; trivial) but ?_ (dk_new few' low1 (KV.merge km kw) new), rfl, q⟩
  exact new.elim fun ob z => z.elim fun _ z => z.elim fun _ z => ⟨ob, z.1⟩
/-! ### xs[:c] = ys -/
section
variable {A : Around} {E : Value → Shared → Prop} {s : Shared} {prog : Program} {w : World}
theorem front_bounds {c n : Nat} (h : c ≤ n) : sliceBounds none (some (c : Int)) none n = (0, (c : Int), 1) := by
  have nn : ¬ (c : Int) < 0 := by omega
  simp only [sliceBounds, Option.getD_none, nn, if_false, if_true, show (1 : Int) > 0 by decide]
  congr 2
  omega
theorem store_front {l b sl : Addr} {items new : Array Value} {n n2 c : Nat} {vu : Value} {Q : Unit → Shared → Prop}
    (e : s.heap.get? l = some { cls := .type "list", data := .seq items n }) (e2 : s.heap.get? b = some { cls := .type "list", data := .seq new n2 }) (ne : l ≠ b)
    (sl_ : s.heap.IsSliceOf sl .none vu .none) (pu : IsPart vu (some (c : Int))) (hc : c ≤ items.size) (few : items.size + new.size ≤ sizeLine)
    (h : Q () { s with heap := s.heap.update l (Obj.mapSeq fun xs => xs.extract 0 0 ++ new ++ xs.extract c xs.size) }) : wpAny (model prog w) A (setItem (.ref l) (.ref sl) (.ref b)) Q E s := by
  have isL : s.heap.IsList l items := PySem.IsL.isList e
  have isB : s.heap.IsList b new := PySem.IsL.isList e2
  obtain ⟨so, hso, hcls, hdat⟩ := id sl_
  have isS : s.TypeIs (.ref sl) "slice" := ⟨so, hso, hcls⟩
  have apart : Builtin.List.listSameRef (.ref l) (.ref b) = false := by simp [Builtin.List.listSameRef, ne]
  -- the three parts of the slice, each on its own
  have noIndex : wpAny (model prog w) A.in1 (Builtin.List.listSubscript? (.ref sl)) (fun k s' => k = none ∧ s' = s) E s := by
    refine wpAny_bind (m := specialOf (.ref sl) "__index__") (wpAny_specialOf isS slice_no_index ?_)
    exact wpAny_pure ⟨rfl, rfl⟩
  have parts : wpAny (model prog w) A.in1 (Builtin.List.listSliceParts (.ref sl)) (fun t s' => t = (rawPart none, rawPart (some (c : Int)), rawPart none) ∧ s' = s) E s := by
    rw [listSliceParts_eq]
    refine wpAny_bind (m := field (.ref sl) 2) (wpAny_field hso hdat (x := .none) rfl (wpAny_bind (m := listPart .none) (wpAny_listPart .none ?_)))
    rw [if_neg (show ¬ ((rawPart none == rawInt 0) = true) from Bool.false_ne_true)]
    refine wpAny_bind (m := field (.ref sl) 0) (wpAny_field hso hdat (x := .none) rfl (wpAny_bind (m := listPart .none) (wpAny_listPart .none ?_)))
    exact wpAny_bind (m := field (.ref sl) 1) (wpAny_field hso hdat (x := vu) rfl (wpAny_bind (m := listPart vu) (wpAny_listPart pu (wpAny_pure ⟨rfl, rfl⟩))))
  have read : ∀ {a : Addr} {xs : Array Value} {k : Nat}, s.heap.get? a = some { cls := .type "list", data := .seq xs k } → wpAny (model prog w) A.in1 (Builtin.List.listItems (.ref a)) (fun ys s' => ys = xs ∧ s' = s) E s := fun {a xs k} q => by
    simp only [Builtin.List.listItems]
    exact wpAny_bind (wpAny_seqItems q rfl (wpAny_pure ⟨rfl, rfl⟩))
  have items2 : wpAny (model prog w) A.in1 (Builtin.List.listAllItems (.ref b) "must assign iterable to extended slice") (fun xs s' => xs = new ∧ s' = s) E s := by
    refine wpAny_bind (m := typeOf (.ref b)) (wpAny_typeOf isB.typeIs ?_)
    rw [if_pos (by decide)]
    exact read e2
  have all : wpAny (model prog w) A.in1 (Builtin.«list.__setitem__» ⟨[.ref l, .ref sl, .ref b], []⟩) (fun f s' => f = .done (.ret .none) ∧ s' = { s with heap := s.heap.update l (Obj.mapSeq fun xs => xs.extract 0 0 ++ new ++ xs.extract c xs.size) }) E s := by
    show wpAny (model prog w) A.in1 (Builtin.List.listSubscript? (.ref sl) >>= _) _ E s
    refine wpAny_bind (thn noIndex fun k s' ⟨ek, es⟩ => ?_)
    subst ek es
    refine wpAny_bind (m := typeOf (.ref sl)) (wpAny_typeOf isS ?_)
    rw [if_neg (by decide)]
    refine wpAny_bind (m := Builtin.List.listSliceParts (.ref sl)) (thn parts fun k s' ⟨ek, es⟩ => ?_)
    subst ek es
    simp only [apart, if_false, Bool.false_eq_true]
    refine wpAny_bind (m := Builtin.List.listAllItems (.ref b) "must assign iterable to extended slice") (thn items2 fun zs s' ⟨ey, es⟩ => ?_)
    subst ey es
    refine wpAny_bind (m := Builtin.List.listItems (.ref l)) (thn (read e) fun ys s' ⟨ey, es⟩ => ?_)
    subst ey es
    refine wpAny_bind (wpAny_of_eq ((sliceIndices_raw none (some (c : Int)) none ys.size (by simp)).trans (congrArg (pure : Int × Int × Int → Sem (Int × Int × Int)) (front_bounds hc))) ?_)
    show wpAny (model prog w) A.in1 (if ((1 : Int) == 1) = true then _ else _) _ E s'
    rw [if_pos (by decide)]
    refine wpAny_bind (m := rule _) (wpAny_rule ?_)
    simp only [notLongL few, if_false, Bool.false_eq_true]
    have top : (max (0 : Int) (c : Int)).toNat = c := by omega
    refine wpAny_bind (m := updateSeq l (fun xs => xs.extract 0 (0 : Int).toNat ++ zs ++ xs.extract (max (0 : Int) (c : Int)).toNat xs.size)) ?_
    rw [top]
    refine wpAny_updateSeq (hz := Nat.le_trans (Nat.le_add_right _ _) few) (_hz' := ?_) e rfl ?_
    · exact wpAny_bind (m := letGo _) (wpAny_letGo (wpAny_pure ⟨rfl, rfl⟩))
    · show (ys.extract 0 0 ++ zs ++ ys.extract c ys.size).size ≤ sizeLine + 1
      simp only [Array.size_extract, Array.size_append]
      omega
  simp only [setItem]
  refine wpAny_holding (wpAny_bind (m := sequenceKey (.ref l) (.ref sl) "__setitem__") (wpAny_sequenceKey isL.typeIs (by decide) ?_))
  refine wpAny_bind (m := callSpecial? (.ref l) "__setitem__" [.ref sl, .ref b]) (wpAny_callSpecial?_slot (name := Str.ofString "__setitem__") isL.typeIs slot_list_setitem (wpAny_call_entry slot_list_setitem isL.typeIs entry_list_setitem ?_ (args_list_setitem _ _ _)))
  refine thn all fun f s' ⟨ef, es⟩ => ?_
  subst ef es
  exact ⟨.none, rfl, wpAny_pure h⟩
end
section
variable {X : Cx}
/-- the target o[:e], what is stored a list of its own -/
def gFront (to te : TE) : TG := fun v σ H Q => to σ H fun x H1 => te σ H1 fun y H2 => ∃ (l b : Addr) (xs ys : List V) (c : Nat), x = .ref l ∧ v = .ref b ∧ y = .int c ∧ H2 l = some (.lst xs) ∧ H2 b = some (.lst ys) ∧ l ≠ b ∧ c ≤ xs.length ∧
  xs.length + ys.length ≤ sizeLine ∧ Q σ (upd H2 l (.lst (ys ++ xs.drop c)))
theorem pg_front {o e : Expr} {to te : TE} {p2 pos : Pos} (ho : PE X o to) (he : PE X e te) : PG X (.Subscript o (.Slice none (some e) none p2) pos) (gFront to te) := by
  constructor
  intro pins s σ H v u Q I r h
  refine wpAny_bind (m := holding [u] (eval o X.env)) (wpAny_holding (thn (ho.run pins s σ H _ I h) fun ov s1 ⟨x, H1, I1, r1, q1⟩ => ?_))
  refine wpAny_bind (m := holding [u, ov] (eval (.Slice none (some e) none p2) X.env)) (wpAny_holding (wpAny_Slice ?_))
  rw [evalPart_none]
  refine wpAny_pure ?_
  rw [evalPart_some]
  refine thn (he.run pins s1 σ H1 _ I1 q1) fun vu s2 ⟨y, H2, I2, r2, q2⟩ => ?_
  refine wpAny_pure ?_
  obtain ⟨l, b, xs, ys, c, rfl, rfl, rfl, hl, hb, ne, hc, few, q⟩ := q2
  obtain rfl : ov = .ref l := r1
  obtain rfl : u = .ref b := r
  obtain ⟨t, rfl⟩ := r2
  have I3 : Inv X pins σ H2 { s2 with heap := s2.heap.push { cls := .type "slice", data := .fields #[.none, .int c t, .none] } } := I2.kept (t' := s2.toks) fun b ob z => Heap.get?_push_of_some _ z
  obtain ⟨z1, its, n1, v1, len1, e1⟩ := I3.lstM hl
  obtain ⟨z2, its2, n2, v2, len2, e2⟩ := I3.lstM hb
  refine wpAny_bind (m := standAt pos) (wpAny_standAt (wpAny_bind (wpAny_holding (store_front (c := c) e1 e2 ne (Heap.IsSliceOf.new ..) (.int _ _) (by rw [List.size_toArray]; omega) (by rw [List.size_toArray, List.size_toArray]; omega) ?_))))
  refine wpAny_release ⟨σ, upd H2 l (.lst (ys ++ xs.drop c)), I3.lset (its' := its2 ++ its.drop c) (t' := s2.toks) hl e1 ?_ (v2.append (v1.drop c)) ?_, q⟩
  · have z := splice_eq its its2 0 c
    rw [List.take_zero, List.nil_append] at z
    exact z
  · rw [List.length_append, List.length_drop]
    omega
end
end Bw
namespace Bw
open PySem PySem.Spec PyProof.Rows L2 GxR
/-! ### enumerate(tuple) -/
set_option maxHeartbeats 1234000 in
theorem meets_enum1 {v : Value} {o : Obj} {Pz : Heap → Prop} (B : Begins v o Pz) : Meets (Builtin.«enumerate.__new__» ⟨[.type "enumerate", v], []⟩) (fun _ R s => Pz s.heap ∧
    R (.ok (.ret (.ref (s.heap.push o).objs.size))) { s with heap := (s.heap.push o).push { cls := .type "enumerate", data := .fields #[.none, .bool false, .ref s.heap.objs.size, rawInt 0, .none, .none] } }) :=
  .of_wp fun prog w A R s hs => by
    obtain ⟨hp, ge, dr, tk, os⟩ := s
    obtain ⟨at_, fin⟩ := hs
    have itself := sub_enumerate
    have begun : ∀ {A' : Around} {E' : Value → Shared → Prop} {Q' : Value → Shared → Prop}, Q' (.ref hp.objs.size) ⟨hp.push o, ge, dr, tk, os⟩ → wpAny (model prog w) A' (pyIter v) Q' E' ⟨hp, ge, dr, tk, os⟩ := fun z => B.iter prog w _ _ ⟨hp, ge, dr, tk, os⟩ _ at_ z
    wp_walk using begun
    refine wpAny_stack_any fun frames => wpAny_pure ?_
    split
    · rename_i kind _ _ _ _ _
      cases (kind == Value.type "enumerate") <;> (wp_walk using begun; exact ⟨_, rfl, fin⟩)
    · wp_walk using begun
      exact ⟨_, rfl, fin⟩
theorem enum_made {prog : Program} {w : World} {A : Around} {E : Value → Shared → Prop} {s : Shared} {t : Addr} {items : Array Value} {Q : Value → Shared → Prop} (ht : s.heap.IsTuple t items)
    (fin : ∀ h', IsEnum h' (s.heap.objs.size + 1) s.heap.objs.size 0 .none → h'.IsTupleIter s.heap.objs.size t 0 → (∀ b o, s.heap.get? b = some o → h'.get? b = some o) → Q (.ref (s.heap.objs.size + 1)) { s with heap := h' }) :
    wpAny (model prog w) A (call (.type "enumerate") [.ref t]) Q E s := by
  have B := begins_tuple t items
  refine callType_new F.called_enumerate (by decide) (F.typeCall_enumerate_1 _) (F.newCall_enumerate_1 _) (fun ob => F.args_object_init_2 ob _) F.entry_enumerate_new (meets_enum1 B) ⟨ht, ?_⟩
  generalize hI : ({ cls := .type "tuple_iterator", data := .fields #[.ref t, .int 0 0] } : Obj) = oI at B
  have z1 : (s.heap.push oI).objs.size = s.heap.objs.size + 1 := Heap.size_push ..
  have made := Heap.get?_push_size (s.heap.push oI) (o := { cls := .type "enumerate", data := .fields #[.none, .bool false, .ref s.heap.objs.size, rawInt 0, .none, .none] }) rfl
  rw [z1] at made
  show _ ∧ _
  rw [z1]
  refine ⟨⟨_, made, rfl⟩, fin _ made ⟨oI, Heap.get?_push_of_some _ (Heap.get?_push_size _ B.free), by rw [← hI], by rw [← hI]; rfl⟩ fun b o q => ?_⟩
  exact Heap.get?_push_of_some _ (Heap.get?_push_of_some _ q)
theorem wpAny_pyNext_enum_endT {prog : Program} {w : World} {A : Around} {E : Value → Shared → Prop} {s : Shared} {e it t : Addr} {i : Nat} {items : Array Value} {old : Value} {Q : Option Value → Shared → Prop} (hh : A.handled = none) (he : IsEnum s.heap e it i old) (hit : s.heap.IsTupleIter it t i) (ht : s.heap.IsTuple t items)
    (out : items[i]? = none) (fin : ∀ h', Heap.ExtBut it s.heap h' → Q none { s with heap := h' }) : wpAny (model prog w) A (pyNext (.ref e)) Q E s := by
  have kind : s.TypeIs (.ref e) "enumerate" := ⟨_, he, rfl⟩
  unfold pyNext
  refine wpAny_bind (wpAny_attempt (wpAny_callSpecial?_slot (name := Str.ofString "__next__") kind F.slot_enumerate_next (wpAny_call_entry F.slot_enumerate_next kind F.entry_enumerate_next ?_ (F.args_enumerate_next_1 _))))
  refine wpAny_bind (m := field (.ref e) 2) (wpAny_field he rfl (x := .ref it) rfl (wpAny_bind (wpAny_nextOf_tuple_end hh hit ht out fun h' x far ⟨o, oAt, oIs⟩ => ?_)))
  exact wpAny_bind (wpAny_isInstance (T := "StopIteration") (b := true) ⟨o, oAt, oIs⟩ isSubtype_stop (wpAny_pure (fin _ far)))
def IteT (K : PySem.W.Frag) (a : Addr) : It where
  go i H := ∃ (xs : List V) (x : V), SqT K H a xs ∧ xs[i]? = some x
  yld i H v H' := ∃ t x, v = .ref t ∧ H t = none ∧ H' = upd H t (.tup [.int (i : Nat), x]) ∧ ∀ xs, SqT K H a xs → xs[i]? = some x
  stop i H := ∃ xs : List V, SqT K H a xs ∧ xs.length ≤ i
theorem enumT_turn {P : Program} {w : World} {K : PySem.W.Frag} {elts : List Expr} {kk : Nat} {tpos : Pos} (a e it : Addr) (n1 : e ≠ it) (n2 : a ≠ it) (n3 : e ≠ a) :
    Turn P w K (.Tuple elts kk tpos) (IteT K a) [e, it] e (fun i h => (∃ before, IsEnum h e it ((i : Nat) : Int) before) ∧ h.IsTupleIter it a i) where
  mem := by simp
  obj := fun i h st b hb => by
    obtain ⟨⟨_, there⟩, ⟨o, oAt, _, oIs⟩⟩ := st
    rcases List.mem_cons.mp hb with q | q
    · rw [q]
      exact ⟨_, there, fun v no => nomatch no⟩
    · rw [List.mem_singleton.mp q]
      exact ⟨o, oAt, fun v z => by rw [oIs] at z; cases z⟩
  keep := fun i h h' st k => by
    obtain ⟨⟨old, there⟩, iter⟩ := st
    exact ⟨⟨old, k e (by simp) _ there⟩, iter.at fun o z => k it (by simp) o z⟩
  item := by
    rintro X hP hw hK hc i pins s σ H E I hf ⟨⟨_, there⟩, iter⟩ hg
    subst hP hw hK
    obtain ⟨xs, x, isT, isX⟩ := hg
    obtain ⟨its, rv, tup, _⟩ := I.tuple isT
    obtain ⟨u, isU, ru⟩ := rv.get isX
    have isU' : its.toArray[i]? = some u := by simpa using isU
    have e1 : e < s.heap.objs.size := Heap.lt_size there
    have e2 : it < s.heap.objs.size := iter.elim fun _ q => Heap.lt_size q.1
    have apart : e ∉ [it, a] := by simp [n1, n3]
    have Dr := Draws.tuple (prog := X.prog) (w := X.w) (A := X.A.in1) (I.ok.hd hc) it a n2 its.toArray
    refine wpAny_pyNext_enum_itemD Dr there ⟨iter, tup⟩ (Array.getElem?_eq_some_iff.mp isU').1 n1 apart fun y h1 tk isY out next new _ kept => ?_
    obtain rfl : u = y := by
      have z : its.toArray[i]? = some y := isY
      rw [isU'] at z
      exact Option.some.inj z
    refine ⟨_, rfl, wpAny_letOwnedTupleGo_enum (s := { s with heap := h1, toks := tk + 1 }) out fun h2 back same => ?_⟩
    have new2 : h2.get? s.heap.objs.size = some { cls := .type "tuple", data := .seq #[.int i tk, u] } := (same.2 _ (Nat.ne_of_gt e1)).trans new
    have objOk : ObjOk X.prog X.w (upd H s.heap.objs.size (.tup [.int (i : Nat), x])) h2 s.heap.objs.size (.tup [.int (i : Nat), x]) :=
      ⟨show 2 ≤ sizeLine by decide, _, .cons ⟨tk, rfl⟩ (.cons ru .nil), ⟨_, new2, rfl, 0, rfl⟩⟩
    have far : ∀ b ob, b ∉ [e, it] → s.heap.get? b = some ob → h2.get? b = some ob := fun b ob nb q => by
      rw [same.2 b (fun z => nb (by simp [z]))]
      exact kept b ob (fun z => nb (by simp [z])) (fun z => nb (by simp [z])) q
    have J := I.turnedNew (t' := tk + 1) (ch := [e, it]) far hf (Nat.le_refl _) objOk
    refine ⟨.ref s.heap.objs.size, _, J, rfl, ⟨_, x, rfl, I.hok.fresh (Nat.le_refl _), rfl, fun ys isY => by rw [I.tuple_inj isY isT]; exact isX⟩, ⟨⟨u, ?_⟩, next.1.at fun o q => (same.2 it n1.symm).trans q⟩, fun b hb => ?_⟩
    · rw [show ((i + 1 : Nat) : Int) = (i : Int) + 1 by omega]
      exact back
    · have low : b < s.heap.objs.size := by
        rcases List.mem_cons.mp hb with q | q
        · rw [q]; exact e1
        · rw [List.mem_singleton.mp q]; exact e2
      rw [upd_ne (Nat.ne_of_lt low)]
      exact (hf b hb).1
  done := by
    rintro X hP hw hK hc i pins s σ H E I hf ⟨⟨_, there⟩, iter⟩ hg
    subst hP hw hK
    obtain ⟨xs, isT, past⟩ := hg
    obtain ⟨its, rv, tup, _⟩ := I.tuple isT
    have same := rv.length
    have Dr := Draws.tuple (prog := X.prog) (w := X.w) (A := X.A.in1) (I.ok.hd hc) it a n2 its.toArray
    have out : its.toArray[i]? = none := by simp; omega
    refine wpAny_pyNext_enum_endT (I.ok.hd hc) there iter tup out fun h' far => ⟨rfl, ?_⟩
    exact I.turnedL (t' := s.toks) (ch := [e, it]) (fun b o nb q => far b o (fun z => nb (by simp [z])) q) hf
  self := fun A i s Q E st h => st.1.elim fun _ there => wpAny_pyIter_enum there h
def iEnumT (K : PySem.W.Frag) (ta : TA) : TI := fun σ H R => ta σ H fun vs H1 => ∃ a xs, vs = [.ref a] ∧ SqT K H1 a xs ∧ R (IteT K a) H1
theorem pi_enumT {X : Cx} {e : Expr} {ta : TA} {p pos tpos : Pos} {elts : List Expr} {kk : Nat} (hg : Gl X "enumerate") (hm : X.mg "enumerate" = none) (ha : PA X [e] ta) (one : starEach [e] X.env = [(false, eval e X.env)] := by rfl) :
    PI X (.Tuple elts kk tpos) (.Call (.Name "enumerate" p) [e] [] pos) (iEnumT X.K ta) := by
  constructor
  intro pins s σ H R I h
  refine Call_ (ld_blt I hg hm boot_enumerate (PyProof.Rows.callWith_type1 (thn (ha.run pos pins s σ H _ I h) fun us s1 ⟨vs, H1, I1, r1, a, xs, ev, isT, q⟩ => ?_) one rfl))
  subst ev
  obtain ⟨arg, rfl, ru⟩ := vals1 r1
  obtain rfl : arg = Value.ref a := ru
  obtain ⟨its, rv, tup, _⟩ := I1.tuple isT
  have low : a < s1.heap.objs.size := tup.elim fun _ q => Heap.lt_size q.1
  refine enum_made tup fun h' there iter kept => wpAny_pyIter_enum there ?_
  have J : Inv X pins σ H1 { s1 with heap := h' } := I1.kept (t' := s1.toks) kept
  refine ⟨s1.heap.objs.size + 1, [s1.heap.objs.size + 1, s1.heap.objs.size], _, _, H1, rfl, J, enumT_turn a (s1.heap.objs.size + 1) s1.heap.objs.size (Nat.succ_ne_self _) (Nat.ne_of_lt low) (fun z => absurd low (by rw [← z]; exact Nat.not_lt.mpr (Nat.le_succ _))), ⟨⟨.none, there⟩, iter⟩, fun b hb => ?_, q⟩
  have up : s1.heap.objs.size ≤ b := by
    rcases List.mem_cons.mp hb with at1 | at0
    · rw [at1]; exact Nat.le_succ _
    · rw [List.mem_singleton.mp at0]; exact Nat.le_refl _
  exact I1.fpOk up (I1.hok.fresh up)
/-- the walk over enumerate(tuple) -/
theorem for_enumT {K : PySem.W.Frag} {a : Addr} {xs : List V} {g : TG} {tb : TS} {D : Ends} {σ : L2.St} {H : Hp} (Pv : Nat → L2.St → Hp → Prop) (h0 : Pv 0 σ H) (hq : ∀ i σ H, Pv i σ H → SqT K H a xs)
    (hs : ∀ (i : Nat) (x : V) (t : Addr) (σ : L2.St) (H : Hp), xs[i]? = some x → Pv i σ H → H t = none → g (.ref t) σ (upd H t (.tup [.int (i : Nat), x])) fun σ2 H2 => tb { D with nx := Pv (i + 1), ct := Pv (i + 1), bk := D.nx } σ2 H2) (hd : ∀ σ H, Pv xs.length σ H → D.nx σ H) :
    ∃ W : Nat → Nat → L2.St → Hp → Prop, (∃ m, W 0 m σ H) ∧ ∀ i m σ H, W i m σ H → ((IteT K a).stop i H ∧ D.nx σ H) ∨ ((IteT K a).go i H ∧ ∃ N : L2.St → Hp → Prop, (∀ σ' H', N σ' H' → ∃ m', m' < m ∧ W (i + 1) m' σ' H') ∧ ∀ v H', (IteT K a).yld i H v H' → g v σ H' fun σ2 H2 => tb { D with nx := N, ct := N, bk := D.nx } σ2 H2) := by
  refine ⟨fun i m σ H => m = xs.length - i ∧ i ≤ xs.length ∧ Pv i σ H, ⟨_, rfl, Nat.zero_le _, h0⟩, ?_⟩
  rintro i m σ H ⟨rfl, le, here⟩
  have isT := hq i σ H here
  by_cases last : i = xs.length
  · subst last
    exact .inl ⟨⟨xs, isT, Nat.le_refl _⟩, hd σ H here⟩
  · have lt : i < xs.length := by omega
    refine .inr ⟨⟨xs, xs[i], isT, List.getElem?_eq_getElem lt⟩, Pv (i + 1), fun σ' H' n => ⟨xs.length - (i + 1), by omega, rfl, by omega, n⟩, ?_⟩
    rintro v H' ⟨t, x, rfl, nt, rfl, isX⟩
    exact hs i x t σ H (isX xs isT) here nt
end Bw
namespace Bw
open PySem PySem.Spec PyProof.Rows L2 GxR
/-! ### the law's own draws -/
/-- the box of draws: at b, its numbers at l -/
structure BoxAt (H : Hp) (b l : Addr) : Prop where
  ex : ∃ (L : List Int) (z : Int), H b = some (.lst [.ref l, .int z]) ∧ H l = some (.lst (L.map V.int)) ∧ 0 ≤ z ∧ z < 2147483647
theorem BoxAt.ne {H : Hp} {b l : Addr} (h : BoxAt H b l) : b ≠ l := by
  obtain ⟨L, z, h1, h2, _⟩ := h.ex
  refine ne_of h1 h2 fun e => ?_
  cases L with
  | nil => cases e
  | cons x r =>
    have e1 : [V.ref l, V.int z] = (x :: r).map V.int := HO.lst.inj e
    rw [List.map_cons] at e1
    cases e1
abbrev bx (b l : Addr) : Addr → Prop := fun x => x = b ∨ x = l
theorem BoxAt.ext {m : Addr → Prop} {H H' : Hp} {b l : Addr} (h : BoxAt H b l) (e : Ext m H H') (n1 : ¬ m b) (n2 : ¬ m l) : BoxAt H' b l := by
  obtain ⟨L, z, h1, h2, h3⟩ := h.ex
  exact ⟨L, z, e.lst n1 h1, e.lst n2 h2, h3⟩
theorem dpInts {K : PySem.W.Frag} {H : Hp} : ∀ L : List Int, DpAll K H (L.map V.int) (L.map PyData.int)
  | [] => .nil
  | x :: r => .cons (.int x) (dpInts r)
theorem shInts (L : List Int) : SeqAt.shaped (.list (L.map PyData.int)) = true := PySem.W.ke_shaped_ints L
theorem ixN_nat {n j : Nat} (h : j < n) : ixN n (j : Int) = some j := by
  unfold ixN
  rw [if_pos (by omega), if_pos (by omega), Int.toNat_natCast]
section
variable {base : Heap} {K : PySem.W.Frag} {mg : Str → Option Value} {P : Program} {w : World}
def spBegun (K : PySem.W.Frag) : Sp := fun vs H Q _ => ∃ (a : Addr) (ns : List Int), vs = [.ref a] ∧ SqL K H a (ns.map V.int) ∧ ns.length ≤ 63 ∧ ∀ H' b l, H b = none → H l = none → BoxAt H' b l → Ext no H H' → Q (.ref b) H'
theorem scBegun : FnScope ["_law_script", "_law_stirred", "_law_cell"] ["_law_script"] (defScope s_begun) := ⟨rfl, rfl, rfl, by decide +kernel, rfl, by decide +kernel, by decide +kernel⟩
theorem ok_begun {f : Addr} {fd : FuncData} (D : Df K mg "_law_begun" s_begun ["_law_script"] f fd) (B : Bt mg) : FnOk P w K mg base CX0 1 f fd ["_law_script"] (spBegun K) := by
  refine D.F.ok scBegun (fun vs H Q E h => ?_) (fun cdv A outer s H vs Q E hr h => ?_)
  · obtain ⟨a, ns, rfl, _⟩ := h
    rfl
  · obtain ⟨a, ns, rfl, hS, few, q⟩ := h
    refine ⟨_, pss_cons (ps_set (i := 1) scBegun.nd rfl (.inl rfl) pe_int)
      (pss_cons (ps_for PassesOwn.never rfl (pi_list (pv 0)) (pg_name (i := 2) scBegun.nd rfl (.inl rfl))
        (pss_one (ps_set (i := 1) scBegun.nd rfl (.inl rfl) (pe_op op_mod (pe_op op_add (pe_op op_add (pe_op op_mul (pv 1) pe_int) (pe_op op_mul (pe_op op_mod (pv 2) pe_int) pe_int)) pe_int) pe_int))))
      (pss_one (ps_ret (pe_lst (pa_cons (pe_callTy call_list_of (by rfl) B.list (by decide +kernel) (pa_cons (pv 0) pa_nil))
        (pa_cons (pe_op op_mul (pv 1) (pe_callTy call_int1 (by rfl) B.int (by decide +kernel) (pa_cons (pe_cmpR op_gt (pe_callB call_len_seq (by rfl) B.len PySem.boot_len (pa_cons (pv 0) pa_nil)) pe_int (nomark _)) pa_nil))) pa_nil)))))), ?_⟩
    refine ⟨_, rfl, a, rfl, ⟨_, hS⟩, for_list (K := K) (a := a) (xs := ns.map V.int) (fun i σ H2 => ∃ (z : Int) (v : Option V), σ = [some (.ref a), some (.int z), v] ∧ H2 = H ∧ 0 ≤ z ∧ z < 2147483647)
      ⟨0, none, rfl, rfl, by decide, by decide⟩ (fun i σ H2 _ ⟨_, _, _, e, _⟩ => by rw [e]; exact hS) ?_ ?_⟩
    · rintro i y σ H2 hi ⟨z, v, rfl, rfl, z0, z1⟩
      obtain ⟨c, rfl⟩ : ∃ c, y = V.int c := by
        rw [List.getElem?_map] at hi
        cases e : ns[i]? with
        | none => rw [e] at hi; cases hi
        | some z => rw [e] at hi; exact ⟨z, (Option.some.inj hi).symm⟩
      refine ⟨_, rfl, _, _, rfl, rfl, .inl ⟨by omega, by omega⟩, _, rfl, _, _, rfl, rfl, (by show (0 : Int) < 2147483647; decide), _, _, rfl, rfl, .inr ⟨by decide, by decide⟩, _, _, rfl, rfl, _, _, rfl, rfl, _, _, rfl, rfl, (by show (0 : Int) < 2147483647; decide), ?_⟩
      exact ⟨_, _, rfl, rfl, Int.emod_nonneg _ (by decide), Int.emod_lt_of_pos _ (by decide)⟩
    · rintro σ H2 ⟨z, v, rfl, rfl, z0, z1⟩
      refine ⟨_, rfl, a, _, rfl, .inl hS, fun l nl => ?_⟩
      refine ⟨_, rfl, _, rfl, a, _, rfl, .inl (Ext.sqL (Ext.new (m := no) nl) (fun z => z) hS), _, _, rfl, rfl, .inr ⟨_, rfl, _, _, rfl, rfl, .inl ⟨by omega, by omega⟩, ?_⟩⟩
      refine ⟨by show 2 ≤ sizeLine; decide, fun b nb => ?_⟩
      have nbl : b ≠ l := fun e => by rw [e, upd_same] at nb; cases nb
      have nb' : H2 b = none := by rw [upd_ne nbl] at nb; exact nb
      refine q _ b l nb' nl ⟨ns, _, upd_same, by rw [upd_ne nbl.symm, upd_same], ?_⟩ ((Ext.new nl).trans (Ext.new nb))
      split
      · omega
      · omega
def spTake : Sp := fun vs H Q _ => ∃ (b l : Addr) (many : Int), vs = [.ref b, .int many] ∧ BoxAt H b l ∧ 0 < many ∧ many < 1073741824 ∧ ∀ H' r, 0 ≤ r → r < many → BoxAt H' b l → Ext (bx b l) H H' → Q (.int r) H'
theorem scTake : FnScope ["_law_box", "_law_many", "_law_number"] ["_law_box", "_law_many"] (defScope s_take) := ⟨rfl, rfl, rfl, by decide +kernel, rfl, by decide +kernel, by decide +kernel⟩
theorem ok_take {f : Addr} {fd : FuncData} (D : Df K mg "_law_take" s_take ["_law_box", "_law_many"] f fd) : FnOk P w K mg base CX0 1 f fd ["_law_box", "_law_many"] spTake := by
  refine D.F.ok scTake (fun vs H Q E h => ?_) (fun cdv A outer s H vs Q E hr h => ?_)
  · obtain ⟨b, l, many, rfl, _⟩ := h
    rfl
  · obtain ⟨b, l, many, rfl, bo, m0, m1, q⟩ := h
    have hu := hr.units
    refine ⟨_, pss_cons (ps_if (pt_cmpR (op_eqD hu) (pe_ix ix_list (pv 0) pe_int (fun _ _ => rfl)) (pe_lst pa_nil) (nomark _))
        (pss_cons (ps_asg (pe_op op_mod (pe_op op_mul (pe_ix ix_list (pv 0) pe_int (fun _ _ => rfl)) pe_int) pe_int) (pg_sub (pv 0) pe_int set_list))
        (pss_one (ps_ret (pe_op op_mod (pe_op op_fdiv (pe_ix ix_list (pv 0) pe_int (fun _ _ => rfl)) pe_int) (pv 1))))) pss_nil)
      (pss_cons (ps_set (i := 2) scTake.nd rfl (.inl rfl) (pe_ix ix_list (pe_ix ix_list (pv 0) pe_int (fun _ _ => rfl)) pe_int (fun _ _ => rfl)))
      (pss_cons (ps_asg (pe_op op_fdiv (pv 2) (pv 1)) (pg_sub (pe_ix ix_list (pv 0) pe_int (fun _ _ => rfl)) pe_int set_list))
      (pss_cons (ps_if (PW.pt (pw_or (pt_cmpR op_eq (pe_ix ix_list (pe_ix ix_list (pv 0) pe_int (fun _ _ => rfl)) pe_int (fun _ _ => rfl)) pe_int (nomark _)) (pw_or1 (pt_cmpR op_eq (pe_ix ix_list (pe_ix ix_list (pv 0) pe_int (fun _ _ => rfl)) pe_int (fun _ _ => rfl)) (pe_un un_neg pe_int) (nomark _)))))
        (pss_one (ps_expr (pe_bm PySem.F.plainAttrs_list PySem.F.slot_list_pop PySem.F.type_list_pop mt_popAt (pe_ix ix_list (pv 0) pe_int (fun _ _ => rfl)) (pa_cons pe_int pa_nil)))) pss_nil)
      (pss_one (ps_ret (pe_op op_mod (pv 2) (pv 1))))))), ?_⟩
    obtain ⟨L, z, h1, h2, z0, z1⟩ := bo.ex
    have nbl := bo.ne
    -- if box[0] == []
    refine ⟨_, rfl, b, _, 0, _, rfl, rfl, SqL.of h1, atI_nat (j := 0) rfl, Nat.zero_le _, fun p np => ?_⟩
    have npl : l ≠ p := ne_of_none h2 np
    have npb : b ≠ p := ne_of_none h1 np
    have k1 : (upd H p (.lst [])) b = some (.lst [.ref l, .int z]) := by rw [upd_ne npb]; exact h1
    have k2 : (upd H p (.lst [])) l = some (.lst (L.map V.int)) := by rw [upd_ne npl]; exact h2
    have ex0 : Ext (bx b l) H (upd H p (.lst [])) := Ext.new np
    refine ⟨.list (L.map PyData.int), .list [], .lst (SqL.of k2) (dpInts L), .lst (SqL.of upd_same) .nil, shInts L, rfl, _, rfl, ite2 (fun e => ?_) (fun e => ?_)⟩
    · -- the script is used up
      have hs1 := Ext.put (m := bx b l) (o' := .lst [.ref l, .int (z * 48271 % 2147483647)]) k1 (.inl rfl) (fun _ z => by cases z) (fun _ z => by cases z)
      refine ⟨_, rfl, b, _, 1, _, rfl, rfl, SqL.of k1, atI_nat (j := 1) rfl, _, _, rfl, rfl, .inl ⟨by omega, by omega⟩, _, _, rfl, rfl, (by show (0 : Int) < 2147483647; decide), ?_⟩
      refine ⟨_, rfl, b, _, 1, 1, rfl, rfl, k1, rfl, ?_⟩
      refine ⟨_, rfl, b, _, 1, _, rfl, rfl, SqL.of upd_same, atI_nat (j := 1) rfl, _, _, rfl, rfl, ⟨by decide, by decide⟩, _, rfl, _, _, rfl, rfl, m0, ?_⟩
      refine q _ _ (Int.emod_nonneg _ (by omega)) (Int.emod_lt_of_pos _ m0) ⟨L, z * 48271 % 2147483647, upd_same, by rw [upd_ne nbl.symm]; exact k2, Int.emod_nonneg _ (by decide), Int.emod_lt_of_pos _ (by decide)⟩ (ex0.trans hs1)
    · obtain ⟨x, r, rfl⟩ : ∃ x r, L = x :: r := by
        cases L with
        | nil => exact absurd rfl e
        | cons first more => exact ⟨first, more, rfl⟩
      -- number = box[0][0]
      refine ⟨_, rfl, b, _, 0, _, rfl, rfl, SqL.of k1, atI_nat (j := 0) rfl, l, _, 0, _, rfl, rfl, SqL.of k2, atI_nat (j := 0) rfl, ?_⟩
      -- box[0][0] = number // many
      refine ⟨_, rfl, _, rfl, _, _, rfl, rfl, ⟨m0, m1⟩, _, rfl, b, _, 0, _, rfl, rfl, SqL.of k1, atI_nat (j := 0) rfl, l, _, 0, 0, rfl, rfl, k2, ixN_nat (j := 0) (Nat.zero_lt_succ _), ?_⟩
      have e1 : ((x :: r).map V.int).set 0 (V.int (x / many)) = ((x / many) :: r).map V.int := rfl
      rw [e1]
      generalize hH2 : upd (upd H p (.lst [])) l (.lst (((x / many) :: r).map V.int)) = H2
      have j1 : H2 b = some (.lst [.ref l, .int z]) := by rw [← hH2, upd_ne nbl]; exact k1
      have j2 : H2 l = some (.lst (((x / many) :: r).map V.int)) := by rw [← hH2]; exact upd_same
      have ex2 : Ext (bx b l) H H2 := by
        rw [← hH2]
        exact ex0.trans (Ext.put k2 (.inr rfl) (fun _ z => by cases z) (fun _ z => by cases z))
      -- the end
      have fin : ∀ (H3 : Hp) (L3 : List Int), H3 b = some (.lst [.ref l, .int z]) → H3 l = some (.lst (L3.map V.int)) → Ext (bx b l) H H3 → Q (.int (x % many)) H3 := fun H3 L3 q1 q2 q3 =>
        q H3 _ (Int.emod_nonneg _ (by omega)) (Int.emod_lt_of_pos _ m0) ⟨L3, z, q1, q2, z0, z1⟩ q3
      have pop : atI [V.ref l, V.int z] 0 = some (.ref l) → ∃ (H3 : Hp), H3 = upd H2 l (.lst (r.map V.int)) ∧ H3 b = some (.lst [.ref l, .int z]) ∧ H3 l = some (.lst (r.map V.int)) ∧ Ext (bx b l) H H3 := fun _ =>
        ⟨_, rfl, by rw [upd_ne nbl]; exact j1, upd_same, ex2.trans (Ext.put j2 (.inr rfl) (fun _ z => by cases z) (fun _ z => by cases z))⟩
      obtain ⟨H3, eH3, p1, p2, p3⟩ := pop (atI_nat (j := 0) rfl)
      refine ⟨_, rfl, b, _, 0, _, rfl, rfl, SqL.of j1, atI_nat (j := 0) rfl, l, _, 0, _, rfl, rfl, SqL.of j2, atI_nat (j := 0) rfl, rfl, _, rfl, ite2 (fun e => ?_) (fun e => ?_)⟩
      · refine iteT ?_
        refine ⟨_, rfl, b, _, 0, _, rfl, rfl, SqL.of j1, atI_nat (j := 0) rfl, .inl ⟨rfl, _, SqL.of j2⟩, l, _, 0, 0, _, rfl, rfl, j2, by decide, by decide, (ixN_seq (ixN_nat (j := 0) (Nat.zero_lt_succ _))).1, rfl, ?_⟩
        refine ⟨_, rfl, _, rfl, _, _, rfl, rfl, m0, ?_⟩
        rw [show (List.map V.int (x / many :: r)).eraseIdx 0 = r.map V.int from rfl, ← eH3]
        exact fin H3 r p1 p2 p3
      · refine ⟨_, rfl, b, _, 0, _, rfl, rfl, SqL.of j1, atI_nat (j := 0) rfl, l, _, 0, _, rfl, rfl, SqL.of j2, atI_nat (j := 0) rfl, _, rfl, rfl, _, rfl, ite2 (fun e => ?_) (fun e => ?_)⟩
        · refine ⟨_, rfl, b, _, 0, _, rfl, rfl, SqL.of j1, atI_nat (j := 0) rfl, .inl ⟨rfl, _, SqL.of j2⟩, l, _, 0, 0, _, rfl, rfl, j2, by decide, by decide, (ixN_seq (ixN_nat (j := 0) (Nat.zero_lt_succ _))).1, rfl, ?_⟩
          refine ⟨_, rfl, _, rfl, _, _, rfl, rfl, m0, ?_⟩
          rw [show (List.map V.int (x / many :: r)).eraseIdx 0 = r.map V.int from rfl, ← eH3]
          exact fin H3 r p1 p2 p3
        · refine ⟨_, rfl, _, rfl, _, _, rfl, rfl, m0, ?_⟩
          exact fin H2 _ j1 j2 ex2
end
end Bw
namespace Bw
open PySem PySem.Spec PyProof.Rows L2 GxR
/-! ### programs -/
inductive Row where
  | put (n : Nat) (v : Int) | copy (n o : Nat) | add (n a b : Nat) | take (n a b : Nat) | less (n a b : Nat) | call (n o : Nat) | say (n : Nat) | iff (n r : Nat) | go (r : Nat) | fin
def rowV : Row → List V
  | .put n v => [.str "put", .int n, .int v]
  | .copy n o => [.str "copy", .int n, .int o]
  | .add n a b => [.str "add", .int n, .int a, .int b]
  | .take n a b => [.str "take", .int n, .int a, .int b]
  | .less n a b => [.str "less", .int n, .int a, .int b]
  | .call n o => [.str "call", .int n, .int o]
  | .say n => [.str "say", .int n]
  | .iff n r => [.str "if", .int n, .int r]
  | .go r => [.str "go", .int r]
  | .fin => [.str "end"]
def RowOk (names many : Nat) : Row → Prop
  | .put n v => n < names ∧ 0 ≤ v ∧ v < 1000
  | .copy n o => n < names ∧ o < names
  | .add n a b => n < names ∧ a < names ∧ b < names
  | .take n a b => n < names ∧ a < names ∧ b < names
  | .less n a b => n < names ∧ a < names ∧ b < names
  | .call n o => n < names ∧ o < names
  | .say n => n < names
  | .iff n r => n < names ∧ r < many
  | .go r => r < many
  | .fin => True
theorem nat_of {i : Int} {n : Nat} (h0 : 0 ≤ i) (h1 : i < n) : ∃ k : Nat, i = (k : Int) ∧ k < n := ⟨i.toNat, by omega, by omega⟩
theorem BoxAt.nb {H : Hp} {b l p : Addr} (h : BoxAt H b l) (np : H p = none) : ¬ bx b l p := by
  obtain ⟨L, z, h1, h2, _⟩ := h.ex
  rintro (e | e)
  · rw [e, h1] at np; cases np
  · rw [e, h2] at np; cases np
theorem BoxAt.new {H : Hp} {b l p : Addr} {o : HO} (h : BoxAt H b l) (np : H p = none) : BoxAt (upd H p o) b l := h.ext (Ext.new (m := no) np) (fun z => z) (fun z => z)
theorem pick2 {x y : V} {i : Int} (h0 : 0 ≤ i) (h1 : i < 2) : ∃ v, atI [x, y] i = some v ∧ (v = x ∨ v = y) := by
  have e : i = 0 ∨ i = 1 := by omega
  rcases e with rfl | rfl
  · exact ⟨x, atI_nat (j := 0) rfl, .inl rfl⟩
  · exact ⟨y, atI_nat (j := 1) rfl, .inr rfl⟩
theorem pick3 {x y z : V} {i : Int} (h0 : 0 ≤ i) (h1 : i < 3) : ∃ v, atI [x, y, z] i = some v ∧ (v = x ∨ v = y ∨ v = z) := by
  have e : i = 0 ∨ i = 1 ∨ i = 2 := by omega
  rcases e with rfl | rfl | rfl
  · exact ⟨x, atI_nat (j := 0) rfl, .inl rfl⟩
  · exact ⟨y, atI_nat (j := 1) rfl, .inr (.inl rfl)⟩
  · exact ⟨z, atI_nat (j := 2) rfl, .inr (.inr rfl)⟩
section
variable {base : Heap} {K : PySem.W.Frag} {mg : Str → Option Value} {P : Program} {w : World}
def spRow : Sp := fun vs H Q _ => ∃ (b l : Addr) (names many at_ : Nat), vs = [.ref b, .int names, .int many, .int at_] ∧ BoxAt H b l ∧ 0 < names ∧ names ≤ 8 ∧ 0 < many ∧ many ≤ 24 ∧ at_ < many ∧
  ∀ H' r row, RowOk names many row → H' r = some (.tup (rowV row)) → BoxAt H' b l → Ext (bx b l) H H' → Q (.ref r) H'
theorem scRow : FnScope ["_law_box", "_law_names", "_law_many", "_law_at", "_law_way", "_law_name", "_law_one", "_law_other", "_law_goal"] ["_law_box", "_law_names", "_law_many", "_law_at"] (defScope s_row) := ⟨rfl, rfl, rfl, by decide +kernel, rfl, by decide +kernel, by decide +kernel⟩
theorem ok_row {f fT : Addr} {fd fdT : FuncData} (D : Df K mg "_law_row" s_row ["_law_box", "_law_names", "_law_many", "_law_at"] f fd) (DT : Df K mg "_law_take" s_take ["_law_box", "_law_many"] fT fdT) (B : Bt mg) :
    FnOk P w K mg base CX0 2 f fd ["_law_box", "_law_names", "_law_many", "_law_at"] spRow := by
  have GT : FnOk P w K mg base CX0 1 fT fdT ["_law_box", "_law_many"] spTake := ok_take DT
  refine D.F.ok scRow (fun vs H Q E h => ?_) (fun cdv A outer s H vs Q E hr h => ?_)
  · obtain ⟨b, l, names, many, at_, rfl, _⟩ := h
    rfl
  · obtain ⟨b, l, names, many, at_, rfl, bo, n0, n1, m0, m1, a1, q⟩ := h
    refine ⟨_, pss_cons (ps_set (i := 4) scRow.nd rfl (.inl rfl) (pcall DT GT hr (pa_cons (pv 0) (pa_cons pe_int pa_nil))))
      (pss_cons (ps_par3 (i := 5) (j := 6) (l := 7) rfl scRow.nd rfl rfl rfl (by decide) (by decide) (by decide) rfl rfl rfl
        (pa_cons (pcall DT GT hr (pa_cons (pv 0) (pa_cons (pv 1) pa_nil))) (pa_cons (pcall DT GT hr (pa_cons (pv 0) (pa_cons (pv 1) pa_nil))) (pa_cons (pcall DT GT hr (pa_cons (pv 0) (pa_cons (pv 1) pa_nil))) pa_nil))) (by rfl))
      (pss_cons (ps_if (pt_cmpR op_lt (pv 4) pe_int (nomark _)) (pss_one (ps_ret (pe_tup (pa_cons pe_str (pa_cons (pv 5) (pa_cons
          (pe_ix ix_list (pe_lst (pa_cons (pcall DT GT hr (pa_cons (pv 0) (pa_cons pe_int pa_nil))) (pa_cons (pcall DT GT hr (pa_cons (pv 0) (pa_cons pe_int pa_nil))) pa_nil))) (pcall DT GT hr (pa_cons (pv 0) (pa_cons pe_int pa_nil))) (fun _ _ => rfl)) pa_nil)))))) pss_nil)
      (pss_cons (ps_if (pt_cmpR op_lt (pv 4) pe_int (nomark _)) (pss_one (ps_ret (pe_tup (pa_cons pe_str (pa_cons (pv 5) (pa_cons (pv 6) pa_nil)))))) pss_nil)
      (pss_cons (ps_if (pt_cmpR op_lt (pv 4) pe_int (nomark _)) (pss_one (ps_ret (pe_tup (pa_cons (pe_ix ix_list (pe_lst (pa_cons pe_str (pa_cons pe_str (pa_cons pe_str pa_nil)))) (pe_op op_sub (pv 4) pe_int) (fun _ _ => rfl)) (pa_cons (pv 5) (pa_cons (pv 6) (pa_cons (pv 7) pa_nil))))))) pss_nil)
      (pss_cons (ps_if (pt_cmpR op_lt (pv 4) pe_int (nomark _)) (pss_one (ps_ret (pe_tup (pa_cons pe_str (pa_cons (pv 5) (pa_cons (pv 6) pa_nil)))))) pss_nil)
      (pss_cons (ps_if (pt_cmpR op_lt (pv 4) pe_int (nomark _)) (pss_one (ps_ret (pe_tup (pa_cons pe_str (pa_cons (pv 6) pa_nil))))) pss_nil)
      (pss_cons (ps_set (i := 8) scRow.nd rfl (.inl rfl) (pcall DT GT hr (pa_cons (pv 0) (pa_cons (pv 2) pa_nil))))
      (pss_cons (ps_if (pt_cmpR op_lt (pv 4) pe_int (nomark _)) (pss_one (ps_ret (pe_tup (pa_cons pe_str (pa_cons (pv 6) (pa_cons
          (pe_ix ix_list (pe_lst (pa_cons (pv 8) (pa_cons (pe_callB (call_min2 rfl) (by rfl) B.min (by decide +kernel) (pa_cons (pe_op op_sub (pv 2) pe_int) (pa_cons (pe_op op_add (pe_op op_add (pv 3) pe_int) (pe_op op_mod (pv 8) pe_int)) pa_nil))) pa_nil))) (pcall DT GT hr (pa_cons (pv 0) (pa_cons pe_int pa_nil))) (fun _ _ => rfl)) pa_nil)))))) pss_nil)
      (pss_one (ps_ret (pe_ix ix_list (pe_lst (pa_cons (pe_tup (pa_cons pe_str (pa_cons (pe_callB (call_min2 rfl) (by rfl) B.min (by decide +kernel) (pa_cons (pe_op op_sub (pv 2) pe_int) (pa_cons (pe_op op_add (pe_op op_add (pv 3) pe_int) (pe_op op_mod (pv 8) pe_int)) pa_nil))) pa_nil)))
          (pa_cons (pe_tup (pa_cons pe_str (pa_cons (pv 8) pa_nil))) (pa_cons (pe_tup (pa_cons pe_str pa_nil)) pa_nil)))) (pcall DT GT hr (pa_cons (pv 0) (pa_cons pe_int pa_nil))) (fun _ _ => rfl)))))))))))), ?_⟩
    refine ⟨_, rfl, b, l, 15, rfl, bo, by decide, by decide, fun H1 way w0 w1 bo1 x1 => ?_⟩
    refine ⟨_, rfl, _, rfl, b, l, names, rfl, bo1, by omega, by omega, fun H2 na na0 na1 bo2 x2 => ?_⟩
    refine ⟨_, rfl, _, rfl, b, l, names, rfl, bo2, by omega, by omega, fun H3 on on0 on1 bo3 x3 => ?_⟩
    refine ⟨_, rfl, _, rfl, b, l, names, rfl, bo3, by omega, by omega, fun H4 ot ot0 ot1 bo4 x4 => ⟨_, _, _, rfl, ?_⟩⟩
    have X4 : Ext (bx b l) H H4 := ((x1.trans x2).trans x3).trans x4
    obtain ⟨n, rfl, hn⟩ := nat_of na0 na1
    obtain ⟨o, rfl, ho⟩ := nat_of on0 on1
    obtain ⟨u, rfl, hu⟩ := nat_of ot0 ot1
    -- put
    refine ⟨_, rfl, _, _, rfl, rfl, _, rfl, ite2 (fun e => ?_) (fun e1 => ?_)⟩
    · refine ⟨_, rfl, _, rfl, b, l, 1000, rfl, bo4, by decide, by decide, fun H5 v1 v10 v11 bo5 x5 => ?_⟩
      refine ⟨_, rfl, b, l, 3, rfl, bo5, by decide, by decide, fun H6 v2 v20 v21 bo6 x6 => ⟨by show 2 ≤ sizeLine; decide, fun p np => ?_⟩⟩
      refine ⟨_, rfl, b, l, 2, rfl, bo6.new np, by decide, by decide, fun H7 i i0 i1 bo7 x7 => ?_⟩
      obtain ⟨v, ev, hv⟩ := pick2 (x := .int v1) (y := .int v2) i0 i1
      refine ⟨p, _, i, v, rfl, rfl, SqL.of (x7.lst (bo6.nb np) upd_same), ev, by show 3 ≤ sizeLine; decide, fun t nt => ?_⟩
      have X7 : Ext (bx b l) H (upd H7 t (.tup [.str "put", .int n, v])) := (((X4.trans x5).trans x6).trans (Ext.new np)).trans (x7.trans (Ext.new nt))
      rcases hv with rfl | rfl
      · exact q _ t (.put n v1) ⟨hn, v10, v11⟩ upd_same (bo7.new nt) X7
      · exact q _ t (.put n v2) ⟨hn, v20, by omega⟩ upd_same (bo7.new nt) X7
    -- copy
    refine ⟨_, rfl, _, _, rfl, rfl, _, rfl, ite2 (fun e => ?_) (fun e2 => ?_)⟩
    · refine ⟨_, rfl, _, rfl, by show 3 ≤ sizeLine; decide, fun t nt => ?_⟩
      exact q _ t (.copy n o) ⟨hn, ho⟩ upd_same (bo4.new nt) (X4.trans (Ext.new nt))
    -- add, take, less
    have w2 : ¬ way < 4 := fun z => e2 (decide_eq_true z)
    refine ⟨_, rfl, _, _, rfl, rfl, _, rfl, ite2 (fun e => ?_) (fun e3 => ?_)⟩
    · have w7 : way < 7 := of_decide_eq_true e
      refine ⟨by show 3 ≤ sizeLine; decide, fun p np => ?_⟩
      obtain ⟨v, ev, hv⟩ := pick3 (x := .str "add") (y := .str "take") (z := .str "less") (i := way - 4) (by omega) (by omega)
      refine ⟨_, rfl, _, _, rfl, rfl, p, _, _, v, rfl, rfl, SqL.of upd_same, ev, _, rfl, _, rfl, _, rfl, by show 4 ≤ sizeLine; decide, fun t nt => ?_⟩
      have X7 : Ext (bx b l) H (upd (upd H4 p (.lst [.str "add", .str "take", .str "less"])) t (.tup [v, .int n, .int o, .int u])) := X4.trans ((Ext.new np).trans (Ext.new nt))
      rcases hv with rfl | rfl | rfl
      · exact q _ t (.add n o u) ⟨hn, ho, hu⟩ upd_same ((bo4.new np).new nt) X7
      · exact q _ t (.take n o u) ⟨hn, ho, hu⟩ upd_same ((bo4.new np).new nt) X7
      · exact q _ t (.less n o u) ⟨hn, ho, hu⟩ upd_same ((bo4.new np).new nt) X7
    -- call
    refine ⟨_, rfl, _, _, rfl, rfl, _, rfl, ite2 (fun e => ?_) (fun e4 => ?_)⟩
    · refine ⟨_, rfl, _, rfl, by show 3 ≤ sizeLine; decide, fun t nt => ?_⟩
      exact q _ t (.call n o) ⟨hn, ho⟩ upd_same (bo4.new nt) (X4.trans (Ext.new nt))
    -- say
    refine ⟨_, rfl, _, _, rfl, rfl, _, rfl, ite2 (fun e => ?_) (fun e5 => ?_)⟩
    · refine ⟨_, rfl, by show 2 ≤ sizeLine; decide, fun t nt => ?_⟩
      exact q _ t (.say o) ho upd_same (bo4.new nt) (X4.trans (Ext.new nt))
    -- goal
    refine ⟨_, rfl, _, rfl, b, l, many, rfl, bo4, by omega, by omega, fun H5 gl g0 g1 bo5 x5 => ?_⟩
    obtain ⟨gn, rfl, hg⟩ := nat_of g0 g1
    have X5 := X4.trans x5
    have mn : ∀ (d : Int), 0 < d → ∃ r : Nat, (if (at_ : Int) + 1 + (gn : Int) % d < (many : Int) - 1 then (at_ : Int) + 1 + (gn : Int) % d else (many : Int) - 1) = (r : Int) ∧ r < many := fun d hd => by
      have h1 := Int.emod_nonneg (gn : Int) (show d ≠ 0 by omega)
      split
      · exact ⟨((at_ : Int) + 1 + (gn : Int) % d).toNat, by omega, by omega⟩
      · exact ⟨many - 1, by omega, by omega⟩
    refine ⟨_, rfl, _, _, rfl, rfl, _, rfl, ite2 (fun e => ?_) (fun e6 => ?_)⟩
    · obtain ⟨r1, er, hr1⟩ := mn 4 (by decide)
      refine ⟨_, rfl, _, rfl, _, rfl, _, _, rfl, rfl, _, rfl, _, _, rfl, rfl, _, rfl, _, _, rfl, rfl, (by show (0 : Int) < 4; decide), _, _, rfl, rfl, _, _, rfl, by show 2 ≤ sizeLine; decide, fun p np => ?_⟩
      rw [er]
      refine ⟨_, rfl, b, l, 2, rfl, bo5.new np, by decide, by decide, fun H7 i i0 i1 bo7 x7 => ?_⟩
      obtain ⟨v, ev, hv⟩ := pick2 (x := .int gn) (y := .int r1) i0 i1
      refine ⟨p, _, i, v, rfl, rfl, SqL.of (x7.lst (bo5.nb np) upd_same), ev, by show 3 ≤ sizeLine; decide, fun t nt => ?_⟩
      have X7 : Ext (bx b l) H (upd H7 t (.tup [.str "if", .int o, v])) := (X5.trans (Ext.new np)).trans (x7.trans (Ext.new nt))
      rcases hv with rfl | rfl
      · exact q _ t (.iff o gn) ⟨ho, hg⟩ upd_same (bo7.new nt) X7
      · exact q _ t (.iff o r1) ⟨ho, hr1⟩ upd_same (bo7.new nt) X7
    · obtain ⟨r1, er, hr1⟩ := mn 3 (by decide)
      refine ⟨_, rfl, _, _, rfl, rfl, _, rfl, _, _, rfl, rfl, _, rfl, _, _, rfl, rfl, (by show (0 : Int) < 3; decide), _, _, rfl, rfl, _, _, rfl, by show 2 ≤ sizeLine; decide, fun p1 np1 => ?_⟩
      rw [er]
      refine ⟨_, rfl, by show 2 ≤ sizeLine; decide, fun p2 np2 => ⟨by show 1 ≤ sizeLine; decide, fun p3 np3 => ⟨by show 3 ≤ sizeLine; decide, fun p np => ?_⟩⟩⟩
      have bo6 := ((bo5.new (o := .tup [.str "go", .int r1]) np1).new (o := .tup [.str "go", .int gn]) np2).new (o := .tup [.str "end"]) np3
      have X6 := X5.trans ((Ext.new (o := .tup [.str "go", .int r1]) np1).trans ((Ext.new (o := .tup [.str "go", .int gn]) np2).trans ((Ext.new (o := .tup [.str "end"]) np3).trans (Ext.new (o := .lst [.ref p1, .ref p2, .ref p3]) np))))
      refine ⟨_, rfl, b, l, 3, rfl, bo6.new np, by decide, by decide, fun H7 i i0 i1 bo7 x7 => ?_⟩
      obtain ⟨v, ev, hv⟩ := pick3 (x := .ref p1) (y := .ref p2) (z := .ref p3) i0 i1
      refine ⟨p, _, i, v, rfl, rfl, SqL.of (x7.lst (bo6.nb np) upd_same), ev, ?_⟩
      have t1 : H7 p1 = some (.tup [.str "go", .int r1]) := x7.tup _ _ ((Ext.new (m := no) np).tup _ _ ((Ext.new (m := no) np3).tup _ _ ((Ext.new (m := no) np2).tup _ _ upd_same)))
      have t2 : H7 p2 = some (.tup [.str "go", .int gn]) := x7.tup _ _ ((Ext.new (m := no) np).tup _ _ ((Ext.new (m := no) np3).tup _ _ upd_same))
      have t3 : H7 p3 = some (.tup [.str "end"]) := x7.tup _ _ ((Ext.new (m := no) np).tup _ _ upd_same)
      rcases hv with rfl | rfl | rfl
      · exact q _ p1 (.go r1) hr1 t1 bo7 (X6.trans x7)
      · exact q _ p2 (.go gn) hg t2 bo7 (X6.trans x7)
      · exact q _ p3 .fin trivial t3 bo7 (X6.trans x7)
end
end Bw
namespace Bw
open PySem PySem.Spec PyProof.Rows L2 GxR
structure Prog where
  params : Nat
  names : Nat
  rows : List Row
structure Prog.Ok (p : Prog) : Prop where
  n0 : 0 < p.names
  n1 : p.names ≤ 8
  pn : p.params ≤ p.names
  r0 : 0 < p.rows.length
  r1 : p.rows.length ≤ 24
  ok : ∀ row ∈ p.rows, RowOk p.names p.rows.length row
structure RowsAt (H : Hp) (as : List Addr) (rows : List Row) : Prop where
  len : as.length = rows.length
  at_ : ∀ (i : Nat) (r : Addr) (row : Row), as[i]? = some r → rows[i]? = some row → H r = some (.tup (rowV row))
theorem RowsAt.ext {m : Addr → Prop} {H H' : Hp} {as : List Addr} {rows : List Row} (h : RowsAt H as rows) (e : Ext m H H') : RowsAt H' as rows := ⟨h.len, fun i r row h1 h2 => e.tup _ _ (h.at_ i r row h1 h2)⟩
theorem RowsAt.snoc {H : Hp} {as : List Addr} {rows : List Row} {r : Addr} {row : Row} (h : RowsAt H as rows) (e : H r = some (.tup (rowV row))) : RowsAt H (as ++ [r]) (rows ++ [row]) := by
  refine ⟨by rw [List.length_append, List.length_append, h.len]; rfl, fun i r' row' h1 h2 => ?_⟩
  by_cases hi : i < as.length
  · rw [List.getElem?_append_left hi] at h1
    rw [List.getElem?_append_left (by rw [← h.len]; exact hi)] at h2
    exact h.at_ i r' row' h1 h2
  · have hi2 : i = as.length := by
      have := (List.getElem?_eq_some_iff.mp h1).1
      rw [List.length_append] at this
      simp at this
      omega
    subst hi2
    rw [List.getElem?_append_right (Nat.le_refl _), Nat.sub_self] at h1
    rw [List.getElem?_append_right (by rw [h.len]; exact Nat.le_refl _), h.len, Nat.sub_self] at h2
    cases h1
    cases h2
    exact e
structure ProgAt (H : Hp) (a : Addr) (p : Prog) : Prop where
  ex : ∃ (rs : Addr) (as : List Addr), H a = some (.tup [.int p.params, .int p.names, .ref rs]) ∧ H rs = some (.tup (as.map V.ref)) ∧ RowsAt H as p.rows
theorem ProgAt.ext {m : Addr → Prop} {H H' : Hp} {a : Addr} {p : Prog} (h : ProgAt H a p) (e : Ext m H H') : ProgAt H' a p := by
  obtain ⟨rs, as, h1, h2, h3⟩ := h.ex
  exact ⟨rs, as, e.tup _ _ h1, e.tup _ _ h2, h3.ext e⟩
theorem asg_int {i : Nat} {a b : Int} {σ : L2.St} {H : Hp} {D : L2.St → Hp → Prop} (e : a = b) (h : gName i (.int b) σ H D) : gName i (.int a) σ H D := e ▸ h
section
variable {base : Heap} {K : PySem.W.Frag} {mg : Str → Option Value} {P : Program} {w : World}
def spProgram : Sp := fun vs H Q _ => ∃ (b l : Addr) (most : Nat), vs = [.ref b, .int most] ∧ BoxAt H b l ∧ 0 < most ∧ most ≤ 24 ∧
  ∀ H' a p, p.Ok → p.rows.length ≤ most → ProgAt H' a p → BoxAt H' b l → Ext (bx b l) H H' → Q (.ref a) H'
theorem scProgram : FnScope ["_law_box", "_law_most", "_law_names", "_law_params", "_law_many", "_law_at"] ["_law_box", "_law_most"] (defScope s_program) := ⟨rfl, rfl, rfl, by decide +kernel, rfl, by decide +kernel, by decide +kernel⟩
theorem ok_program {f fT fR : Addr} {fd fdT fdR : FuncData} (D : Df K mg "_law_program" s_program ["_law_box", "_law_most"] f fd) (DT : Df K mg "_law_take" s_take ["_law_box", "_law_many"] fT fdT)
    (DR : Df K mg "_law_row" s_row ["_law_box", "_law_names", "_law_many", "_law_at"] fR fdR) (B : Bt mg) :
    FnOk P w K mg base CX0 3 f fd ["_law_box", "_law_most"] spProgram := by
  have GT : FnOk P w K mg base CX0 1 fT fdT ["_law_box", "_law_many"] spTake := ok_take DT
  have GR : FnOk P w K mg base CX0 2 fR fdR ["_law_box", "_law_names", "_law_many", "_law_at"] spRow := ok_row DR DT B
  refine D.F.ok scProgram (fun vs H Q E h => ?_) (fun cdv A outer s H vs Q E hr h => ?_)
  · obtain ⟨b, l, most, rfl, _⟩ := h
    rfl
  · obtain ⟨b, l, most, rfl, bo, m0, m1, q⟩ := h
    have hr1 := hr.mono (show 1 ≤ 2 by decide)
    refine ⟨_, pss_cons (ps_set (i := 2) scProgram.nd rfl (.inr rfl) (pe_op op_add pe_int (pcall DT GT hr1 (pa_cons (pv 0) (pa_cons (pe_ix ix_list (pe_lst (pa_cons pe_int (pa_cons pe_int (pa_cons pe_int pa_nil)))) (pcall DT GT hr1 (pa_cons (pv 0) (pa_cons pe_int pa_nil))) (fun _ _ => rfl)) pa_nil)))))
      (pss_cons (ps_set (i := 3) scProgram.nd rfl (.inl rfl) (pe_ix ix_list (pe_lst (pa_cons (pv 2) (pa_cons (pcall DT GT hr1 (pa_cons (pv 0) (pa_cons (pe_op op_add (pv 2) pe_int) pa_nil))) pa_nil))) (pcall DT GT hr1 (pa_cons (pv 0) (pa_cons pe_int pa_nil))) (fun _ _ => rfl)))
      (pss_cons (ps_set (i := 4) scProgram.nd rfl (.inr rfl) (pe_op op_add pe_int (pcall DT GT hr1 (pa_cons (pv 0) (pa_cons (pe_ix ix_list (pe_lst (pa_cons (pv 1) (pa_cons (pe_callB (call_min2 rfl) (by rfl) B.min (by decide +kernel) (pa_cons (pv 1) (pa_cons pe_int pa_nil))) pa_nil))) (pcall DT GT hr1 (pa_cons (pv 0) (pa_cons pe_int pa_nil))) (fun _ _ => rfl)) pa_nil)))))
      (pss_one (ps_ret (pe_tup (pa_cons (pv 3) (pa_cons (pv 2) (pa_cons (pe_callTy call_tuple_of (by rfl) B.tuple (by decide +kernel) (pa_cons
        (pe_lc (own := [("_law_at", 5)]) (g := gName 5) (tt := tYes) rfl scProgram.nd (pi_range1 (by rfl) B.range (pa_cons (pv 4) pa_nil)) (blkOk_by (N := ["_law_box", "_law_most", "_law_names", "_law_params", "_law_many", "_law_at"]) (sc := defScope s_program) (by decide +kernel))
          (fun _ _ _ _ _ => pg_name (i := 5) scProgram.nd rfl (Or.inl rfl)) (fun _ _ _ _ _ => pts_nil) (fun _ _ _ _ _ => pcall DR GR hr (pa_cons (pv 0) (pa_cons (pv 2) (pa_cons (pv 4) (pa_cons (pv 5) pa_nil)))))) pa_nil)) pa_nil)))))))), ?_⟩
    -- names
    refine ⟨_, rfl, by show 3 ≤ sizeLine; decide, fun p np => ?_⟩
    refine ⟨_, rfl, b, l, 3, rfl, bo.new np, by decide, by decide, fun H1 i i0 i1 bo1 x1 => ?_⟩
    obtain ⟨v, ev, hv⟩ := pick3 (x := .int 3) (y := .int 4) (z := .int 8) i0 i1
    refine ⟨p, _, i, v, rfl, rfl, SqL.of (x1.lst (bo.nb np) upd_same), ev, ?_⟩
    obtain ⟨c, rfl, c0, c1⟩ : ∃ c : Int, v = .int c ∧ 0 < c ∧ c ≤ 8 := by
      rcases hv with rfl | rfl | rfl
      · exact ⟨_, rfl, by decide, by decide⟩
      · exact ⟨_, rfl, by decide, by decide⟩
      · exact ⟨_, rfl, by decide, by decide⟩
    refine ⟨b, l, c, rfl, bo1, c0, by omega, fun H2 r r0 r1 bo2 x2 => ⟨_, _, rfl, rfl, ?_⟩⟩
    obtain ⟨nm, en, nm0, nm1⟩ : ∃ nm : Nat, 1 + r = (nm : Int) ∧ 0 < nm ∧ nm ≤ 8 := ⟨(1 + r).toNat, by omega, by omega, by omega⟩
    refine asg_int en ?_
    have X2 : Ext (bx b l) H H2 := (Ext.new np).trans (x1.trans x2)
    -- params
    refine ⟨_, rfl, _, rfl, _, rfl, _, _, rfl, rfl, b, l, (nm : Int) + 1, rfl, bo2, by omega, by omega, fun H3 pa pa0 pa1 bo3 x3 => ⟨by show 2 ≤ sizeLine; decide, fun p2 np2 => ?_⟩⟩
    refine ⟨_, rfl, b, l, 2, rfl, bo3.new np2, by decide, by decide, fun H4 i2 i20 i21 bo4 x4 => ?_⟩
    obtain ⟨v2, ev2, hv2⟩ := pick2 (x := .int nm) (y := .int pa) i20 i21
    refine ⟨p2, _, i2, v2, rfl, rfl, SqL.of (x4.lst (bo3.nb np2) upd_same), ev2, ?_⟩
    obtain ⟨par, rfl, hpar⟩ : ∃ par : Nat, v2 = .int par ∧ par ≤ nm := by
      rcases hv2 with rfl | rfl
      · exact ⟨nm, rfl, Nat.le_refl _⟩
      · exact ⟨pa.toNat, by rw [Int.toNat_of_nonneg pa0], by omega⟩
    have X4 : Ext (bx b l) H H4 := X2.trans (x3.trans ((Ext.new np2).trans x4))
    -- many
    refine ⟨_, rfl, _, rfl, _, rfl, _, _, rfl, by show 2 ≤ sizeLine; decide, fun p3 np3 => ?_⟩
    refine ⟨_, rfl, b, l, 2, rfl, bo4.new np3, by decide, by decide, fun H5 i3 i30 i31 bo5 x5 => ?_⟩
    obtain ⟨v3, ev3, hv3⟩ := pick2 (x := .int most) (y := .int (if (6 : Int) < (most : Int) then 6 else (most : Int))) i30 i31
    refine ⟨p3, _, i3, v3, rfl, rfl, SqL.of (x5.lst (bo4.nb np3) upd_same), ev3, ?_⟩
    obtain ⟨c3, rfl, c30, c31⟩ : ∃ c : Int, v3 = .int c ∧ 0 < c ∧ c ≤ most := by
      rcases hv3 with rfl | rfl
      · exact ⟨_, rfl, by omega, by omega⟩
      · refine ⟨_, rfl, ?_, ?_⟩
        · split <;> omega
        · split <;> omega
    refine ⟨b, l, c3, rfl, bo5, c30, by omega, fun H6 r3 r30 r31 bo6 x6 => ⟨_, _, rfl, rfl, ?_⟩⟩
    obtain ⟨many, em, my0, my1⟩ : ∃ many : Nat, 1 + r3 = (many : Int) ∧ 0 < many ∧ many ≤ most := ⟨(1 + r3).toNat, by omega, by omega, by omega⟩
    refine asg_int em ?_
    have X6 : Ext (bx b l) H H6 := X4.trans ((Ext.new np3).trans (x5.trans x6))
    -- the rows
    refine ⟨_, rfl, _, rfl, _, rfl, many, rfl, by omega, by omega, fun D nD => ?_⟩
    refine lc_range (lo := 0) (n := many) (fun i H => ∃ (as : List Addr) (rows : List Row), rows.length = i ∧ H D = some (.lst (as.map V.ref)) ∧ RowsAt H as rows ∧ (∀ row ∈ rows, RowOk nm many row) ∧ BoxAt H b l ∧ Ext (bx b l) H6 H)
      ⟨[], [], rfl, upd_same, ⟨rfl, fun i r row h _ => by simp at h⟩, fun row h => by simp at h, bo6.new nD, Ext.new nD⟩ ?_ ?_
    · rintro i H7 hi ⟨as, rows, hlen, hD, hrows, hoks, bo7, x7⟩
      rw [show ((0 : Int) + (i : Int)) = (i : Int) from Int.zero_add _]
      refine ⟨rfl, ?_⟩
      refine ⟨_, rfl, _, rfl, _, rfl, _, rfl, b, l, nm, many, i, rfl, bo7, nm0, nm1, my0, by omega, hi, fun H8 r8 row8 ok8 at8 bo8 x8 => ?_⟩
      have hD8 : H8 D = some (.lst (as.map V.ref)) := x8.lst (bo6.nb nD) hD
      have hl : as.length = i := by rw [hrows.len]; exact hlen
      have ne : ∀ {a : Addr} {xs : List V}, H8 a = some (.tup xs) → a ≠ D := fun h => ne_of h hD8 (by intro z; cases z)
      have x9 : Ext (bx b l) H6 (upd H8 D (.lst (as.map V.ref ++ [.ref r8]))) := (x7.trans x8).own nD
      have x9' : Ext (fun x => x = D) H8 (upd H8 D (.lst (as.map V.ref ++ [.ref r8]))) := Ext.put hD8 rfl (fun _ z => by cases z) (fun _ z => by cases z)
      refine ⟨_, hD8, by rw [List.length_map]; exact small_lt (k := 24) (by omega) (by decide), as ++ [r8], rows ++ [row8], by rw [List.length_append, hlen]; rfl, by rw [upd_same, List.map_append]; rfl, ((hrows.ext x8).snoc at8).ext x9', fun row hrow => ?_, bo8.ext x9' (fun z => bo6.nb nD (.inl z.symm)) (fun z => bo6.nb nD (.inr z.symm)), x9⟩
      rcases List.mem_append.mp hrow with h | h
      · exact hoks row h
      · rw [List.mem_singleton.mp h]
        exact ok8
    · rintro H7 ⟨as, rows, hlen, hD, hrows, hoks, bo7, x7⟩
      refine ⟨D, _, rfl, .inl ⟨SqL.of hD, fun rs nrs => ⟨by show 3 ≤ sizeLine; decide, fun a na => ?_⟩⟩⟩
      have x8 : Ext (bx b l) H7 (upd (upd H7 rs (.tup (as.map V.ref))) a (.tup [.int par, .int nm, .ref rs])) := (Ext.new nrs).trans (Ext.new na)
      refine q _ a ⟨par, nm, rows⟩ ⟨nm0, nm1, hpar, by show 0 < rows.length; omega, by show rows.length ≤ 24; omega, fun row h => by show RowOk nm rows.length row; rw [hlen]; exact hoks row h⟩ (by show rows.length ≤ most; omega)
        ⟨rs, as, upd_same, (Ext.new (m := no) na).tup _ _ upd_same, hrows.ext x8⟩ ((bo7.new nrs).new na) (X6.trans (x7.trans x8))
end
end Bw
namespace Bw
open PySem PySem.Spec PyProof.Rows L2 GxR
/-! ### alike -/
def Lv : Nat → PyData → Bool
  | 0, _ => false
  | _ + 1, .none => true
  | _ + 1, .bool _ => true
  | _ + 1, .int _ => true
  | _ + 1, .str _ => true
  | n + 1, .list ds => decide (ds.length ≤ 100000) && ds.all (Lv n)
  | n + 1, .tuple ds => decide (ds.length ≤ 100000) && ds.all (Lv n)
  | _ + 1, _ => false
theorem DpAll.len {K : PySem.W.Frag} {H : Hp} : ∀ {vs : List V} {ds : List PyData}, DpAll K H vs ds → vs.length = ds.length
  | _, _, .nil => rfl
  | _, _, .cons _ r => by rw [List.length_cons, List.length_cons, DpAll.len r]
theorem DpAll.get {K : PySem.W.Frag} {H : Hp} : ∀ {vs : List V} {ds : List PyData} {i : Nat} {d : PyData}, DpAll K H vs ds → ds[i]? = some d → ∃ v, vs[i]? = some v ∧ Dp K H v d
  | _, _, _, _, .nil, h => by simp at h
  | _, _, 0, _, .cons a r, h => by
    simp at h
    subst h
    exact ⟨_, rfl, a⟩
  | _, _, i + 1, d, .cons a r, h => by
    obtain ⟨v, h1, h2⟩ := DpAll.get (i := i) (d := d) r (by simpa using h)
    exact ⟨v, by simpa using h1, h2⟩
theorem tyL {K : PySem.W.Frag} {H : Hp} {a : Addr} {xs : List V} (h : SqL K H a xs) : TyX K H (.ref a) (.type "list") := by
  rcases h with (h | ⟨o, h⟩) | ⟨o, its, n, h1, h2, _⟩
  · exact .base (.lst h)
  · exact .base (.frz h)
  · exact .kList h1 h2
theorem tyT {K : PySem.W.Frag} {H : Hp} {a : Addr} {xs : List V} (h : SqT K H a xs) : TyX K H (.ref a) (.type "tuple") := by
  rcases h with (h | ⟨o, h⟩) | ⟨o, its, n, h1, h2, _⟩
  · exact .base (.tup h)
  · exact .fTuple h
  · exact .kTuple h1 h2
section
variable {base : Heap} {K : PySem.W.Frag} {mg : Str → Option Value} {P : Program} {w : World}
def spAlike (K : PySem.W.Frag) (n : Nat) : Sp := fun vs H Q _ => ∃ (x y : V) (d : PyData), vs = [x, y] ∧ Dp K H x d ∧ Dp K H y d ∧ Lv n d = true ∧ Q (.bl true) H
theorem scAlike : FnScope ["_law_found", "_law_due", "_law_k"] ["_law_found", "_law_due"] (defScope s_alike) := ⟨rfl, rfl, rfl, by decide +kernel, rfl, by decide +kernel, by decide +kernel⟩
theorem alike_step {f : Addr} {fd : FuncData} {k n : Nat} (D : Df K mg "_law_alike" s_alike ["_law_found", "_law_due"] f fd) (B : Bt mg) (G : FnOk P w K mg base CX0 k f fd ["_law_found", "_law_due"] (spAlike K n)) :
    FnOk P w K mg base CX0 (k + 1) f fd ["_law_found", "_law_due"] (spAlike K (n + 1)) := by
  refine D.F.ok scAlike (fun vs H Q E h => ?_) (fun cdv A outer s H vs Q E hr h => ?_)
  · obtain ⟨x, y, d, rfl, _⟩ := h
    rfl
  · obtain ⟨x, y, d, rfl, hx, hy, hL, q⟩ := h
    refine ⟨_, pss_cons (ps_if (pt_cmpR op_isN (pv 1) pe_non (nomark _)) (pss_one (ps_ret (pe_cmpR op_isN (pv 0) pe_non (nomark _)))) pss_nil)
      (pss_cons (ps_if (pt_val (pe_callB call_isi (by rfl) B.isinstance (by decide +kernel) (pa_cons (pv 1) (pa_cons (pe_bltn (v := .ty "bool") (by rfl) B.bool (by decide +kernel) rfl) pa_nil))))
        (pss_one (ps_ret (pe_and (pe_callB call_isi (by rfl) B.isinstance (by decide +kernel) (pa_cons (pv 0) (pa_cons (pe_bltn (v := .ty "bool") (by rfl) B.bool (by decide +kernel) rfl) pa_nil))) (pe_one (pe_cmpR op_eq (pv 0) (pv 1) (nomark _)))))) pss_nil)
      (pss_cons (ps_if (pt_val (pe_callB call_isi (by rfl) B.isinstance (by decide +kernel) (pa_cons (pv 1) (pa_cons (pe_bltn (v := .ty "int") (by rfl) B.int (by decide +kernel) rfl) pa_nil))))
        (pss_one (ps_ret (pe_and (pe_callB call_isi (by rfl) B.isinstance (by decide +kernel) (pa_cons (pv 0) (pa_cons (pe_bltn (v := .ty "int") (by rfl) B.int (by decide +kernel) rfl) pa_nil)))
          (pe_and (pe_not (pe_callB call_isi (by rfl) B.isinstance (by decide +kernel) (pa_cons (pv 0) (pa_cons (pe_bltn (v := .ty "bool") (by rfl) B.bool (by decide +kernel) rfl) pa_nil)))) (pe_one (pe_cmpR op_eq (pv 0) (pv 1) (nomark _))))))) pss_nil)
      (pss_cons (ps_if (pt_val (pe_callB call_isi (by rfl) B.isinstance (by decide +kernel) (pa_cons (pv 1) (pa_cons (pe_bltn (v := .ty "str") (by rfl) B.str (by decide +kernel) rfl) pa_nil))))
        (pss_one (ps_ret (pe_and (pe_callB call_isi (by rfl) B.isinstance (by decide +kernel) (pa_cons (pv 0) (pa_cons (pe_bltn (v := .ty "str") (by rfl) B.str (by decide +kernel) rfl) pa_nil))) (pe_one (pe_cmpR op_eq (pv 0) (pv 1) (nomark _)))))) pss_nil)
      (pss_cons (ps_if (PW.pt (pw_or (pt_cmpR op_ne (pe_callB call_isi (by rfl) B.isinstance (by decide +kernel) (pa_cons (pv 1) (pa_cons (pe_bltn (v := .ty "tuple") (by rfl) B.tuple (by decide +kernel) rfl) pa_nil))) (pe_callB call_isi (by rfl) B.isinstance (by decide +kernel) (pa_cons (pv 0) (pa_cons (pe_bltn (v := .ty "tuple") (by rfl) B.tuple (by decide +kernel) rfl) pa_nil))) (nomark _))
          (pw_or1 (pt_cmpR op_ne (pe_callB call_isi (by rfl) B.isinstance (by decide +kernel) (pa_cons (pv 1) (pa_cons (pe_bltn (v := .ty "list") (by rfl) B.list (by decide +kernel) rfl) pa_nil))) (pe_callB call_isi (by rfl) B.isinstance (by decide +kernel) (pa_cons (pv 0) (pa_cons (pe_bltn (v := .ty "list") (by rfl) B.list (by decide +kernel) rfl) pa_nil))) (nomark _)))))
        (pss_one (ps_ret pe_bl)) pss_nil)
      (pss_cons (ps_if (pt_cmpR op_ne (pe_callB call_len_seq (by rfl) B.len PySem.boot_len (pa_cons (pv 0) pa_nil)) (pe_callB call_len_seq (by rfl) B.len PySem.boot_len (pa_cons (pv 1) pa_nil)) (nomark _)) (pss_one (ps_ret pe_bl)) pss_nil)
      (pss_cons (ps_for PassesOwn.never rfl (pi_range1 (by rfl) B.range (pa_cons (pe_callB call_len_seq (by rfl) B.len PySem.boot_len (pa_cons (pv 1) pa_nil)) pa_nil)) (pg_name (i := 2) scAlike.nd rfl (.inl rfl))
        (pss_one (ps_if (pt_not (pt_val (pcall D G hr (pa_cons (pe_ix ix_seq (pv 0) (pv 2) (fun _ _ => rfl)) (pa_cons (pe_ix ix_seq (pv 1) (pv 2) (fun _ _ => rfl)) pa_nil))))) (pss_one (ps_ret pe_bl)) pss_nil)))
      (pss_one (ps_ret pe_bl)))))))), ?_⟩
    have eqSelf : ∀ z : V, decide (z = z) = true := fun z => decide_eq_true rfl
    cases hy with
    | non =>
      cases hx
      refine ⟨_, rfl, rfl, _, rfl, iteT ⟨_, rfl, rfl, ?_⟩⟩
      exact q
    | bl c =>
      cases hx
      refine ⟨_, rfl, rfl, _, rfl, iteF ?_⟩
      refine ⟨_, rfl, _, _, _, _, true, rfl, .ty "bool", .base (.bl c), kit_ty (by decide +kernel), _, rfl, iteT ?_⟩
      refine ⟨_, rfl, _, _, _, _, true, rfl, .ty "bool", .base (.bl c), kit_ty (by decide +kernel), _, rfl, iteT ⟨_, rfl, _, rfl, rfl, ?_⟩⟩
      rw [eqSelf]
      exact q
    | int i =>
      cases hx
      refine ⟨_, rfl, rfl, _, rfl, iteF ?_⟩
      refine ⟨_, rfl, _, _, _, _, false, rfl, .ty "bool", .base (.int i), kit_ty (by decide +kernel), _, rfl, iteF ?_⟩
      refine ⟨_, rfl, _, _, _, _, true, rfl, .ty "int", .base (.int i), kit_ty (by decide +kernel), _, rfl, iteT ?_⟩
      refine ⟨_, rfl, _, _, _, _, true, rfl, .ty "int", .base (.int i), kit_ty (by decide +kernel), _, rfl, iteT ?_⟩
      refine ⟨_, rfl, _, _, _, _, false, rfl, .ty "bool", .base (.int i), kit_ty (by decide +kernel), _, rfl, _, rfl, iteT ⟨_, rfl, _, rfl, rfl, ?_⟩⟩
      rw [eqSelf]
      exact q
    | str i =>
      cases hx
      refine ⟨_, rfl, rfl, _, rfl, iteF ?_⟩
      refine ⟨_, rfl, _, _, _, _, false, rfl, .ty "bool", .base (.str i), kit_ty (by decide +kernel), _, rfl, iteF ?_⟩
      refine ⟨_, rfl, _, _, _, _, false, rfl, .ty "int", .base (.str i), kit_ty (by decide +kernel), _, rfl, iteF ?_⟩
      refine ⟨_, rfl, _, _, _, _, true, rfl, .ty "str", .base (.str i), kit_ty (by decide +kernel), _, rfl, iteT ?_⟩
      refine ⟨_, rfl, _, _, _, _, true, rfl, .ty "str", .base (.str i), kit_ty (by decide +kernel), _, rfl, iteT ⟨_, rfl, _, rfl, rfl, ?_⟩⟩
      rw [eqSelf]
      exact q
    | lst hs hd =>
      rename_i a xs ds
      cases hx with
      | lst hs' hd' =>
      rename_i a' xs'
      have hL' := hL
      simp only [Lv, Bool.and_eq_true, decide_eq_true_eq, List.all_eq_true] at hL'
      have l1 := (DpAll.len hd)
      have l2 := (DpAll.len hd')
      refine ⟨_, rfl, rfl, _, rfl, iteF ?_⟩
      refine ⟨_, rfl, _, _, _, _, false, rfl, .ty "bool", tyL hs, kit_ty (by decide +kernel), _, rfl, iteF ?_⟩
      refine ⟨_, rfl, _, _, _, _, false, rfl, .ty "int", tyL hs, kit_ty (by decide +kernel), _, rfl, iteF ?_⟩
      refine ⟨_, rfl, _, _, _, _, false, rfl, .ty "str", tyL hs, kit_ty (by decide +kernel), _, rfl, iteF ?_⟩
      refine ⟨_, rfl, _, _, _, _, false, rfl, .ty "tuple", tyL hs, kit_ty (by decide +kernel), _, rfl, _, _, _, _, false, rfl, .ty "tuple", tyL hs', kit_ty (by decide +kernel), rfl, _, rfl, iteF ?_⟩
      refine ⟨_, rfl, _, _, _, _, true, rfl, .ty "list", tyL hs, kit_ty (by decide +kernel), _, rfl, _, _, _, _, true, rfl, .ty "list", tyL hs', kit_ty (by decide +kernel), rfl, _, rfl, iteF ?_⟩
      refine ⟨_, rfl, a', _, rfl, .inl hs', _, rfl, a, _, rfl, .inl hs, rfl, _, rfl, iteNS (by rw [l1, l2]) ?_⟩
      refine ⟨_, rfl, a, _, rfl, .inl hs, (xs.length : Int), rfl, by omega, by omega, for_range (lo := 0) (n := xs.length) (fun i σ H2 => ∃ v, σ = [some (.ref a'), some (.ref a), v] ∧ H2 = H) ⟨none, rfl, rfl⟩ ?_ ?_⟩
      · rintro i σ H2 hi ⟨v, rfl, rfl⟩
        rw [show ((0 : Int) + (i : Int)) = (i : Int) from Int.zero_add _]
        have hi2 : i < ds.length := by omega
        obtain ⟨v1, g1, p1⟩ := DpAll.get hd (List.getElem?_eq_getElem hi2)
        obtain ⟨v2, g2, p2⟩ := DpAll.get hd' (List.getElem?_eq_getElem hi2)
        refine ⟨_, rfl, _, rfl, .inl ⟨a', xs', i, v2, rfl, rfl, hs', atI_nat g2, _, rfl, _, rfl, .inl ⟨a, xs, i, v1, rfl, rfl, hs, atI_nat g1, v2, v1, ds[i], rfl, p2, p1, hL'.2 _ (List.getElem_mem hi2), _, rfl, ?_⟩⟩⟩
        exact iteF ⟨_, rfl, rfl⟩
      · rintro σ H2 ⟨v, rfl, rfl⟩
        exact q
    | tup hs hd =>
      rename_i a xs ds
      cases hx with
      | tup hs' hd' =>
      rename_i a' xs'
      have hL' := hL
      simp only [Lv, Bool.and_eq_true, decide_eq_true_eq, List.all_eq_true] at hL'
      have l1 := (DpAll.len hd)
      have l2 := (DpAll.len hd')
      refine ⟨_, rfl, rfl, _, rfl, iteF ?_⟩
      refine ⟨_, rfl, _, _, _, _, false, rfl, .ty "bool", tyT hs, kit_ty (by decide +kernel), _, rfl, iteF ?_⟩
      refine ⟨_, rfl, _, _, _, _, false, rfl, .ty "int", tyT hs, kit_ty (by decide +kernel), _, rfl, iteF ?_⟩
      refine ⟨_, rfl, _, _, _, _, false, rfl, .ty "str", tyT hs, kit_ty (by decide +kernel), _, rfl, iteF ?_⟩
      refine ⟨_, rfl, _, _, _, _, true, rfl, .ty "tuple", tyT hs, kit_ty (by decide +kernel), _, rfl, _, _, _, _, true, rfl, .ty "tuple", tyT hs', kit_ty (by decide +kernel), rfl, _, rfl, iteF ?_⟩
      refine ⟨_, rfl, _, _, _, _, false, rfl, .ty "list", tyT hs, kit_ty (by decide +kernel), _, rfl, _, _, _, _, false, rfl, .ty "list", tyT hs', kit_ty (by decide +kernel), rfl, _, rfl, iteF ?_⟩
      refine ⟨_, rfl, a', _, rfl, .inr hs', _, rfl, a, _, rfl, .inr hs, rfl, _, rfl, iteNS (by rw [l1, l2]) ?_⟩
      refine ⟨_, rfl, a, _, rfl, .inr hs, (xs.length : Int), rfl, by omega, by omega, for_range (lo := 0) (n := xs.length) (fun i σ H2 => ∃ v, σ = [some (.ref a'), some (.ref a), v] ∧ H2 = H) ⟨none, rfl, rfl⟩ ?_ ?_⟩
      · rintro i σ H2 hi ⟨v, rfl, rfl⟩
        rw [show ((0 : Int) + (i : Int)) = (i : Int) from Int.zero_add _]
        have hi2 : i < ds.length := by omega
        obtain ⟨v1, g1, p1⟩ := DpAll.get hd (List.getElem?_eq_getElem hi2)
        obtain ⟨v2, g2, p2⟩ := DpAll.get hd' (List.getElem?_eq_getElem hi2)
        refine ⟨_, rfl, _, rfl, .inr <| .inl ⟨a', xs', i, v2, rfl, rfl, hs', atI_nat g2, _, rfl, _, rfl, .inr <| .inl ⟨a, xs, i, v1, rfl, rfl, hs, atI_nat g1, v2, v1, ds[i], rfl, p2, p1, hL'.2 _ (List.getElem_mem hi2), _, rfl, ?_⟩⟩⟩
        exact iteF ⟨_, rfl, rfl⟩
      · rintro σ H2 ⟨v, rfl, rfl⟩
        exact q
theorem ok_alike {f : Addr} {fd : FuncData} (D : Df K mg "_law_alike" s_alike ["_law_found", "_law_due"] f fd) (B : Bt mg) : ∀ n : Nat, FnOk P w K mg base CX0 n f fd ["_law_found", "_law_due"] (spAlike K n)
  | 0 => ⟨fun vs H Q E h => by obtain ⟨_, _, d, _, _, _, hL, _⟩ := h; simp [Lv] at hL, fun A outer s H args us vs Q E hr he hb hv h => by obtain ⟨_, _, d, _, _, _, hL, _⟩ := h; simp [Lv] at hL⟩
  | n + 1 => alike_step D B (ok_alike D B n)
end
end Bw
namespace Bw
open PySem PySem.Spec PyProof.Rows L2 GxR
/-! ### what a program does -/
def at0 (c : List Int) (n : Nat) : Int := (c[n]?).getD 0
def doRow : Row → List Int → List Int
  | .put n v, c => c.set n v
  | .copy n o, c => c.set n (at0 c o)
  | .add n a b, c => c.set n ((at0 c a + at0 c b) % 1000)
  | .take n a b, c => c.set n ((at0 c a - at0 c b) % 1000)
  | .less n a b, c => c.set n (if at0 c a < at0 c b then 1 else 0)
  | .call n o, c => c.set n ((7 * at0 c o * at0 c o + at0 c o + 3) % 1000)
  | _, c => c
def saidOf : Row → List Int → List Int → List Int
  | .say n, c, s => s ++ [at0 c n]
  | _, _, s => s
def nextAt : Row → List Int → Nat → Nat
  | .iff n r, c, i => if at0 c n = 0 then i + 1 else r
  | .go r, _, _ => r
  | _, _, i => i + 1
/-- said, whether it came to its end, how many rows were done -/
def goM (rows : List Row) : Nat → List Int → Nat → List Int → Nat → List Int × Bool × Nat
  | 0, c, i, s, d => (s, (match rows[i]? with | none => true | some .fin => true | _ => false), d)
  | f + 1, c, i, s, d => match rows[i]? with
    | none => (s, true, d)
    | some .fin => (s, true, d)
    | some row => goM rows f (doRow row c) (nextAt row c i) (saidOf row c s) (d + 1)
def atEnd (rows : List Row) (i : Nat) : Bool := match rows[i]? with
  | none => true
  | some .fin => true
  | _ => false
theorem goM_end {rows : List Row} {f i d : Nat} {c s : List Int} (h : atEnd rows i = true) : goM rows f c i s d = (s, true, d) := by
  unfold atEnd at h
  cases f with
  | zero =>
    unfold goM
    cases e : rows[i]? with
    | none => rfl
    | some r => rw [e] at h; cases r <;> first | rfl | cases h
  | succ f =>
    unfold goM
    cases e : rows[i]? with
    | none => rfl
    | some r => rw [e] at h; cases r <;> first | rfl | cases h
theorem goM_out {rows : List Row} {i d : Nat} {c s : List Int} (h : atEnd rows i = false) : goM rows 0 c i s d = (s, false, d) := by
  unfold atEnd at h
  unfold goM
  cases e : rows[i]? with
  | none => simp [e] at h
  | some r => rw [e] at h; cases r <;> first | rfl | cases h
theorem goM_step {rows : List Row} {f i d : Nat} {c s : List Int} {row : Row} (e : rows[i]? = some row) (h : row ≠ .fin) : goM rows (f + 1) c i s d = goM rows f (doRow row c) (nextAt row c i) (saidOf row c s) (d + 1) := by
  rw [goM, e]
  cases row <;> first | rfl | exact absurd rfl h
theorem atEnd_of {rows : List Row} {i : Nat} (h : atEnd rows i = false) : ∃ row, rows[i]? = some row ∧ row ≠ .fin := by
  unfold atEnd at h
  cases e : rows[i]? with
  | none => simp [e] at h
  | some r =>
    refine ⟨r, rfl, fun z => ?_⟩
    rw [e, z] at h
    cases h
/-- numbers that names have -/
def Nums (c : List Int) : Prop := ∀ v ∈ c, 0 ≤ v ∧ v < 1000
theorem Nums.at0 {c : List Int} (h : Nums c) (n : Nat) : 0 ≤ at0 c n ∧ at0 c n < 1000 := by
  unfold Bw.at0
  cases e : c[n]? with
  | none => exact ⟨by decide, by decide⟩
  | some v => exact h v (List.mem_of_getElem? e)
theorem Nums.set {c : List Int} (h : Nums c) {n : Nat} {v : Int} (hv : 0 ≤ v ∧ v < 1000) : Nums (c.set n v) := fun z hz => by
  rcases List.mem_or_eq_of_mem_set hz with q | q
  · exact h z q
  · rw [q]; exact hv
theorem mod1000 (x : Int) : 0 ≤ x % 1000 ∧ x % 1000 < 1000 := ⟨Int.emod_nonneg _ (by decide), Int.emod_lt_of_pos _ (by decide)⟩
theorem Nums.row {c : List Int} (h : Nums c) {names many : Nat} {row : Row} (ok : RowOk names many row) : Nums (doRow row c) := by
  cases row with
  | put n v => exact h.set ok.2
  | copy n o => exact h.set (h.at0 o)
  | add n a b => exact h.set (mod1000 _)
  | take n a b => exact h.set (mod1000 _)
  | less n a b =>
    refine h.set ?_
    split <;> exact ⟨by decide, by decide⟩
  | call n o => exact h.set (mod1000 _)
  | _ => exact h
theorem doRow_len (row : Row) (c : List Int) : (doRow row c).length = c.length := by
  cases row <;> simp [doRow]
theorem next_le {names : Nat} {rows : List Row} {row : Row} {c : List Int} {i : Nat} (ok : RowOk names rows.length row) (h : rows[i]? = some row) : nextAt row c i ≤ rows.length := by
  have hi := (List.getElem?_eq_some_iff.mp h).1
  cases row with
  | iff n r =>
    have h2 : r < rows.length := ok.2
    simp only [nextAt]
    split <;> omega
  | go r =>
    have h2 : r < rows.length := ok
    simp only [nextAt]
    omega
  | _ => simp only [nextAt]; omega
theorem at_get {c : List Int} {n : Nat} (h : n < c.length) : (c.map V.int)[n]? = some (.int (at0 c n)) := by
  rw [List.getElem?_map, List.getElem?_eq_getElem h]
  unfold at0
  rw [List.getElem?_eq_getElem h]
  rfl
theorem at0_set {c : List Int} {n k : Nat} {v : Int} (h : n < c.length) : at0 (c.set n v) k = if k = n then v else at0 c k := by
  unfold at0
  by_cases e : k = n
  · subst e
    rw [if_pos rfl, List.getElem?_set_self h]
    rfl
  · rw [if_neg e, List.getElem?_set_ne (Ne.symm e)]
/-! ### numbers of names in a dict -/
/-- the dict tells each name's number -/
structure DictFor (kvs : List (Key × V)) (c : List Int) (most : Nat) : Prop where
  few : kvs.length ≤ most
  tells : ∀ n, n < c.length → valV kvs (Sum.inl (n : Int)) = some (.int (at0 c n))
theorem DictFor.put {kvs : List (Key × V)} {c : List Int} {most n : Nat} {v : Int} (h : DictFor kvs c most) (hn : n < c.length) : DictFor (putK kvs (Sum.inl (n : Int)) (.int v)) (c.set n v) (most + 1) := by
  refine ⟨Nat.le_trans (length_putK _ _ _) (Nat.succ_le_succ h.few), fun k hk => ?_⟩
  rw [List.length_set] at hk
  rw [valV_put, at0_set hn]
  by_cases e : k = n
  · subst e
    rw [if_pos rfl, if_pos rfl]
  · rw [if_neg e, if_neg (fun z => e (by have := Sum.inl.inj z; omega))]
    exact h.tells k hk
theorem DictFor.more {kvs : List (Key × V)} {c : List Int} {most : Nat} (h : DictFor kvs c most) : DictFor kvs c (most + 1) := ⟨Nat.le_succ_of_le h.few, h.tells⟩
def prs (f : Nat → V) (n : Nat) : List (Key × V) := (List.range n).map fun (i : Nat) => ((Sum.inl (i : Int) : Key), f i)
theorem prs_succ (f : Nat → V) (n : Nat) : prs f (n + 1) = prs f n ++ [(Sum.inl (n : Int), f n)] := by
  unfold prs
  rw [List.range_succ, List.map_append]
  rfl
theorem merge_val (f : Nat → V) (kvs : List (Key × V)) (k : Nat) : ∀ n, valV (mergeK kvs (prs f n)) (Sum.inl (k : Int)) = if k < n then some (f k) else valV kvs (Sum.inl (k : Int))
  | 0 => by rw [if_neg (Nat.not_lt_zero k)]; rfl
  | n + 1 => by
    have step : mergeK kvs (prs f (n + 1)) = putK (mergeK kvs (prs f n)) (Sum.inl (n : Int)) (f n) := by
      unfold mergeK
      rw [prs_succ, List.foldl_append]
      rfl
    rw [step, valV_put, merge_val f kvs k n]
    by_cases e : k = n
    · subst e
      rw [if_pos rfl, if_pos (Nat.lt_succ_self k)]
    · rw [if_neg (fun z => e (by have := Sum.inl.inj z; omega))]
      by_cases l : k < n
      · rw [if_pos l, if_pos (Nat.lt_succ_of_lt l)]
      · rw [if_neg l, if_neg (by omega)]
theorem prs_len (f : Nat → V) (n : Nat) : (prs f n).length = n := by simp [prs]
/-- the numbers at first -/
def cells0 (names : Nat) (given : List Int) : List Int := given ++ List.replicate (names - given.length) 0
theorem cells0_len {names : Nat} {given : List Int} (h : given.length ≤ names) : (cells0 names given).length = names := by
  unfold cells0
  simp only [List.length_append, List.length_replicate]
  omega
theorem cells0_at {names k : Nat} {given : List Int} : at0 (cells0 names given) k = if k < given.length then at0 given k else 0 := by
  unfold cells0 at0
  by_cases h : k < given.length
  · rw [if_pos h, List.getElem?_append_left h]
  · rw [if_neg h, List.getElem?_append_right (by omega), List.getElem?_replicate]
    split <;> rfl
theorem cells0_nums {names : Nat} {given : List Int} (h : Nums given) : Nums (cells0 names given) := fun v hv => by
  rcases List.mem_append.mp hv with q | q
  · exact h v q
  · rw [List.eq_of_mem_replicate q]
    exact ⟨by decide, by decide⟩
theorem dict0 {names : Nat} {given : List Int} (h : given.length ≤ names) : DictFor (mergeK (mergeK [] (prs (fun _ => .int 0) names)) (prs (fun i => .int (at0 given i)) given.length)) (cells0 names given) (names + names) := by
  refine ⟨?_, fun k hk => ?_⟩
  · refine Nat.le_trans (length_mergeK _ _) ?_
    have := length_mergeK (prs (fun _ => .int 0) names) []
    rw [prs_len] at *
    have e : ([] : List (Key × V)).length = 0 := rfl
    omega
  · rw [cells0_len h] at hk
    rw [merge_val, merge_val, cells0_at]
    by_cases l : k < given.length
    · rw [if_pos l, if_pos l]
    · rw [if_neg l, if_neg l, if_pos hk]
end Bw
namespace Bw
open PySem PySem.Spec PyProof.Rows L2 GxR
theorem nS {x y : Str} {A B : Prop} (h : decide (V.str x = V.str y) = false) (b : B) : if decide (V.str x = V.str y) = true then A else B := by
  rw [h]; exact iteF b
theorem yS {x : V} {A B : Prop} (a : A) : if decide (x = x) = true then A else B := by
  rw [decide_eq_true rfl]; exact iteT a
theorem nNS {x : V} {A B : Prop} (b : B) : if (!decide (x = x)) = true then A else B := iteNS rfl b
theorem yNS {x y : V} {A B : Prop} (h : decide (x = y) = false) (a : A) : if (!decide (x = y)) = true then A else B := by
  rw [h]; exact iteT a
theorem ifF {b : Bool} {A B : Prop} (h : b = false) (x : B) : if b = true then A else B := by
  rw [h]; exact iteF x
theorem ifT {b : Bool} {A B : Prop} (h : b = true) (x : A) : if b = true then A else B := by
  rw [h]; exact iteT x
theorem pairedSnoc {α β : Type} {F : α → β → Prop} : ∀ {xs : List α} {ys : List β} {x : α} {y : β}, Paired F xs ys → F x y → Paired F (xs ++ [x]) (ys ++ [y])
  | _, _, _, _, .nil, last => .cons last .nil
  | _, _, _, _, .cons r t, h => .cons r (pairedSnoc t h)
theorem cutFrom (xs : List V) (k : Nat) : cutV xs (some (k : Int)) none = xs.drop k := by
  unfold cutV
  rw [HT.sIx_nat, HT.sIx_none]
  by_cases h : k ≤ xs.length
  · rw [Nat.min_eq_left h]
    exact List.take_of_length_le (by rw [List.length_drop]; exact Nat.le_refl _)
  · rw [Nat.min_eq_right (by omega), List.drop_of_length_le (Nat.le_refl _), List.drop_of_length_le (by omega), List.take_nil]
theorem notAll {xs : List V} {k : Nat} (hk : 0 < k) (hx : 0 < xs.length) : ¬ (HT.sIx xs.length 0 (some (k : Int)) = 0 ∧ HT.sIx xs.length xs.length none = xs.length) := by
  rw [HT.sIx_nat]
  omega
theorem prs_merge (f : Nat → V) : ∀ n, mergeK [] (prs f n) = prs f n
  | 0 => rfl
  | n + 1 => by
    have fresh : valV (mergeK [] (prs f n)) (Sum.inl (n : Int)) = none := by
      rw [merge_val, if_neg (Nat.lt_irrefl n)]
      rfl
    have step : mergeK [] (prs f (n + 1)) = putK (mergeK [] (prs f n)) (Sum.inl (n : Int)) (f n) := by
      unfold mergeK
      rw [prs_succ, List.foldl_append]
      rfl
    rw [step, putK_new _ fresh, prs_merge f n, prs_succ]
def wordOf : Row → Str
  | .put .. => "put" | .copy .. => "copy" | .add .. => "add" | .take .. => "take" | .less .. => "less" | .call .. => "call" | .say .. => "say" | .iff .. => "if" | .go .. => "go" | .fin => "end"
theorem rowV_word (row : Row) : ∃ r, rowV row = .str (wordOf row) :: r := by
  cases row <;> exact ⟨_, rfl⟩
theorem word_end {row : Row} (h : row ≠ .fin) : decide (V.str (wordOf row) = V.str "end") = false := by
  cases row with
  | put => exact (by decide +kernel : decide (V.str "put" = V.str "end") = false)
  | copy => exact (by decide +kernel : decide (V.str "copy" = V.str "end") = false)
  | add => exact (by decide +kernel : decide (V.str "add" = V.str "end") = false)
  | take => exact (by decide +kernel : decide (V.str "take" = V.str "end") = false)
  | less => exact (by decide +kernel : decide (V.str "less" = V.str "end") = false)
  | call => exact (by decide +kernel : decide (V.str "call" = V.str "end") = false)
  | say => exact (by decide +kernel : decide (V.str "say" = V.str "end") = false)
  | iff => exact (by decide +kernel : decide (V.str "if" = V.str "end") = false)
  | go => exact (by decide +kernel : decide (V.str "go" = V.str "end") = false)
  | fin => exact absurd rfl h
theorem word_fin : wordOf .fin = "end" := rfl
/-- what a comprehension over a row's numbers gets from a dict -/
def getV (kvs : List (Key × V)) : V → V
  | .int k => (valV kvs (Sum.inl k)).getD (.int 0)
  | v => v
theorem drop2_ints (row : Row) : ∀ v ∈ (rowV row).drop 2, ∃ k : Int, v = .int k := by
  cases row <;> simp [rowV]
theorem rowV_small (row : Row) : (rowV row).length ≤ 4 := by cases row <;> simp [rowV]
theorem getV_at {kvs : List (Key × V)} {c : List Int} {most n : Nat} (h : DictFor kvs c most) (hn : n < c.length) : getV kvs (.int n) = .int (at0 c n) := by
  show (valV kvs (Sum.inl (n : Int))).getD (.int 0) = .int (at0 c n)
  rw [h.tells n hn]
  rfl
end Bw
namespace Bw
open PySem PySem.Spec PyProof.Rows L2 GxR
/-- what is told: (said, end, done), the list at sd -/
structure ToldAt (H : Hp) (a sd : Addr) (r : List Int × Bool × Nat) : Prop where
  ex : ∃ e : Addr, H a = some (.tup [.ref sd, .ref e, .int r.2.2]) ∧ H sd = some (.lst (r.1.map V.int)) ∧ H e = some (.tup [.str (if r.2.1 = true then "end" else "long")])
section
variable {base : Heap} {K : PySem.W.Frag} {mg : Str → Option Value} {P : Program} {w : World}
def spLrun : Sp := fun vs H Q _ => ∃ (a g : Addr) (p : Prog) (given : List Int) (fuel : Nat), vs = [.ref a, .ref g, .int fuel] ∧ ProgAt H a p ∧ p.Ok ∧ H g = some (.tup (given.map V.int)) ∧ given.length = p.params ∧ Nums given ∧ fuel ≤ 1000 ∧
  ∀ H' t sd, H sd = none → ToldAt H' t sd (goM p.rows fuel (cells0 p.names given) 0 [] 0) → Ext no H H' → Q (.ref t) H'
abbrev nLrun : List Str := ["_law_program_here", "_law_given", "_law_fuel", "_law_has", "_law_said", "_law_at", "_law_done", "_law_row_here", "_law_some", "_law_name", "_law_k", "_law_part"]
theorem scLrun : FnScope nLrun ["_law_program_here", "_law_given", "_law_fuel"] (defScope s_lrun) := ⟨rfl, rfl, rfl, by decide +kernel, rfl, by decide +kernel, by decide +kernel⟩
theorem ok_lrun {f : Addr} {fd : FuncData} (D : Df K mg "_law_run" s_lrun ["_law_program_here", "_law_given", "_law_fuel"] f fd) (B : Bt mg) :
    FnOk P w K mg base CX0 1 f fd ["_law_program_here", "_law_given", "_law_fuel"] spLrun := by
  refine D.F.ok scLrun (fun vs H Q E h => ?_) (fun cdv A outer s H vs Q E hr h => ?_)
  · obtain ⟨a, g, p, given, fuel, rfl, _⟩ := h
    rfl
  · obtain ⟨a, g, p, given, fuel, rfl, hp, ok, hg, hgl, hgn, hf, q⟩ := h
    have hu := hu_of hr
    refine ⟨_, pss_cons (ps_set (i := 3) scLrun.nd rfl (.inr rfl) (pe_callTy (call_dictP rfl) (by rfl) B.dict (by decide +kernel) (pa_cons
        (pe_lc (own := [("_law_name", 9)]) (g := gName 9) (tt := tYes) rfl scLrun.nd (pi_range1 (by rfl) B.range (pa_cons (pe_ix ix_tup (pv 0) pe_int (fun _ _ => rfl)) pa_nil)) (blkOk_by (N := nLrun) (sc := defScope s_lrun) (by decide +kernel))
          (fun _ _ _ _ _ => pg_name (i := 9) scLrun.nd rfl (Or.inl rfl)) (fun _ _ _ _ _ => pts_nil) (fun _ _ _ _ _ => pe_tup (pa_cons (pv 9) (pa_cons pe_int pa_nil)))) pa_nil)))
      (pss_cons (ps_expr (pe_bm PySem.F.plainAttrs_dict PySem.F.slot_dict_update PySem.F.type_dict_update mt_update (pv 3) (pa_cons (pe_callTy (call_dictP rfl) (by rfl) B.dict (by decide +kernel) (pa_cons
        (pe_lc (own := [("_law_k", 10)]) (g := gName 10) (tt := tYes) rfl scLrun.nd (pi_range1 (by rfl) B.range (pa_cons (pe_callB call_len_seq (by rfl) B.len PySem.boot_len (pa_cons (pv 1) pa_nil)) pa_nil)) (blkOk_by (N := nLrun) (sc := defScope s_lrun) (by decide +kernel))
          (fun _ _ _ _ _ => pg_name (i := 10) scLrun.nd rfl (Or.inl rfl)) (fun _ _ _ _ _ => pts_nil) (fun _ _ _ _ _ => pe_tup (pa_cons (pv 10) (pa_cons (pe_ix (r := rIxT K) ix_tup (pv 1) (pv 10) (fun _ _ => rfl)) pa_nil)))) pa_nil)) pa_nil)))
      (pss_cons (ps_par3 (i := 4) (j := 5) (l := 6) rfl scLrun.nd rfl rfl rfl (by decide) (by decide) (by decide) rfl rfl rfl (pa_cons (pe_lst pa_nil) (pa_cons pe_int (pa_cons pe_int pa_nil))) (by rfl))
      (pss_cons (ps_while PassesOwn.never (PW.pt (pw_and (pt_cmpR op_lt (pv 5) (pe_callB call_len_seq (by rfl) B.len PySem.boot_len (pa_cons (pe_ix ix_tup (pv 0) pe_int (fun _ _ => rfl)) pa_nil)) (nomark _))
          (pw_and1 (pt_cmpR op_ne (pe_ix ix_tup (pe_ix ix_tup (pe_ix ix_tup (pv 0) pe_int (fun _ _ => rfl)) (pv 5) (fun _ _ => rfl)) pe_int (fun _ _ => rfl)) pe_str (nomark _)))))
        (pss_cons (ps_if (pt_cmpR op_eq (pv 6) (pv 2) (nomark _)) (pss_one (ps_ret (pe_tup (pa_cons (pv 4) (pa_cons (pe_tup (pa_cons pe_str pa_nil)) (pa_cons (pv 6) pa_nil)))))) pss_nil)
        (pss_cons (ps_par3 (i := 7) (j := 6) (l := 5) rfl scLrun.nd rfl rfl rfl (by decide) (by decide) (by decide) rfl rfl rfl (pa_cons (pe_ix ix_tup (pe_ix ix_tup (pv 0) pe_int (fun _ _ => rfl)) (pv 5) (fun _ _ => rfl)) (pa_cons (pe_op op_add (pv 6) pe_int) (pa_cons (pe_op op_add (pv 5) pe_int) pa_nil))) (by rfl))
        (pss_cons (ps_setLc (i := 8) (own := [("_law_part", 11)]) (g := gName 11) (tt := tYes) rfl scLrun.nd rfl rfl (sw_true rfl rfl rfl (by decide +kernel)) (pi_tup (pe_slice sl_tup (pv 7) (po_some pe_int) po_none)) (blkOk_by (N := nLrun) (sc := defScope s_lrun) (by decide +kernel))
          (fun _ _ _ _ _ => pg_name (i := 11) scLrun.nd rfl (Or.inl rfl)) (fun _ _ _ _ _ => pts_nil) (fun _ _ _ _ _ => pe_dget2 hu (pv 3) (pv 11) pe_int ⟨rfl, rfl, rfl, rfl⟩))
        (pss_one (ps_if (pt_cmpR op_eq (pe_ix ix_tup (pv 7) pe_int (fun _ _ => rfl)) pe_str (nomark _)) (pss_one (ps_dput hu (pv 3) (pe_ix ix_tup (pv 7) pe_int (fun _ _ => rfl)) (pe_ix ix_tup (pv 7) pe_int (fun _ _ => rfl)) rfl))
        (pss_one (ps_if (pt_cmpR op_eq (pe_ix ix_tup (pv 7) pe_int (fun _ _ => rfl)) pe_str (nomark _)) (pss_one (ps_dput hu (pv 3) (pe_ix ix_tup (pv 7) pe_int (fun _ _ => rfl)) (pe_ix ix_list (pv 8) pe_int (fun _ _ => rfl)) rfl))
        (pss_one (ps_if (pt_cmpR op_eq (pe_ix ix_tup (pv 7) pe_int (fun _ _ => rfl)) pe_str (nomark _)) (pss_one (ps_dput hu (pv 3) (pe_ix ix_tup (pv 7) pe_int (fun _ _ => rfl))
            (pe_op op_mod (pe_op op_add (pe_op op_add (pe_op op_mul pe_int (pe_op op_pow (pe_ix ix_list (pv 8) pe_int (fun _ _ => rfl)) pe_int)) (pe_ix ix_list (pv 8) pe_int (fun _ _ => rfl))) pe_int) pe_int) rfl))
        (pss_one (ps_if (pt_cmpR op_eq (pe_ix ix_tup (pv 7) pe_int (fun _ _ => rfl)) pe_str (nomark _)) (pss_one (ps_dput hu (pv 3) (pe_ix ix_tup (pv 7) pe_int (fun _ _ => rfl))
            (pe_callTy call_int1 (by rfl) B.int (by decide +kernel) (pa_cons (pe_cmpR op_lt (pe_ix ix_list (pv 8) pe_int (fun _ _ => rfl)) (pe_ix ix_list (pv 8) pe_int (fun _ _ => rfl)) (nomark _)) pa_nil)) rfl))
        (pss_one (ps_if (pt_cmpR op_in_seq (pe_ix ix_tup (pv 7) pe_int (fun _ _ => rfl)) (pe_tup (pa_cons pe_str (pa_cons pe_str pa_nil))) (by rfl)) (pss_one (ps_dput hu (pv 3) (pe_ix ix_tup (pv 7) pe_int (fun _ _ => rfl))
            (pe_op op_mod (pe_op op_add (pe_ix ix_list (pv 8) pe_int (fun _ _ => rfl)) (pe_op op_mul (pe_ix ix_list (pv 8) pe_int (fun _ _ => rfl)) (pe_ix ix_list (pe_lst (pa_cons pe_int (pa_cons (pe_un un_neg pe_int) pa_nil)))
              (pe_callTy call_int1 (by rfl) B.int (by decide +kernel) (pa_cons (pe_cmpR op_eq (pe_ix ix_tup (pv 7) pe_int (fun _ _ => rfl)) pe_str (nomark _)) pa_nil)) (fun _ _ => rfl)))) pe_int) rfl))
        (pss_one (ps_if (pt_cmpR op_eq (pe_ix ix_tup (pv 7) pe_int (fun _ _ => rfl)) pe_str (nomark _)) (pss_one (ps_expr (pe_bm PySem.F.plainAttrs_list PySem.F.slot_list_append PySem.F.type_list_append mt_append (pv 4) (pa_cons (pe_dget hu (pv 3) (pe_ix ix_tup (pv 7) pe_int (fun _ _ => rfl)) (fun _ _ => rfl)) pa_nil))))
        (pss_one (ps_if (PW.pt (pw_or (pt_cmpR op_eq (pe_ix ix_tup (pv 7) pe_int (fun _ _ => rfl)) pe_str (nomark _)) (pw_or1 (pt_cmpR op_ne (pe_dget hu (pv 3) (pe_ix ix_tup (pv 7) pe_int (fun _ _ => rfl)) (fun _ _ => rfl)) pe_int (nomark _)))))
            (pss_one (ps_set (i := 5) scLrun.nd rfl (.inl rfl) (pe_ix ix_tup (pv 7) (pe_un un_neg pe_int) (fun _ _ => rfl)))) pss_nil))))))))))))))))))
      (pss_one (ps_ret (pe_tup (pa_cons (pv 4) (pa_cons (pe_tup (pa_cons pe_str pa_nil)) (pa_cons (pv 6) pa_nil))))))))), ?_⟩
    obtain ⟨rs, as, ha, hrs, hrows⟩ := hp.ex
    have n8 := ok.n1
    -- has = dict([(name, 0) ..])
    refine ⟨_, rfl, a, _, 1, _, rfl, rfl, SqT.of ha, atI_nat (j := 1) rfl, (p.names : Int), rfl, by omega, by omega, fun D1 nD1 => ?_⟩
    refine lc_range (lo := 0) (n := p.names) (fun i H2 => ∃ ps : List Addr, ps.length = i ∧ H2 D1 = some (.lst (ps.map V.ref)) ∧ Paired (fun q kv => SqT K H2 q [kV kv.1, kv.2]) ps (prs (fun _ => .int 0) i) ∧ Ext no H H2)
      ⟨[], rfl, upd_same, .nil, Ext.new nD1⟩ ?_ ?_
    · rintro i H2 hi ⟨ps, hl, hD, hps, x2⟩
      rw [show ((0 : Int) + (i : Int)) = (i : Int) from Int.zero_add _]
      refine ⟨rfl, ?_⟩
      refine ⟨_, rfl, by show 2 ≤ sizeLine; decide, fun t nt => ?_⟩
      have hD' : (upd H2 t (.tup [.int i, .int 0])) D1 = some (.lst (ps.map V.ref)) := by rw [upd_ne (ne_of_none hD nt)]; exact hD
      have x3 : Ext (fun x => x = D1) H2 (upd (upd H2 t (.tup [.int i, .int 0])) D1 (.lst (ps.map V.ref ++ [.ref t]))) := (Ext.new nt).trans (Ext.put hD' rfl (fun _ z => by cases z) (fun _ z => by cases z))
      refine ⟨_, hD', by rw [List.length_map]; exact small_lt (k := 8) (by omega) (by decide), ps ++ [t], by rw [List.length_append, hl]; rfl, by rw [upd_same, List.map_append]; rfl, ?_, (x2.trans (Ext.new nt)).own nD1⟩
      rw [prs_succ]
      refine pairedSnoc (Paired.mapP hps fun q kv z => ?_) (SqT.of ((Ext.put (m := fun x => x = D1) hD' rfl (fun _ z => by cases z) (fun _ z => by cases z)).tup _ _ upd_same))
      rcases z with (z | ⟨o, z⟩) | z
      · exact .inl (.inl (x3.tup _ _ z))
      · exact .inl (.inr ⟨o, x3.oth q _ (fun e => by rw [e, hD] at z; cases z) (fun _ y => by cases y) z⟩)
      · exact .inr z
    rintro H2 ⟨ps, hl, hD, hps, x2⟩
    refine ⟨D1, ps, _, rfl, SqL.of hD, hps, fun d nd => ?_⟩
    have x3 : Ext no H (upd H2 d (.dK (mergeK [] (prs (fun _ => .int 0) p.names)))) := x2.trans (Ext.new nd)
    have nd0 : H d = none := x2.dom d nd
    generalize hH3 : upd H2 d (.dK (mergeK [] (prs (fun _ => .int 0) p.names))) = H3 at x3
    have hd3 : H3 d = some (.dK (mergeK [] (prs (fun _ => .int 0) p.names))) := by rw [← hH3]; exact upd_same
    -- has.update(dict([(k, given[k]) ..]))
    have hg3 := x3.tup _ _ hg
    refine ⟨_, rfl, .inr (.inr (.inl ⟨rfl, .inl ⟨_, hd3⟩⟩)), _, rfl, g, _, rfl, .inr (SqT.of hg3), ((given.map V.int).length : Int), rfl, by rw [List.length_map]; omega, by rw [List.length_map]; have := ok.pn; omega, fun D2 nD2 => ?_⟩
    have glen : (given.map V.int).length = given.length := List.length_map ..
    refine lc_range (lo := 0) (n := (given.map V.int).length) (fun i H4 => ∃ ps : List Addr, ps.length = i ∧ H4 D2 = some (.lst (ps.map V.ref)) ∧ Paired (fun q kv => SqT K H4 q [kV kv.1, kv.2]) ps (prs (fun i => .int (at0 given i)) i) ∧ Ext no H3 H4)
      ⟨[], rfl, upd_same, .nil, Ext.new nD2⟩ ?_ ?_
    · rintro i H4 hi ⟨ps, hl, hD, hps, x4⟩
      rw [show ((0 : Int) + (i : Int)) = (i : Int) from Int.zero_add _]
      rw [glen] at hi
      refine ⟨rfl, ?_⟩
      refine ⟨_, rfl, _, rfl, _, rfl, g, _, i, _, rfl, rfl, SqT.of (x4.tup _ _ hg3), atI_nat (at_get hi), by show 2 ≤ sizeLine; decide, fun t nt => ?_⟩
      have hD' : (upd H4 t (.tup [.int i, .int (at0 given i)])) D2 = some (.lst (ps.map V.ref)) := by rw [upd_ne (ne_of_none hD nt)]; exact hD
      have x5 : Ext (fun x => x = D2) H4 (upd (upd H4 t (.tup [.int i, .int (at0 given i)])) D2 (.lst (ps.map V.ref ++ [.ref t]))) := (Ext.new nt).trans (Ext.put hD' rfl (fun _ z => by cases z) (fun _ z => by cases z))
      refine ⟨_, hD', by rw [List.length_map]; have := ok.pn; exact small_lt (k := 8) (by omega) (by decide), ps ++ [t], by rw [List.length_append, hl]; rfl, by rw [upd_same, List.map_append]; rfl, ?_, (x4.trans (Ext.new nt)).own nD2⟩
      rw [prs_succ]
      refine pairedSnoc (Paired.mapP hps fun q kv z => ?_) (SqT.of ((Ext.put (m := fun x => x = D2) hD' rfl (fun _ z => by cases z) (fun _ z => by cases z)).tup _ _ upd_same))
      rcases z with (z | ⟨o, z⟩) | z
      · exact .inl (.inl (x5.tup _ _ z))
      · exact .inl (.inr ⟨o, x5.oth q _ (fun e => by rw [e, hD] at z; cases z) (fun _ y => by cases y) z⟩)
      · exact .inr z
    rintro H4 ⟨ps2, hl2, hD2, hps2, x4⟩
    have hd4 : H4 d = some (.dK (mergeK [] (prs (fun _ => .int 0) p.names))) := x4.oth d _ (fun z => z) (fun _ z => by cases z) hd3
    refine ⟨D2, ps2, _, rfl, SqL.of hD2, hps2, fun d2 nd2 => ?_⟩
    have ned : d ≠ d2 := ne_of_none hd4 nd2
    have hle : given.length ≤ p.names := by rw [hgl]; exact ok.pn
    have dct := dict0 hle
    rw [glen]
    have l1 : (mergeK ([] : List (Key × V)) (prs (fun _ => .int 0) p.names)).length ≤ 8 := by
      refine Nat.le_trans (length_mergeK _ _) ?_
      rw [prs_len]
      show 0 + p.names ≤ 8
      omega
    have l2 : (mergeK ([] : List (Key × V)) (prs (fun i => .int (at0 given i)) given.length)).length ≤ 8 := by
      refine Nat.le_trans (length_mergeK _ _) ?_
      rw [prs_len]
      show 0 + given.length ≤ 8
      omega
    refine ⟨d, d2, _, _, rfl, rfl, by rw [upd_ne ned]; exact hd4, upd_same, ned, Nat.le_of_lt (small_lt (k := 16) (by omega) (by decide)), ?_⟩
    rw [prs_merge (fun i => .int (at0 given i)) given.length]
    generalize hK : mergeK (mergeK [] (prs (fun _ => .int 0) p.names)) (prs (fun i => .int (at0 given i)) given.length) = kvs0 at dct
    generalize hc0 : cells0 p.names given = c0 at dct q
    have c0l : c0.length = p.names := by rw [← hc0]; exact cells0_len hle
    have c0n : Nums c0 := by rw [← hc0]; exact cells0_nums hgn
    generalize hH5 : upd (upd H4 d2 (.dK (prs (fun i => .int (at0 given i)) given.length))) d (.dK kvs0) = H5
    have hd5 : H5 d = some (.dK kvs0) := by rw [← hH5]; exact upd_same
    have x5 : Ext no H H5 := by rw [← hH5]; exact ((x3.trans x4).trans (Ext.new nd2)).own nd0
    -- said, at, done = [], 0, 0
    refine ⟨Nat.zero_le _, fun sd nsd => ⟨_, _, _, rfl, ?_⟩⟩
    have nsd0 : H sd = none := x5.dom sd nsd
    -- the loop
    let Wn : Nat → L2.St → Hp → Prop := fun m σ H2 => ∃ (c : List Int) (i : Nat) (said : List Int) (done : Nat) (kvs : List (Key × V)) (v7 v8 : Option V),
      σ = [some (.ref a), some (.ref g), some (.int fuel), some (.ref d), some (.ref sd), some (.int i), some (.int done), v7, v8, none, none, none] ∧ m = fuel - done ∧ done ≤ fuel ∧ c.length = p.names ∧ Nums c ∧
      H2 d = some (.dK kvs) ∧ DictFor kvs c (16 + done) ∧ H2 sd = some (.lst (said.map V.int)) ∧ said.length ≤ done ∧ Ext no H H2 ∧ goM p.rows (fuel - done) c i said done = goM p.rows fuel c0 0 [] 0
    refine ⟨Wn, ⟨fuel, c0, 0, [], 0, kvs0, none, none, rfl, rfl, Nat.zero_le _, c0l, c0n, by rw [upd_ne (ne_of_none hd5 nsd)]; exact hd5, ⟨Nat.le_trans dct.few (by omega), dct.tells⟩, upd_same, Nat.le_refl _, x5.trans (Ext.new nsd), rfl⟩, ?_⟩
    rintro m σ H6 ⟨c, i, said, done, kvs, v7, v8, rfl, rfl, hdf, hcl, hcn, hd6, dct6, hs6, hsl, x6, hgo⟩
    have ha6 := x6.tup _ _ ha
    have hrs6 := x6.tup _ _ hrs
    have hrl : (as.map V.ref).length = p.rows.length := by rw [List.length_map, hrows.len]
    -- the end of the run
    have theEnd : ∀ b : Bool, goM p.rows (fuel - done) c i said done = (said, b, done) → ∀ e, H6 e = none → ∀ t, (upd H6 e (.tup [.str (if b = true then "end" else "long")])) t = none →
        Q (.ref t) (upd (upd H6 e (.tup [.str (if b = true then "end" else "long")])) t (.tup [.ref sd, .ref e, .int done])) := fun b hb e ne t nt => by
      have ys : Ext no H6 (upd (upd H6 e (.tup [.str (if b = true then "end" else "long")])) t (.tup [.ref sd, .ref e, .int done])) := (Ext.new ne).trans (Ext.new nt)
      refine q _ t sd nsd0 ?_ (x6.trans ys)
      rw [← hgo, hb]
      exact ⟨e, upd_same, ys.lst (fun z => z) hs6, (Ext.new (m := no) nt).tup _ _ upd_same⟩
    refine ⟨_, rfl, _, rfl, a, _, 2, _, rfl, rfl, SqT.of ha6, atI_nat (j := 2) rfl, rs, _, rfl, .inr (SqT.of hrs6), _, _, rfl, rfl, _, rfl, ite2 (fun e => ?_) (fun e => ?_)⟩
    rotate_left
    · -- behind the last row
      have hi : ¬ i < p.rows.length := fun z => e (decide_eq_true (by rw [hrl]; omega))
      have hend : atEnd p.rows i = true := by
        unfold atEnd
        have none_there : p.rows[i]? = none := by rw [List.getElem?_eq_none_iff]; omega
        rw [none_there]
      exact ⟨_, rfl, by show 1 ≤ sizeLine; decide, fun e' ne' => ⟨_, rfl, by show 3 ≤ sizeLine; decide, fun t nt => theEnd true (goM_end hend) e' ne' t nt⟩⟩
    have hi : i < p.rows.length := by
      have := of_decide_eq_true e
      rw [hrl] at this
      omega
    obtain ⟨r, her⟩ : ∃ r, as[i]? = some r := ⟨_, List.getElem?_eq_getElem (by rw [hrows.len]; exact hi)⟩
    obtain ⟨row, hrow⟩ : ∃ row, p.rows[i]? = some row := ⟨_, List.getElem?_eq_getElem hi⟩
    have hr6 : H6 r = some (.tup (rowV row)) := x6.tup _ _ (hrows.at_ i r row her hrow)
    have rok : RowOk p.names p.rows.length row := ok.ok row (List.mem_of_getElem? hrow)
    have har : (as.map V.ref)[i]? = some (.ref r) := by rw [List.getElem?_map, her]; rfl
    obtain ⟨rest, hrest⟩ := rowV_word row
    have w0 : (rowV row)[0]? = some (.str (wordOf row)) := by rw [hrest]; rfl
    refine ⟨_, rfl, a, _, 2, _, rfl, rfl, SqT.of ha6, atI_nat (j := 2) rfl, _, rfl, rs, _, i, _, rfl, rfl, SqT.of hrs6, atI_nat har, r, _, 0, _, rfl, rfl, SqT.of hr6, atI_nat (j := 0) w0, rfl, _, rfl, ?_⟩
    by_cases hfin : row = .fin
    · subst hfin
      refine iteNS rfl ?_
      have hend : atEnd p.rows i = true := by
        unfold atEnd
        rw [hrow]
      exact ⟨_, rfl, by show 1 ≤ sizeLine; decide, fun e' ne' => ⟨_, rfl, by show 3 ≤ sizeLine; decide, fun t nt => theEnd true (goM_end hend) e' ne' t nt⟩⟩
    refine yNS (word_end hfin) ?_
    have hnot : atEnd p.rows i = false := by
      unfold atEnd
      rw [hrow]
      cases row <;> first | rfl | exact absurd rfl hfin
    refine ⟨fun σ' H' => done < fuel ∧ Wn (fuel - (done + 1)) σ' H', fun σ' H' ⟨lt, h⟩ => ⟨_, by omega, h⟩, ?_⟩
    -- if done == fuel
    refine ⟨_, rfl, _, rfl, rfl, _, rfl, ite2 (fun e2 => ?_) (fun e2 => ?_)⟩
    · have ef : (done : Int) = (fuel : Int) := V.int.inj (of_decide_eq_true e2)
      have e0 : fuel - done = 0 := by omega
      exact ⟨_, rfl, by show 1 ≤ sizeLine; decide, fun e' ne' => ⟨_, rfl, by show 3 ≤ sizeLine; decide, fun t nt => theEnd false (by rw [e0]; exact goM_out hnot) e' ne' t nt⟩⟩
    have lt : done < fuel := by
      have : ¬ (done : Int) = (fuel : Int) := fun z => e2 (decide_eq_true (by rw [z]))
      omega
    refine ⟨_, rfl, a, _, 2, _, rfl, rfl, SqT.of ha6, atI_nat (j := 2) rfl, _, rfl, rs, _, i, _, rfl, rfl, SqT.of hrs6, atI_nat har, _, rfl, _, _, rfl, rfl, _, rfl, _, _, rfl, rfl, _, _, _, rfl, ?_⟩
    -- some = [has.get(part, 0) for part in row_here[2:]]
    have cf : cutV (rowV row) (some 2) none = (rowV row).drop 2 := cutFrom _ 2
    refine ⟨_, rfl, 2, rfl, r, _, rfl, SqT.of hr6, notAll (k := 2) (by decide) (by rw [hrest]; exact Nat.zero_lt_succ _), fun sp nsp => ?_⟩
    rw [cf]
    have xs6 : Ext no H6 (upd H6 sp (.tup ((rowV row).drop 2))) := Ext.new nsp
    have hsp : (upd H6 sp (.tup ((rowV row).drop 2))) sp = some (.tup ((rowV row).drop 2)) := upd_same
    have hd6' := xs6.oth d _ (fun z => z) (fun _ z => by cases z) hd6
    generalize upd H6 sp (.tup ((rowV row).drop 2)) = H6s at xs6 hsp hd6'
    refine ⟨sp, rfl, ⟨_, SqT.of hsp⟩, fun D nD => ?_⟩
    refine lc_tup (K := K) (a := sp) (xs := (rowV row).drop 2) (fun j H7 => H7 D = some (.lst ((((rowV row).drop 2).take j).map (getV kvs))) ∧ Ext no H6s H7)
      ⟨upd_same, Ext.new nD⟩ (fun j H7 _ ⟨_, x7⟩ => SqT.of (x7.tup _ _ hsp)) ?_ ?_
    · rintro j x H7 hx ⟨hD, x7⟩
      obtain ⟨k, rfl⟩ := drop2_ints row x (List.mem_of_getElem? hx)
      have hd7 := x7.oth d _ (fun z => z) (fun _ z => by cases z) hd6'
      refine ⟨rfl, ?_⟩
      have small : ((((rowV row).drop 2).take j).map (getV kvs)).length ≤ 4 := by
        rw [List.length_map, List.length_take, List.length_drop]
        have := rowV_small row
        omega
      refine ⟨_, rfl, d, rfl, .inl ⟨kvs, .inl hd7⟩, _, rfl, _, DGet.k (k := Sum.inl k) hd7, _, hD, small_lt small (by decide), ?_, x7.own nD⟩
      rw [upd_same, List.take_add_one, hx, List.map_append]
      rfl
    rintro H7 ⟨hD7, x7⟩
    rw [List.take_of_length_le (Nat.le_refl _)] at hD7
    have x67 : Ext no H6 H7 := xs6.trans x7
    have xx7 : Ext no H H7 := x6.trans x67
    have hr7 := x67.tup _ _ hr6
    have hd7 := x67.oth d _ (fun z => z) (fun _ z => by cases z) hd6
    have hs7 := x67.lst (fun z => z) hs6
    have dct7 := dct6.more
    have few : kvs.length < sizeLine := small_lt (k := 2000) (by have := dct6.few; omega) (by decide)
    have fin : ∀ (c' : List Int) (i' : Nat) (said' : List Int) (kvs' : List (Key × V)) (H9 : Hp), H9 d = some (.dK kvs') → DictFor kvs' c' (16 + done + 1) → H9 sd = some (.lst (said'.map V.int)) → said'.length ≤ done + 1 → Ext no H H9 →
        c' = doRow row c → i' = nextAt row c i → said' = saidOf row c said →
        Wn (fuel - (done + 1)) [some (.ref a), some (.ref g), some (.int fuel), some (.ref d), some (.ref sd), some (.int i'), some (.int ((done + 1 : Nat) : Int)), some (.ref r), some (.ref D), none, none, none] H9 := fun c' i' said' kvs' H9 q1 q2 q3 q4 q5 e1 e2 e3 => by
      refine ⟨c', i', said', done + 1, kvs', _, _, rfl, rfl, lt, by rw [e1, doRow_len]; exact hcl, by rw [e1]; exact hcn.row rok, q1, ⟨Nat.le_trans q2.few (by omega), q2.tells⟩, q3, q4, q5, ?_⟩
      rw [e1, e2, e3, ← hgo, show fuel - done = (fuel - (done + 1)) + 1 by omega, goM_step hrow hfin]
    cases row with
    | put n v =>
      refine ⟨_, rfl, r, _, 0, _, rfl, rfl, SqT.of hr7, atI_nat (j := 0) rfl, rfl, _, rfl, yS ?_⟩
      exact ⟨_, rfl, r, _, 2, _, rfl, rfl, SqT.of hr7, atI_nat (j := 2) rfl, _, rfl, _, rfl, r, _, 1, _, rfl, rfl, SqT.of hr7, atI_nat (j := 1) rfl, d, _, rfl, DPut.k (k := Sum.inl (n : Int)) hd7 few, ⟨lt, fin _ _ _ _ _ upd_same (dct6.put (by rw [hcl]; exact rok.1)) (by rw [upd_ne (ne_of hs7 hd7 (by intro z; cases z))]; exact hs7) (Nat.le_succ_of_le hsl) (xx7.own nd0) rfl rfl rfl⟩⟩
    | copy n o =>
      have g0 : getV kvs (.int o) = .int (at0 c o) := getV_at dct6 (by rw [hcl]; exact rok.2)
      have hD7 : H7 D = some (.lst [.int (at0 c o)]) := by rw [← g0]; exact hD7
      refine ⟨_, rfl, r, _, 0, _, rfl, rfl, SqT.of hr7, atI_nat (j := 0) rfl, rfl, _, rfl, nS (by decide +kernel) ?_⟩
      refine ⟨_, rfl, r, _, 0, _, rfl, rfl, SqT.of hr7, atI_nat (j := 0) rfl, rfl, _, rfl, yS ?_⟩
      exact ⟨_, rfl, D, _, 0, _, rfl, rfl, SqL.of hD7, atI_nat (j := 0) rfl, _, rfl, _, rfl, r, _, 1, _, rfl, rfl, SqT.of hr7, atI_nat (j := 1) rfl, d, _, rfl, DPut.k (k := Sum.inl (n : Int)) hd7 few, ⟨lt, fin _ _ _ _ _ upd_same (dct6.put (by rw [hcl]; exact rok.1)) (by rw [upd_ne (ne_of hs7 hd7 (by intro z; cases z))]; exact hs7) (Nat.le_succ_of_le hsl) (xx7.own nd0) rfl rfl rfl⟩⟩
    | call n o =>
      have g0 : getV kvs (.int o) = .int (at0 c o) := getV_at dct6 (by rw [hcl]; exact rok.2)
      have hD7 : H7 D = some (.lst [.int (at0 c o)]) := by rw [← g0]; exact hD7
      have bo := hcn.at0 o
      have e7 : (7 * at0 c o ^ (2 : Int).toNat + at0 c o + 3) % 1000 = (7 * at0 c o * at0 c o + at0 c o + 3) % 1000 := by rw [show (2 : Int).toNat = 2 from rfl, Int.pow_succ, Int.pow_succ, Int.pow_zero, Int.one_mul, Int.mul_assoc]
      refine ⟨_, rfl, r, _, 0, _, rfl, rfl, SqT.of hr7, atI_nat (j := 0) rfl, rfl, _, rfl, nS (by decide +kernel) ?_⟩
      refine ⟨_, rfl, r, _, 0, _, rfl, rfl, SqT.of hr7, atI_nat (j := 0) rfl, rfl, _, rfl, nS (by decide +kernel) ?_⟩
      refine ⟨_, rfl, r, _, 0, _, rfl, rfl, SqT.of hr7, atI_nat (j := 0) rfl, rfl, _, rfl, yS ?_⟩
      refine ⟨_, rfl, D, _, 0, _, rfl, rfl, SqL.of hD7, atI_nat (j := 0) rfl, _, _, rfl, rfl, ⟨by decide, by decide, by omega⟩, _, _, rfl, rfl, .inl ⟨by decide, by decide⟩, _, rfl, D, _, 0, _, rfl, rfl, SqL.of hD7, atI_nat (j := 0) rfl, _, _, rfl, rfl, _, _, rfl, rfl, _, _, rfl, rfl, (by show (0 : Int) < 1000; decide), ?_⟩
      refine ⟨_, rfl, _, rfl, r, _, 1, _, rfl, rfl, SqT.of hr7, atI_nat (j := 1) rfl, d, _, rfl, DPut.k (k := Sum.inl (n : Int)) hd7 few, ⟨lt, ?_⟩⟩
      exact fin _ _ _ _ _ upd_same (by show DictFor (putK kvs (Sum.inl (n : Int)) (.int ((7 * at0 c o ^ (2 : Int).toNat + at0 c o + 3) % 1000))) _ _; rw [e7]; exact dct6.put (by rw [hcl]; exact rok.1)) (by rw [upd_ne (ne_of hs7 hd7 (by intro z; cases z))]; exact hs7) (Nat.le_succ_of_le hsl) (xx7.own nd0) rfl rfl rfl
    | less n a' b' =>
      have g0 : getV kvs (.int a') = .int (at0 c a') := getV_at dct6 (by rw [hcl]; exact rok.2.1)
      have g1 : getV kvs (.int b') = .int (at0 c b') := getV_at dct6 (by rw [hcl]; exact rok.2.2)
      have hD7 : H7 D = some (.lst [.int (at0 c a'), .int (at0 c b')]) := by rw [← g0, ← g1]; exact hD7
      have ba := hcn.at0 a'
      have bb := hcn.at0 b'
      refine ⟨_, rfl, r, _, 0, _, rfl, rfl, SqT.of hr7, atI_nat (j := 0) rfl, rfl, _, rfl, nS (by decide +kernel) ?_⟩
      refine ⟨_, rfl, r, _, 0, _, rfl, rfl, SqT.of hr7, atI_nat (j := 0) rfl, rfl, _, rfl, nS (by decide +kernel) ?_⟩
      refine ⟨_, rfl, r, _, 0, _, rfl, rfl, SqT.of hr7, atI_nat (j := 0) rfl, rfl, _, rfl, nS (by decide +kernel) ?_⟩
      refine ⟨_, rfl, r, _, 0, _, rfl, rfl, SqT.of hr7, atI_nat (j := 0) rfl, rfl, _, rfl, yS ?_⟩
      refine ⟨_, rfl, D, _, 0, _, rfl, rfl, SqL.of hD7, atI_nat (j := 0) rfl, _, rfl, D, _, 1, _, rfl, rfl, SqL.of hD7, atI_nat (j := 1) rfl, _, _, rfl, rfl, .inr ⟨_, rfl, ?_⟩⟩
      refine ⟨_, rfl, _, rfl, r, _, 1, _, rfl, rfl, SqT.of hr7, atI_nat (j := 1) rfl, d, _, rfl, DPut.k (k := Sum.inl (n : Int)) hd7 few, ⟨lt, ?_⟩⟩
      refine fin _ _ _ _ _ upd_same (dct6.put (by rw [hcl]; exact rok.1)) (by rw [upd_ne (ne_of hs7 hd7 (by intro z; cases z))]; exact hs7) (Nat.le_succ_of_le hsl) (xx7.own nd0) ?_ rfl rfl
      show c.set n _ = c.set n _
      congr 1
      simp only [decide_eq_true_eq]
    | add n a' b' =>
      have g0 : getV kvs (.int a') = .int (at0 c a') := getV_at dct6 (by rw [hcl]; exact rok.2.1)
      have g1 : getV kvs (.int b') = .int (at0 c b') := getV_at dct6 (by rw [hcl]; exact rok.2.2)
      have hD7 : H7 D = some (.lst [.int (at0 c a'), .int (at0 c b')]) := by rw [← g0, ← g1]; exact hD7
      have ba := hcn.at0 a'
      have bb := hcn.at0 b'
      refine ⟨_, rfl, r, _, 0, _, rfl, rfl, SqT.of hr7, atI_nat (j := 0) rfl, rfl, _, rfl, nS (by decide +kernel) ?_⟩
      refine ⟨_, rfl, r, _, 0, _, rfl, rfl, SqT.of hr7, atI_nat (j := 0) rfl, rfl, _, rfl, nS (by decide +kernel) ?_⟩
      refine ⟨_, rfl, r, _, 0, _, rfl, rfl, SqT.of hr7, atI_nat (j := 0) rfl, rfl, _, rfl, nS (by decide +kernel) ?_⟩
      refine ⟨_, rfl, r, _, 0, _, rfl, rfl, SqT.of hr7, atI_nat (j := 0) rfl, rfl, _, rfl, nS (by decide +kernel) ?_⟩
      refine ⟨_, rfl, r, _, 0, _, rfl, rfl, SqT.of hr7, atI_nat (j := 0) rfl, by show 2 ≤ sizeLine; decide, fun tp ntp => ⟨tp, _, rfl, .inr (SqT.of upd_same), rfl, rfl, _, rfl, ifT (by decide +kernel) ?_⟩⟩
      have x8 : Ext no H7 (upd H7 tp (.tup [.str "add", .str "take"])) := Ext.new ntp
      have hr8 := x8.tup _ _ hr7
      have hd8 := x8.oth d _ (fun z => z) (fun _ z => by cases z) hd7
      have hs8 := x8.lst (fun z => z) hs7
      have hD8 := x8.lst (fun z => z) hD7
      have xx8 := xx7.trans x8
      generalize upd H7 tp (.tup [.str "add", .str "take"]) = H8 at *
      refine ⟨_, rfl, D, _, 0, _, rfl, rfl, SqL.of hD8, atI_nat (j := 0) rfl, _, rfl, D, _, 1, _, rfl, rfl, SqL.of hD8, atI_nat (j := 1) rfl, _, rfl, by show 2 ≤ sizeLine; decide, fun q9 nq9 => ?_⟩
      have x9 : Ext no H8 (upd H8 q9 (.lst [.int 1, .int (-1)])) := Ext.new nq9
      have hr9 := x9.tup _ _ hr8
      have hd9 := x9.oth d _ (fun z => z) (fun _ z => by cases z) hd8
      have hs9 := x9.lst (fun z => z) hs8
      have xx9 := xx8.trans x9
      have tr : decide (V.str "add" = V.str "take") = false := by decide +kernel
      refine ⟨_, rfl, r, _, 0, _, rfl, rfl, SqT.of hr9, atI_nat (j := 0) rfl, rfl, .inr ⟨_, rfl, ?_⟩⟩
      rw [tr]
      refine ⟨q9, _, 0, .int (1), rfl, rfl, SqL.of upd_same, atI_nat (j := 0) rfl, _, _, rfl, rfl, .inr ⟨by decide, by decide⟩, _, _, rfl, rfl, _, _, rfl, rfl, (by show (0 : Int) < 1000; decide), ?_⟩
      refine ⟨_, rfl, _, rfl, r, _, 1, _, rfl, rfl, SqT.of hr9, atI_nat (j := 1) rfl, d, _, rfl, DPut.k (k := Sum.inl (n : Int)) hd9 few, ⟨lt, ?_⟩⟩
      refine fin _ _ _ _ _ upd_same (dct6.put (by rw [hcl]; exact rok.1)) (by rw [upd_ne (ne_of hs9 hd9 (by intro z; cases z))]; exact hs9) (Nat.le_succ_of_le hsl) (xx9.own nd0) ?_ rfl rfl
      show c.set n ((at0 c a' + at0 c b' * 1) % 1000) = c.set n ((at0 c a' + at0 c b') % 1000)
      rw [Int.mul_one]
    | take n a' b' =>
      have g0 : getV kvs (.int a') = .int (at0 c a') := getV_at dct6 (by rw [hcl]; exact rok.2.1)
      have g1 : getV kvs (.int b') = .int (at0 c b') := getV_at dct6 (by rw [hcl]; exact rok.2.2)
      have hD7 : H7 D = some (.lst [.int (at0 c a'), .int (at0 c b')]) := by rw [← g0, ← g1]; exact hD7
      have ba := hcn.at0 a'
      have bb := hcn.at0 b'
      refine ⟨_, rfl, r, _, 0, _, rfl, rfl, SqT.of hr7, atI_nat (j := 0) rfl, rfl, _, rfl, nS (by decide +kernel) ?_⟩
      refine ⟨_, rfl, r, _, 0, _, rfl, rfl, SqT.of hr7, atI_nat (j := 0) rfl, rfl, _, rfl, nS (by decide +kernel) ?_⟩
      refine ⟨_, rfl, r, _, 0, _, rfl, rfl, SqT.of hr7, atI_nat (j := 0) rfl, rfl, _, rfl, nS (by decide +kernel) ?_⟩
      refine ⟨_, rfl, r, _, 0, _, rfl, rfl, SqT.of hr7, atI_nat (j := 0) rfl, rfl, _, rfl, nS (by decide +kernel) ?_⟩
      refine ⟨_, rfl, r, _, 0, _, rfl, rfl, SqT.of hr7, atI_nat (j := 0) rfl, by show 2 ≤ sizeLine; decide, fun tp ntp => ⟨tp, _, rfl, .inr (SqT.of upd_same), rfl, rfl, _, rfl, ifT (by decide +kernel) ?_⟩⟩
      have x8 : Ext no H7 (upd H7 tp (.tup [.str "add", .str "take"])) := Ext.new ntp
      have hr8 := x8.tup _ _ hr7
      have hd8 := x8.oth d _ (fun z => z) (fun _ z => by cases z) hd7
      have hs8 := x8.lst (fun z => z) hs7
      have hD8 := x8.lst (fun z => z) hD7
      have xx8 := xx7.trans x8
      generalize upd H7 tp (.tup [.str "add", .str "take"]) = H8 at *
      refine ⟨_, rfl, D, _, 0, _, rfl, rfl, SqL.of hD8, atI_nat (j := 0) rfl, _, rfl, D, _, 1, _, rfl, rfl, SqL.of hD8, atI_nat (j := 1) rfl, _, rfl, by show 2 ≤ sizeLine; decide, fun q9 nq9 => ?_⟩
      have x9 : Ext no H8 (upd H8 q9 (.lst [.int 1, .int (-1)])) := Ext.new nq9
      have hr9 := x9.tup _ _ hr8
      have hd9 := x9.oth d _ (fun z => z) (fun _ z => by cases z) hd8
      have hs9 := x9.lst (fun z => z) hs8
      have xx9 := xx8.trans x9
      have tr : decide (V.str "take" = V.str "take") = true := by decide +kernel
      refine ⟨_, rfl, r, _, 0, _, rfl, rfl, SqT.of hr9, atI_nat (j := 0) rfl, rfl, .inr ⟨_, rfl, ?_⟩⟩
      rw [tr]
      refine ⟨q9, _, 1, .int (-1), rfl, rfl, SqL.of upd_same, atI_nat (j := 1) rfl, _, _, rfl, rfl, .inr ⟨by decide, by decide⟩, _, _, rfl, rfl, _, _, rfl, rfl, (by show (0 : Int) < 1000; decide), ?_⟩
      refine ⟨_, rfl, _, rfl, r, _, 1, _, rfl, rfl, SqT.of hr9, atI_nat (j := 1) rfl, d, _, rfl, DPut.k (k := Sum.inl (n : Int)) hd9 few, ⟨lt, ?_⟩⟩
      refine fin _ _ _ _ _ upd_same (dct6.put (by rw [hcl]; exact rok.1)) (by rw [upd_ne (ne_of hs9 hd9 (by intro z; cases z))]; exact hs9) (Nat.le_succ_of_le hsl) (xx9.own nd0) ?_ rfl rfl
      show c.set n ((at0 c a' + at0 c b' * -1) % 1000) = c.set n ((at0 c a' - at0 c b') % 1000)
      rw [Int.mul_neg_one]
      rfl
    | say n =>
      refine ⟨_, rfl, r, _, 0, _, rfl, rfl, SqT.of hr7, atI_nat (j := 0) rfl, rfl, _, rfl, nS (by decide +kernel) ?_⟩
      refine ⟨_, rfl, r, _, 0, _, rfl, rfl, SqT.of hr7, atI_nat (j := 0) rfl, rfl, _, rfl, nS (by decide +kernel) ?_⟩
      refine ⟨_, rfl, r, _, 0, _, rfl, rfl, SqT.of hr7, atI_nat (j := 0) rfl, rfl, _, rfl, nS (by decide +kernel) ?_⟩
      refine ⟨_, rfl, r, _, 0, _, rfl, rfl, SqT.of hr7, atI_nat (j := 0) rfl, rfl, _, rfl, nS (by decide +kernel) ?_⟩
      refine ⟨_, rfl, r, _, 0, _, rfl, rfl, SqT.of hr7, atI_nat (j := 0) rfl, by show 2 ≤ sizeLine; decide, fun tp ntp => ⟨tp, _, rfl, .inr (SqT.of upd_same), rfl, rfl, _, rfl, ifF (by decide +kernel) ?_⟩⟩
      have x8 : Ext no H7 (upd H7 tp (.tup [.str "add", .str "take"])) := Ext.new ntp
      have hr8 := x8.tup _ _ hr7
      have hd8 := x8.oth d _ (fun z => z) (fun _ z => by cases z) hd7
      have hs8 := x8.lst (fun z => z) hs7
      have hD8 := x8.lst (fun z => z) hD7
      have xx8 := xx7.trans x8
      generalize upd H7 tp (.tup [.str "add", .str "take"]) = H8 at *
      refine ⟨_, rfl, r, _, 0, _, rfl, rfl, SqT.of hr8, atI_nat (j := 0) rfl, rfl, _, rfl, yS ?_⟩
      refine ⟨_, rfl, .inl ⟨rfl, _, SqL.of hs8⟩, _, rfl, _, rfl, r, _, 1, _, rfl, rfl, SqT.of hr8, atI_nat (j := 1) rfl, d, _, rfl, by have z := DGet.k (k := Sum.inl (n : Int)) hd8; rw [dct6.tells n (by rw [hcl]; exact rok)] at z; exact z, sd, _, _, rfl, rfl, hs8, by rw [List.length_map]; exact small_lt (k := 1000) (by omega) (by decide), ⟨lt, ?_⟩⟩
      refine fin c _ (said ++ [at0 c n]) kvs _ (by rw [upd_ne (ne_of hd8 hs8 (by intro z; cases z))]; exact hd8) dct7 (by rw [upd_same, List.map_append]; rfl) (by rw [List.length_append]; exact Nat.succ_le_succ hsl) (xx8.own nsd0) rfl rfl rfl
    | go k =>
      refine ⟨_, rfl, r, _, 0, _, rfl, rfl, SqT.of hr7, atI_nat (j := 0) rfl, rfl, _, rfl, nS (by decide +kernel) ?_⟩
      refine ⟨_, rfl, r, _, 0, _, rfl, rfl, SqT.of hr7, atI_nat (j := 0) rfl, rfl, _, rfl, nS (by decide +kernel) ?_⟩
      refine ⟨_, rfl, r, _, 0, _, rfl, rfl, SqT.of hr7, atI_nat (j := 0) rfl, rfl, _, rfl, nS (by decide +kernel) ?_⟩
      refine ⟨_, rfl, r, _, 0, _, rfl, rfl, SqT.of hr7, atI_nat (j := 0) rfl, rfl, _, rfl, nS (by decide +kernel) ?_⟩
      refine ⟨_, rfl, r, _, 0, _, rfl, rfl, SqT.of hr7, atI_nat (j := 0) rfl, by show 2 ≤ sizeLine; decide, fun tp ntp => ⟨tp, _, rfl, .inr (SqT.of upd_same), rfl, rfl, _, rfl, ifF (by decide +kernel) ?_⟩⟩
      have x8 : Ext no H7 (upd H7 tp (.tup [.str "add", .str "take"])) := Ext.new ntp
      have hr8 := x8.tup _ _ hr7
      have hd8 := x8.oth d _ (fun z => z) (fun _ z => by cases z) hd7
      have hs8 := x8.lst (fun z => z) hs7
      have hD8 := x8.lst (fun z => z) hD7
      have xx8 := xx7.trans x8
      generalize upd H7 tp (.tup [.str "add", .str "take"]) = H8 at *
      refine ⟨_, rfl, r, _, 0, _, rfl, rfl, SqT.of hr8, atI_nat (j := 0) rfl, rfl, _, rfl, nS (by decide +kernel) ?_⟩
      refine ⟨_, rfl, r, _, 0, _, rfl, rfl, SqT.of hr8, atI_nat (j := 0) rfl, rfl, _, rfl, yS (iteT ?_)⟩
      refine ⟨_, rfl, _, rfl, r, _, -1, _, rfl, rfl, SqT.of hr8, (show atI (rowV (Row.go k)) (-1) = some (.int k) from atI_last [V.str "go"] (V.int k)), ⟨lt, ?_⟩⟩
      exact fin c k said kvs _ hd8 dct7 hs8 (Nat.le_succ_of_le hsl) xx8 rfl rfl rfl
    | iff n k =>
      refine ⟨_, rfl, r, _, 0, _, rfl, rfl, SqT.of hr7, atI_nat (j := 0) rfl, rfl, _, rfl, nS (by decide +kernel) ?_⟩
      refine ⟨_, rfl, r, _, 0, _, rfl, rfl, SqT.of hr7, atI_nat (j := 0) rfl, rfl, _, rfl, nS (by decide +kernel) ?_⟩
      refine ⟨_, rfl, r, _, 0, _, rfl, rfl, SqT.of hr7, atI_nat (j := 0) rfl, rfl, _, rfl, nS (by decide +kernel) ?_⟩
      refine ⟨_, rfl, r, _, 0, _, rfl, rfl, SqT.of hr7, atI_nat (j := 0) rfl, rfl, _, rfl, nS (by decide +kernel) ?_⟩
      refine ⟨_, rfl, r, _, 0, _, rfl, rfl, SqT.of hr7, atI_nat (j := 0) rfl, by show 2 ≤ sizeLine; decide, fun tp ntp => ⟨tp, _, rfl, .inr (SqT.of upd_same), rfl, rfl, _, rfl, ifF (by decide +kernel) ?_⟩⟩
      have x8 : Ext no H7 (upd H7 tp (.tup [.str "add", .str "take"])) := Ext.new ntp
      have hr8 := x8.tup _ _ hr7
      have hd8 := x8.oth d _ (fun z => z) (fun _ z => by cases z) hd7
      have hs8 := x8.lst (fun z => z) hs7
      have hD8 := x8.lst (fun z => z) hD7
      have xx8 := xx7.trans x8
      generalize upd H7 tp (.tup [.str "add", .str "take"]) = H8 at *
      refine ⟨_, rfl, r, _, 0, _, rfl, rfl, SqT.of hr8, atI_nat (j := 0) rfl, rfl, _, rfl, nS (by decide +kernel) ?_⟩
      refine ⟨_, rfl, r, _, 0, _, rfl, rfl, SqT.of hr8, atI_nat (j := 0) rfl, rfl, _, rfl, nS (by decide +kernel) ?_⟩
      refine ⟨_, rfl, _, rfl, r, _, 1, _, rfl, rfl, SqT.of hr8, atI_nat (j := 1) rfl, d, _, rfl, by have z := DGet.k (k := Sum.inl (n : Int)) hd8; rw [dct6.tells n (by rw [hcl]; exact rok.1)] at z; exact z, rfl, _, rfl, ?_⟩
      by_cases hz : at0 c n = 0
      · rw [hz]
        refine nNS ?_
        exact ⟨lt, fin c (i + 1) said kvs _ hd8 dct7 hs8 (Nat.le_succ_of_le hsl) xx8 rfl (by show i + 1 = if at0 c n = 0 then i + 1 else k; rw [if_pos hz]) rfl⟩
      · refine yNS (decide_eq_false fun z => hz (V.int.inj z)) ?_
        refine ⟨_, rfl, _, rfl, r, _, -1, _, rfl, rfl, SqT.of hr8, (show atI (rowV (Row.iff n k)) (-1) = some (.int k) from atI_last [V.str "if", V.int n] (V.int k)), ⟨lt, ?_⟩⟩
        exact fin c k said kvs _ hd8 dct7 hs8 (Nat.le_succ_of_le hsl) xx8 rfl (by show k = if at0 c n = 0 then i + 1 else k; rw [if_neg hz]) rfl
    | fin => exact absurd rfl hfin
end
end Bw
namespace Bw
open PySem PySem.Spec PyProof.Rows L2 GxR
/-! ### the program: kinds -/
/-- a def whose code object is known -/
structure Dc (K : PySem.W.Frag) (mg : Str → Option Value) (x : Str) (st : Stmt) (ps : List Str) (f : Addr) (fd : FuncData) (c : Addr) : Prop where
  D : Df K mg x st ps f fd
  ex : ∃ (oc : Value) (od : Option Addr) (kV doc pm : Value) (an : Option Addr) (ct : Value) (osl : Array (Option Value)),
    fd = PySem.W.fnOf x x (defArgs st) (defBody st) (defScope st) .none kV doc pm an (.ref c) ct ∧ K.lookup f = some ⟨oc, od, .func fd, osl⟩ ∧ PySem.W.codeIn K (.ref c) x = true
section
variable {base : Heap} {K : PySem.W.Frag} {mg : Str → Option Value} {P : Program} {w : World}
theorem Dc.ok {x : Str} {st : Stmt} {f c : Addr} {fd : FuncData} {N ps : List Str} {k : Nat} {sp : Sp} (F : Dc K mg x st ps f fd c) (S : FnScope N ps (defScope st)) (len : ∀ vs H Q E, sp vs H Q E → vs.length = ps.length)
    (body : ∀ (A : Around) (outer : List Env) (s : Shared) (H : Hp) (vs : List V) (Q : VK) (E : XK), Room k (A.deeper (envOfC x (defScope st) s.heap.objs.size f (.ref c))) → sp vs H Q E →
      ∃ t, PSs (cxOf CX0 P w K mg base N x (defScope st) f (.ref c) A outer s H E).nox (defBody st) t ∧ t { nx := fun _ H' => Q .non H', rt := Q } (start N vs) H) : FnOk P w K mg base CX0 (k + 1) f fd ps sp := by
  obtain ⟨oc, od, kV, doc, pm, an, ct, osl, same, lk, hcd⟩ := F.ex
  subst same
  refine fn_of lk hcd S len fun A outer s H vs Q E room here => ?_
  exact (body A outer s H vs Q E room here).elim fun t z => ⟨t, z.1.nox, z.2⟩
/-- the program's numbers -/
structure Gk (mg : Str → Option Value) : Prop where
  value : ∃ t, mg "VALUE_MOST" = some (.int 999 t)
  names : ∃ t, mg "NAMES_MOST" = some (.int 8 t)
  rows : ∃ t, mg "ROWS_MOST" = some (.int 24 t)
  fuel : ∃ t, mg "FUEL_MOST" = some (.int 1000 t)
  rest : ∃ t, mg "REST_BY" = some (.int 1000 t)
theorem pe_num {X : Cx} {x : Str} {i : Int} {pos : Pos} (h : ∃ t, X.mg x = some (.int i t)) (hg : Gl X x := by rfl) (hd : (x == ("__debug__" : Str)) = false := by decide) : PE X (.Name x pos) (tC (.int i)) :=
  h.elim fun t e => pe_glob hg e ⟨t, rfl⟩ hd
/-! is_number, of an int -/
def spNum : Sp := fun vs H Q _ => ∃ v lo hi : Int, vs = [.int v, .int lo, .int hi] ∧ Q (.bl (decide (lo ≤ v) && decide (v ≤ hi))) H
theorem scNum : FnScope ["value", "low", "high"] ["value", "low", "high"] (defScope s_is_number) := ⟨rfl, rfl, rfl, by decide +kernel, rfl, by decide +kernel, by decide +kernel⟩
theorem ok_num {f : Addr} {fd : FuncData} (D : Df K mg "is_number" s_is_number ["value", "low", "high"] f fd) (B : Bt mg) : FnOk P w K mg base CX0 1 f fd ["value", "low", "high"] spNum := by
  refine D.F.ok scNum (fun vs H Q E h => ?_) (fun cdv A outer s H vs Q E hr h => ?_)
  · obtain ⟨v, lo, hi, rfl, _⟩ := h
    rfl
  · obtain ⟨v, lo, hi, rfl, q⟩ := h
    refine ⟨_, pss_one (ps_ret (pe_and (pe_callB call_isi (by rfl) B.isinstance (by decide +kernel) (pa_cons (pv 0) (pa_cons (pe_bltn (v := .ty "int") (by rfl) B.int (by decide +kernel) rfl) pa_nil)))
      (pe_and (pe_not (pe_callB call_isi (by rfl) B.isinstance (by decide +kernel) (pa_cons (pv 0) (pa_cons (pe_bltn (v := .ty "bool") (by rfl) B.bool (by decide +kernel) rfl) pa_nil))))
      (pe_one (pe_chain op_le op_le (pv 1) (pv 0) (pv 2)))))), ?_⟩
    refine ⟨_, rfl, _, _, _, _, true, rfl, .ty "int", .base (.int v), kit_ty (by decide +kernel), _, rfl, iteT ?_⟩
    refine ⟨_, rfl, _, _, _, _, false, rfl, .ty "bool", .base (.int v), kit_ty (by decide +kernel), _, rfl, _, rfl, iteT ?_⟩
    refine ⟨_, rfl, _, rfl, _, _, rfl, rfl, ⟨decide (lo ≤ v), rfl, ?_⟩⟩
    by_cases e : lo ≤ v
    · rw [decide_eq_true e] at q ⊢
      refine iteT ⟨_, rfl, _, _, rfl, rfl, ?_⟩
      rw [Bool.true_and] at q
      exact q
    · rw [decide_eq_false e] at q ⊢
      exact iteF q
/-! is_tuple_of, of a tuple -/
def spTupOf (K : PySem.W.Frag) : Sp := fun vs H Q _ => ∃ (a : Addr) (xs : List V) (n : Int), vs = [.ref a, .int n] ∧ SqT K H a xs ∧ Q (.bl (decide ((xs.length : Int) = n))) H
theorem scTupOf : FnScope ["value", "many"] ["value", "many"] (defScope s_is_tuple_of) := ⟨rfl, rfl, rfl, by decide +kernel, rfl, by decide +kernel, by decide +kernel⟩
theorem ok_tupOf {f : Addr} {fd : FuncData} (D : Df K mg "is_tuple_of" s_is_tuple_of ["value", "many"] f fd) (B : Bt mg) : FnOk P w K mg base CX0 1 f fd ["value", "many"] (spTupOf K) := by
  refine D.F.ok scTupOf (fun vs H Q E h => ?_) (fun cdv A outer s H vs Q E hr h => ?_)
  · obtain ⟨a, xs, n, rfl, _⟩ := h
    rfl
  · obtain ⟨a, xs, n, rfl, hT, q⟩ := h
    refine ⟨_, pss_one (ps_ret (pe_and (pe_callB call_isi (by rfl) B.isinstance (by decide +kernel) (pa_cons (pv 0) (pa_cons (pe_bltn (v := .ty "tuple") (by rfl) B.tuple (by decide +kernel) rfl) pa_nil)))
      (pe_one (pe_cmpR op_eq (pe_callB call_len_seq (by rfl) B.len PySem.boot_len (pa_cons (pv 0) pa_nil)) (pv 1) (nomark _))))), ?_⟩
    refine ⟨_, rfl, _, _, _, _, true, rfl, .ty "tuple", tyT hT, kit_ty (by decide +kernel), _, rfl, iteT ?_⟩
    refine ⟨_, rfl, a, _, rfl, .inr hT, _, rfl, rfl, ?_⟩
    by_cases e : (xs.length : Int) = n
    · subst e
      rw [decide_eq_true rfl] at q ⊢
      exact q
    · rw [decide_eq_false e] at q
      rw [decide_eq_false (fun z => e (V.int.inj z))]
      exact q
end
end Bw
namespace Bw
open PySem PySem.Spec PyProof.Rows L2 GxR Gx RZ
/-! ### generator expressions over tuples, turn by turn -/
theorem gx_tup {K : PySem.W.Frag} {a : Addr} {xs : List V} {g : TG} {tt : TT} {te : TE} {vs : List Nat} {σ : L2.St} {G : GP} {H : Hp} (Pv : Nat → List V → Hp → Prop) (h0 : Pv 0 [] H) (hl : ∀ i acc H, Pv i acc H → SqT K H a xs)
    (hs : ∀ i x acc H, xs[i]? = some x → Pv i acc H → g x (wipe σ vs) H fun σ2 H2 => wipe σ2 vs = wipe σ vs ∧ tt σ2 H2 fun b H3 => if b = true then te σ2 H3 fun y H4 => G.Yq acc y H4 ∧ (G.Rq y → Pv (i + 1) (acc ++ [y]) H4) else Pv (i + 1) acc H3)
    (hd : ∀ acc H, Pv xs.length acc H → G.En acc H) : ∃ W : Nat → Nat → List V → Hp → Prop, (∃ m, W 0 m [] H) ∧ GxW (Itt K a) g tt te vs σ G W := by
  refine ⟨fun i m acc H => m = xs.length - i ∧ i ≤ xs.length ∧ Pv i acc H, ⟨_, rfl, Nat.zero_le _, h0⟩, ?_⟩
  rintro i m acc H ⟨rfl, le, here⟩
  have isT := hl i acc H here
  by_cases last : i = xs.length
  · subst last
    exact .inl ⟨⟨xs, isT, Nat.le_refl _⟩, hd acc H here⟩
  · have lt : i < xs.length := by omega
    refine .inr ⟨⟨xs, xs[i], isT, List.getElem?_eq_getElem lt⟩, Pv (i + 1), fun acc' H' n => ⟨xs.length - (i + 1), by omega, rfl, by omega, n⟩, ?_⟩
    rintro x H' ⟨rfl, isX⟩
    exact hs i x acc _ (isX xs isT) here
theorem gx_zipT {K : PySem.W.Frag} {a b : Addr} {xs ys : List V} {g : TG} {tt : TT} {te : TE} {vs : List Nat} {σ : L2.St} {G : GP} {H : Hp} (same : xs.length = ys.length) (Pv : Nat → List V → Hp → Prop) (h0 : Pv 0 [] H) (hl : ∀ i acc H, Pv i acc H → SqT K H a xs ∧ SqT K H b ys)
    (hs : ∀ i x y t acc H, xs[i]? = some x → ys[i]? = some y → Pv i acc H → H t = none → g (.ref t) (wipe σ vs) (upd H t (.tup [x, y])) fun σ2 H2 => wipe σ2 vs = wipe σ vs ∧ tt σ2 H2 fun c H3 => if c = true then te σ2 H3 fun y H4 => G.Yq acc y H4 ∧ (G.Rq y → Pv (i + 1) (acc ++ [y]) H4) else Pv (i + 1) acc H3)
    (hd : ∀ acc H, Pv xs.length acc H → G.En acc H) : ∃ W : Nat → Nat → List V → Hp → Prop, (∃ m, W 0 m [] H) ∧ GxW (ItzT K a b) g tt te vs σ G W := by
  refine ⟨fun i m acc H => m = xs.length - i ∧ i ≤ xs.length ∧ Pv i acc H, ⟨_, rfl, Nat.zero_le _, h0⟩, ?_⟩
  rintro i m acc H ⟨rfl, le, here⟩
  obtain ⟨isT, isU⟩ := hl i acc H here
  by_cases last : i = xs.length
  · subst last
    exact .inl ⟨⟨xs, ys, isT, isU, .inl (Nat.le_refl _)⟩, hd acc H here⟩
  · have lt : i < xs.length := by omega
    have lt2 : i < ys.length := by omega
    refine .inr ⟨⟨xs, ys, xs[i], ys[i], isT, isU, List.getElem?_eq_getElem lt, List.getElem?_eq_getElem lt2⟩, Pv (i + 1), fun acc' H' n => ⟨xs.length - (i + 1), by omega, rfl, by omega, n⟩, ?_⟩
    rintro v H' ⟨t, x, y, rfl, nt, rfl, isX, isY⟩
    exact hs i x y t acc H (isX xs isT) (isY ys isU) here nt
section
variable {base : Heap} {K : PySem.W.Frag} {mg : Str → Option Value} {P : Program} {w : World}
theorem Ext.sqT {m : Addr → Prop} {H H' : Hp} (e : Ext m H H') {a : Addr} {xs : List V} (n : ¬ m a) (h : SqT K H a xs) : SqT K H' a xs := by
  rcases h with (h | ⟨locked, h⟩) | h
  · exact .inl (.inl (e.tup _ _ h))
  · exact .inl (.inr ⟨locked, e.oth a _ n (fun _ z => by cases z) h⟩)
  · exact .inr h
/-! are_values -/
def spVals (K : PySem.W.Frag) (T : Addr) : Sp := fun vs H Q _ => ∃ (a : Addr) (xs : List Int), vs = [.ref a] ∧ SqT K H a (xs.map V.int) ∧ Nums xs ∧ TabG H T ∧ ∀ H', Ext no H H' → Q (.bl true) H'
abbrev nVals : List Str := ["numbers", "number"]
theorem scVals : FnScope nVals ["numbers"] (defScope s_are_values) := ⟨rfl, rfl, rfl, by decide +kernel, rfl, by decide +kernel, by decide +kernel⟩
theorem ok_vals {f c T fN : Addr} {fd fdN : FuncData} (D : Dc K mg "are_values" s_are_values ["numbers"] f fd c) (TB : TabB base mg c T) (DN : Df K mg "is_number" s_is_number ["value", "low", "high"] fN fdN) (B : Bt mg) (G : Gk mg) :
    FnOk P w K mg base CX0 4 f fd ["numbers"] (spVals K T) := by
  have GN : FnOk P w K mg base CX0 1 fN fdN ["value", "low", "high"] spNum := ok_num DN B
  refine D.ok scVals (fun vs H Q E h => ?_) (fun A outer s H vs Q E hr h => ?_)
  · obtain ⟨a, xs, rfl, _⟩ := h
    rfl
  · obtain ⟨a, xs, rfl, hT, hn, tab, q⟩ := h
    refine ⟨_, pss_one (ps_ret (pe_allG (P := T) (own := [("number", 1)]) (k := 1) (g := gName 1) (tt := tYes) hr (by rfl) B.all TB rfl scVals.nd (pi_tup (pv 0)) (blkOk_by (N := nVals) (sc := defScope s_are_values) (by decide +kernel))
      (fun _ _ _ _ _ _ _ _ _ => pg_name (i := 1) scVals.nd rfl (Or.inl rfl)) (fun _ _ _ _ _ _ _ _ _ => pts_nil) (fun _ _ _ _ _ _ _ _ hA => pcall DN GN hA (pa_cons (pv 1) (pa_cons pe_int (pa_cons (pe_num G.value) pa_nil)))))), ?_⟩
    refine ⟨_, rfl, a, rfl, ⟨_, hT⟩, tab, fun H1 t1 => ?_⟩
    have e1 : Ext no H H1 := Ext.tbd tab t1
    refine gx_tup (xs := xs.map V.int) (fun i acc H2 => H2 = H1) rfl (fun i acc H2 e => by rw [e]; exact e1.sqT (fun z => z) hT) ?_ ?_
    · rintro i x acc H2 isX rfl
      rw [List.getElem?_map] at isX
      obtain ⟨z, hz, rfl⟩ : ∃ z, xs[i]? = some z ∧ x = V.int z := by
        cases e : xs[i]? with
        | none => rw [e] at isX; cases isX
        | some z => rw [e] at isX; exact ⟨z, rfl, (Option.some.inj isX).symm⟩
      obtain ⟨z0, z1⟩ := hn z (List.mem_of_getElem? hz)
      refine ⟨rfl, _, rfl, z, 0, 999, rfl, ?_⟩
      rw [decide_eq_true z0, decide_eq_true (show z ≤ 999 by omega)]
      exact ⟨⟨true, rfl, fun z => by cases z⟩, fun _ => rfl⟩
    · rintro acc H2 rfl
      exact q _ e1
end
end Bw
namespace Bw
open PySem PySem.Spec PyProof.Rows L2 GxR Gx RZ
/-! ### the program: rows that can be -/
def partsOf : Row → List V
  | .put .. => [.str "name", .str "number"]
  | .copy .. => [.str "name", .str "name"]
  | .add .. => [.str "name", .str "name", .str "name"]
  | .take .. => [.str "name", .str "name", .str "name"]
  | .less .. => [.str "name", .str "name", .str "name"]
  | .call .. => [.str "name", .str "name"]
  | .say .. => [.str "name"]
  | .iff .. => [.str "name", .str "row"]
  | .go .. => [.str "row"]
  | .fin => []
/-- the dict of the parts -/
structure Parts (K : PySem.W.Frag) (w : World) (mg : Str → Option Value) (d : Addr) (es : Array DictEntry) (n : Nat) : Prop where
  g : mg "PARTS" = some (.ref d)
  kd : KDict K w d es n
  ex : ∀ row : Row, ∃ a, PySem.W.nsIn K d (wordOf row) = some (some (.ref a)) ∧ ∀ H, SqT K H a (partsOf row)
def highs (names many : Nat) : List (Key × V) := [(Sum.inr "name", .int ((names : Int) - 1)), (Sum.inr "number", .int 999), (Sum.inr "row", .int ((many : Int) - 1))]
theorem parts_len (row : Row) : (partsOf row).length = ((rowV row).drop 1).length := by cases row <;> rfl
theorem high_name (names many : Nat) : valV (mergeK [] (highs names many)) (Sum.inr "name") = some (.int ((names : Int) - 1)) := by
  simp only [mergeK, highs, List.foldl_cons, List.foldl_nil, valV_put]
  rw [if_neg (by decide), if_neg (by decide)]
  exact if_pos trivial
theorem high_number (names many : Nat) : valV (mergeK [] (highs names many)) (Sum.inr "number") = some (.int 999) := by
  simp only [mergeK, highs, List.foldl_cons, List.foldl_nil, valV_put]
  rw [if_neg (by decide)]
  exact if_pos trivial
theorem high_row (names many : Nat) : valV (mergeK [] (highs names many)) (Sum.inr "row") = some (.int ((many : Int) - 1)) := by
  simp only [mergeK, highs, List.foldl_cons, List.foldl_nil, valV_put]
  exact if_pos trivial
/-- a part, what is told for it, and what it may be at most -/
def FitAt (names many : Nat) (x y : V) : Prop := ∃ (s : Str) (z hi : Int), x = .str s ∧ y = .int z ∧ valV (mergeK [] (highs names many)) (Sum.inr s) = some (.int hi) ∧ 0 ≤ z ∧ z ≤ hi
theorem fit_name {names many n : Nat} (h : n < names) : FitAt names many (.str "name") (.int n) := ⟨_, _, _, rfl, rfl, high_name names many, by omega, by omega⟩
theorem fit_row {names many n : Nat} (h : n < many) : FitAt names many (.str "row") (.int n) := ⟨_, _, _, rfl, rfl, high_row names many, by omega, by omega⟩
theorem fit_number {names many : Nat} {v : Int} (h : 0 ≤ v ∧ v < 1000) : FitAt names many (.str "number") (.int v) := ⟨_, _, _, rfl, rfl, high_number names many, h.1, by omega⟩
theorem two {R : V → V → Prop} {a b c d x y : V} {i : Nat} (h1 : R a c) (h2 : R b d) (e1 : [a, b][i]? = some x) (e2 : [c, d][i]? = some y) : R x y := by
  match i, e1, e2 with
  | 0, e1, e2 => cases e1; cases e2; exact h1
  | 1, e1, e2 => cases e1; cases e2; exact h2
  | _ + 2, e1, _ => simp at e1
theorem one {R : V → V → Prop} {a c x y : V} {i : Nat} (h1 : R a c) (e1 : [a][i]? = some x) (e2 : [c][i]? = some y) : R x y := by
  match i, e1, e2 with
  | 0, e1, e2 => cases e1; cases e2; exact h1
  | _ + 1, e1, _ => simp at e1
theorem three {R : V → V → Prop} {a b c d e f x y : V} {i : Nat} (h1 : R a d) (h2 : R b e) (h3 : R c f) (e1 : [a, b, c][i]? = some x) (e2 : [d, e, f][i]? = some y) : R x y := by
  match i, e1, e2 with
  | 0, e1, e2 => cases e1; cases e2; exact h1
  | 1, e1, e2 => cases e1; cases e2; exact h2
  | 2, e1, e2 => cases e1; cases e2; exact h3
  | _ + 3, e1, _ => simp at e1
theorem fit {names many : Nat} {row : Row} (ok : RowOk names many row) {i : Nat} {x y : V} (e1 : (partsOf row)[i]? = some x) (e2 : ((rowV row).drop 1)[i]? = some y) : FitAt names many x y := by
  cases row with
  | put n v => exact two (fit_name ok.1) (fit_number ok.2) e1 e2
  | copy n o => exact two (fit_name ok.1) (fit_name ok.2) e1 e2
  | add n a b => exact three (fit_name ok.1) (fit_name ok.2.1) (fit_name ok.2.2) e1 e2
  | take n a b => exact three (fit_name ok.1) (fit_name ok.2.1) (fit_name ok.2.2) e1 e2
  | less n a b => exact three (fit_name ok.1) (fit_name ok.2.1) (fit_name ok.2.2) e1 e2
  | call n o => exact two (fit_name ok.1) (fit_name ok.2) e1 e2
  | say n => exact one (fit_name ok) e1 e2
  | iff n r => exact two (fit_name ok.1) (fit_row ok.2) e1 e2
  | go r => exact one (fit_row ok) e1 e2
  | fin => simp [partsOf] at e1
theorem decT {p : Prop} [Decidable p] {A B : Prop} (h : p) (a : A) : if decide p = true then A else B := by
  rw [decide_eq_true h]; exact iteT a
section
variable {base : Heap} {K : PySem.W.Frag} {mg : Str → Option Value} {P : Program} {w : World}
def spRowCan (T : Addr) : Sp := fun vs H Q _ => ∃ (r : Addr) (row : Row) (names many : Nat), vs = [.ref r, .int names, .int many] ∧ H r = some (.tup (rowV row)) ∧ RowOk names many row ∧ TabG H T ∧ ∀ H', Ext no H H' → Q (.bl true) H'
abbrev nRowCan : List Str := ["row", "names", "many", "parts", "highest", "part", "told"]
theorem scRowCan : FnScope nRowCan ["row", "names", "many"] (defScope s_row_can_be) := ⟨rfl, rfl, rfl, by decide +kernel, rfl, by decide +kernel, by decide +kernel⟩
theorem ok_rowCan {f c T fN d : Addr} {fd fdN : FuncData} {es : Array DictEntry} {n0 : Nat} (D : Dc K mg "row_can_be" s_row_can_be ["row", "names", "many"] f fd c) (TB : TabB base mg c T) (DN : Df K mg "is_number" s_is_number ["value", "low", "high"] fN fdN)
    (PT0 : Parts K w mg d es n0) (B : Bt mg) (G : Gk mg) : FnOk P w K mg base CX0 4 f fd ["row", "names", "many"] (spRowCan T) := by
  have GN : FnOk P w K mg base CX0 1 fN fdN ["value", "low", "high"] spNum := ok_num DN B
  refine D.ok scRowCan (fun vs H Q E h => ?_) (fun A outer s H vs Q E hr h => ?_)
  · obtain ⟨r, row, names, many, rfl, _⟩ := h
    rfl
  · obtain ⟨r, row, names, many, rfl, hrow, ok, tab, q⟩ := h
    have hu := hu_of hr
    refine ⟨_, pss_cons (ps_if (PW.pt (pw_or (pt_not (pt_val (pe_callB call_isi (by rfl) B.isinstance (by decide +kernel) (pa_cons (pv 0) (pa_cons (pe_bltn (v := .ty "tuple") (by rfl) B.tuple (by decide +kernel) rfl) pa_nil)))))
        (pw_or (pt_not (pt_truth (pv 0) (fun _ => rfl))) (pw_or1 (pt_not (pt_val (pe_callB call_isi (by rfl) B.isinstance (by decide +kernel) (pa_cons (pe_ix ix_tup (pv 0) pe_int (fun _ _ => rfl)) (pa_cons (pe_bltn (v := .ty "str") (by rfl) B.str (by decide +kernel) rfl) pa_nil)))))))))
        (pss_one (ps_ret pe_bl)) pss_nil)
      (pss_cons (ps_if (pt_cmpR (op_notIn_kd PT0.kd) (pe_ix ix_tup (pv 0) pe_int (fun _ _ => rfl)) (pe_glob (v := .ref d) (by rfl) PT0.g rfl) (by rfl)) (pss_one (ps_ret pe_bl)) pss_nil)
      (pss_cons (ps_set (i := 3) scRowCan.nd rfl (.inl rfl) (pe_ix ix_kdict (pe_glob (v := .ref d) (by rfl) PT0.g rfl) (pe_ix ix_tup (pv 0) pe_int (fun _ _ => rfl)) (fun _ _ => rfl)))
      (pss_cons (ps_set (i := 4) scRowCan.nd rfl (.inr rfl) (pe_disp (pps_cons pe_str (pe_op op_sub (pv 1) pe_int) (pps_cons pe_str (pe_num G.value) (pps_cons pe_str (pe_op op_sub (pv 2) pe_int) pps_nil))) rfl rfl (by simp) (by decide)))
      (pss_cons (ps_if (pt_cmpR op_ne (pe_callB call_len_seq (by rfl) B.len PySem.boot_len (pa_cons (pv 0) pa_nil)) (pe_op op_add (pe_callB call_len_seq (by rfl) B.len PySem.boot_len (pa_cons (pv 3) pa_nil)) pe_int) (nomark _)) (pss_one (ps_ret pe_bl)) pss_nil)
      (pss_one (ps_ret (pe_allG (P := T) (own := [("part", 5), ("told", 6)]) (k := 1) (g := gTup K 2 (gCons (gName 5) (gCons (gName 6) gNil))) (tt := tYes) hr (by rfl) B.all TB rfl scRowCan.nd (pi_zipA (by rfl) B.zip (pa_cons (pv 3) (pa_cons (pe_slice sl_tup (pv 0) (po_some pe_int) po_none) pa_nil)))
        (blkOk_by (N := nRowCan) (sc := defScope s_row_can_be) (by decide +kernel))
        (fun _ _ _ _ _ _ _ _ _ => pg_tup rfl (pgs_cons (pg_name (i := 5) scRowCan.nd rfl (Or.inl rfl)) (pgs_cons (pg_name (i := 6) scRowCan.nd rfl (Or.inl rfl)) pgs_nil))) (fun _ _ _ _ _ _ _ _ _ => pts_nil)
        (fun _ _ _ _ _ _ _ _ hA => pcall DN GN hA (pa_cons (pv 6) (pa_cons pe_int (pa_cons (pe_dget (hu_of hA) (pv 4) (pv 5) (fun _ _ => rfl)) pa_nil))))))))))), ?_⟩
    have hT := SqT.of (K := K) hrow
    obtain ⟨rest, word⟩ := rowV_word row
    have first : atI (rowV row) 0 = some (.str (wordOf row)) := by rw [word]; exact atI_nat (j := 0) rfl
    obtain ⟨pa, isP, tupP⟩ := PT0.ex row
    refine ⟨_, rfl, _, _, _, _, true, rfl, .ty "tuple", tyT hT, kit_ty (by decide +kernel), _, rfl, iteF ?_⟩
    refine ⟨_, rfl, true, .inr (.inl ⟨_, hT, by rw [word]; rfl⟩), iteF ?_⟩
    refine ⟨_, rfl, r, _, 0, _, rfl, rfl, hT, first, _, _, _, _, true, rfl, .ty "str", .base (.str _), kit_ty (by decide +kernel), _, rfl, iteF ?_⟩
    -- row[0] not in PARTS
    refine ⟨_, rfl, r, _, 0, _, rfl, rfl, hT, first, _, _, rfl, rfl, isP, _, rfl, iteF ?_⟩
    -- parts = PARTS[row[0]]
    refine ⟨_, rfl, r, _, 0, _, rfl, rfl, hT, first, d, _, .ref pa, rfl, rfl, ⟨_, _, _, PT0.kd.at_, PT0.kd.lit, isP, rfl⟩, ?_⟩
    -- highest
    refine fun p np => ⟨_, rfl, _, _, rfl, rfl, _, rfl, _, _, rfl, rfl, ?_⟩
    refine ⟨upd_same, highs names many, rfl, by show 3 ≤ 15; decide, ?_⟩
    generalize hH1 : upd (upd H p (.dK [])) p (.dK (mergeK [] (highs names many))) = H1
    have hp1 : H1 p = some (.dK (mergeK [] (highs names many))) := by rw [← hH1]; exact upd_same
    have x1 : Ext no H H1 := by rw [← hH1]; exact (Ext.new np).own np
    -- len(row) != len(parts) + 1
    refine ⟨_, rfl, r, _, rfl, .inr (x1.sqT (fun z => z) hT), _, rfl, pa, _, rfl, .inr (tupP H1), _, _, rfl, rfl, rfl, _, rfl, iteNS ?_ ?_⟩
    · rw [word, parts_len, word]
      rfl
    -- all(..)
    refine ⟨_, rfl, _, rfl, 1, rfl, r, _, rfl, x1.sqT (fun z => z) hT, notAll (k := 1) (by decide) (by rw [word]; exact Nat.zero_lt_succ _), fun sl nsl => ?_⟩
    have cut1 : cutV (rowV row) (some 1) none = (rowV row).drop 1 := cutFrom (rowV row) 1
    generalize hH2 : upd H1 sl (.tup (cutV (rowV row) (some 1) none)) = H2
    have hs2 : H2 sl = some (.tup ((rowV row).drop 1)) := by rw [← hH2, upd_same, cut1]
    have x2 : Ext no H1 H2 := by rw [← hH2]; exact Ext.new nsl
    refine ⟨pa, sl, _, _, rfl, .inr ⟨tupP H2, SqT.of hs2, (x1.trans x2).tab T tab, fun H3 t3 => ?_⟩⟩
    have x3 : Ext no H2 H3 := Ext.tbd ((x1.trans x2).tab T tab) t3
    refine gx_zipT (xs := partsOf row) (ys := (rowV row).drop 1) (parts_len row) (fun i acc H4 => Ext no H3 H4) (Ext.refl _ _) (fun i acc H4 x4 => ⟨tupP H4, SqT.of (x4.tup _ _ (x3.tup _ _ hs2))⟩) ?_ ?_
    · intro i x y t acc H4 isX isY x4 nt
      obtain ⟨sx, z, hi, rfl, rfl, hv, z0, z1⟩ := fit ok isX isY
      have x5 : Ext no H1 (upd H4 t (.tup [.str sx, .int z])) := ((x2.trans x3).trans x4).trans (Ext.new nt)
      have hp5 := x5.oth p _ (fun z => z) (fun _ z => by cases z) hp1
      refine ⟨t, _, rfl, SqT.of upd_same, rfl, _, _, rfl, _, _, rfl, rfl, ?_⟩
      refine ⟨rfl, ?_⟩
      refine ⟨_, rfl, _, rfl, _, rfl, p, _, rfl, .inl ⟨_, Sum.inr sx, .inl hp5, rfl, hv.symm⟩, z, 0, hi, rfl, ?_⟩
      rw [decide_eq_true z0, decide_eq_true z1]
      exact ⟨⟨true, rfl, fun z => by cases z⟩, fun _ => x4.trans (Ext.new nt)⟩
    · intro acc H4 x4
      exact q _ (((x1.trans x2).trans x3).trans x4)
end
end Bw
namespace Bw
open PySem PySem.Spec PyProof.Rows L2 GxR Gx RZ
/-! ### the program: a row's names -/
def namesOf : Row → List Nat
  | .put n _ => [n]
  | .copy n o => [n, o]
  | .add n a b => [n, a, b]
  | .take n a b => [n, a, b]
  | .less n a b => [n, a, b]
  | .call n o => [n, o]
  | .say n => [n]
  | .iff n _ => [n]
  | _ => []
abbrev natsV (l : List Nat) : List V := l.map fun (n : Nat) => V.int (n : Int)
def pick (p : V × V) : Option V := if decide (p.1 = V.str "name") = true then some p.2 else none
abbrev told (row : Row) : List (V × V) := (partsOf row).zip ((rowV row).drop 1)
theorem pickY {y : V} : pick (.str "name", y) = some y := rfl
theorem pickN {y : V} : pick (.str "number", y) = none := if_neg (show ¬ decide (V.str "number" = V.str "name") = true by decide +kernel)
theorem pickR {y : V} : pick (.str "row", y) = none := if_neg (show ¬ decide (V.str "row" = V.str "name") = true by decide +kernel)
theorem named (row : Row) : (told row).filterMap pick = natsV (namesOf row) := by
  cases row <;> simp [told, partsOf, rowV, namesOf, natsV, pickY, pickN, pickR]
theorem parts_str {row : Row} {i : Nat} {x : V} (h : (partsOf row)[i]? = some x) : ∃ s, x = .str s := by
  have : ∀ y ∈ partsOf row, ∃ s, y = V.str s := by cases row <;> simp [partsOf]
  exact this x (List.mem_of_getElem? h)
theorem told_few (row : Row) : (told row).length ≤ 3 := by cases row <;> simp [told, partsOf, rowV]
section
variable {base : Heap} {K : PySem.W.Frag} {mg : Str → Option Value} {P : Program} {w : World}
def spNames (T : Addr) : Sp := fun vs H Q _ => ∃ (r : Addr) (row : Row), vs = [.ref r] ∧ H r = some (.tup (rowV row)) ∧ TabG H T ∧ ∀ H' t, H' t = some (.tup (natsV (namesOf row))) → Ext no H H' → Q (.ref t) H'
abbrev nNames : List Str := ["row", "part", "told"]
theorem scNames : FnScope nNames ["row"] (defScope s_names_of) := ⟨rfl, rfl, rfl, by decide +kernel, rfl, by decide +kernel, by decide +kernel⟩
theorem ok_names {f c T d : Addr} {fd : FuncData} {es : Array DictEntry} {n0 : Nat} (D : Dc K mg "names_of" s_names_of ["row"] f fd c) (TB : TabB base mg c T) (PT0 : Parts K w mg d es n0) (B : Bt mg) : FnOk P w K mg base CX0 4 f fd ["row"] (spNames T) := by
  refine D.ok scNames (fun vs H Q E h => ?_) (fun A outer s H vs Q E hr h => ?_)
  · obtain ⟨r, row, rfl, _⟩ := h
    rfl
  · obtain ⟨r, row, rfl, hrow, tab, q⟩ := h
    refine ⟨_, pss_one (ps_ret (pe_tupG (P := T) (own := [("part", 1), ("told", 2)]) (k := 1) (g := gTup K 2 (gCons (gName 1) (gCons (gName 2) gNil))) hr (by rfl) B.tuple TB rfl scNames.nd
        (pi_zipA (by rfl) B.zip (pa_cons (pe_ix ix_kdict (pe_glob (v := .ref d) (by rfl) PT0.g rfl) (pe_ix ix_tup (pv 0) pe_int (fun _ _ => rfl)) (fun _ _ => rfl)) (pa_cons (pe_slice sl_tup (pv 0) (po_some pe_int) po_none) pa_nil)))
        (blkOk_by (N := nNames) (sc := defScope s_names_of) (by decide +kernel))
        (fun _ _ _ _ _ _ _ _ _ => pg_tup rfl (pgs_cons (pg_name (i := 1) scNames.nd rfl (Or.inl rfl)) (pgs_cons (pg_name (i := 2) scNames.nd rfl (Or.inl rfl)) pgs_nil)))
        (fun _ _ _ _ _ _ _ _ _ => pts_one (pt_cmpR op_eq (pv 1) pe_str (nomark _))) (fun _ _ _ _ _ _ _ _ _ => pv 2))), ?_⟩
    have hT := SqT.of (K := K) hrow
    obtain ⟨rest, word⟩ := rowV_word row
    have first : atI (rowV row) 0 = some (.str (wordOf row)) := by rw [word]; exact atI_nat (j := 0) rfl
    obtain ⟨pa, isP, tupP⟩ := PT0.ex row
    refine ⟨_, rfl, r, _, 0, _, rfl, rfl, hT, first, d, _, .ref pa, rfl, rfl, ⟨_, _, _, PT0.kd.at_, PT0.kd.lit, isP, rfl⟩, ?_⟩
    refine ⟨_, rfl, 1, rfl, r, _, rfl, hT, notAll (k := 1) (by decide) (by rw [word]; exact Nat.zero_lt_succ _), fun sl nsl => ?_⟩
    have cut1 : cutV (rowV row) (some 1) none = (rowV row).drop 1 := cutFrom (rowV row) 1
    generalize hH2 : upd H sl (.tup (cutV (rowV row) (some 1) none)) = H2
    have hs2 : H2 sl = some (.tup ((rowV row).drop 1)) := by rw [← hH2, upd_same, cut1]
    have x2 : Ext no H H2 := by rw [← hH2]; exact Ext.new nsl
    refine ⟨pa, sl, _, _, rfl, .inr ⟨tupP H2, SqT.of hs2, x2.tab T tab, fun H3 t3 => ?_⟩⟩
    have x3 : Ext no H2 H3 := Ext.tbd (x2.tab T tab) t3
    have few := told_few row
    refine gx_zipT (xs := partsOf row) (ys := (rowV row).drop 1) (parts_len row) (fun i acc H4 => acc = ((told row).take i).filterMap pick ∧ Ext no H3 H4) ⟨rfl, Ext.refl _ _⟩ (fun i acc H4 x4 => ⟨tupP H4, SqT.of (x4.2.tup _ _ (x3.tup _ _ hs2))⟩) ?_ ?_
    · rintro i x y t acc H4 isX isY ⟨rfl, x4⟩ nt
      obtain ⟨sx, rfl⟩ := parts_str isX
      have isXY : (told row)[i]? = some (.str sx, y) := by
        show ((partsOf row).zip ((rowV row).drop 1))[i]? = _
        rw [List.getElem?_zip_eq_some]
        exact ⟨isX, isY⟩
      have next : ((told row).take (i + 1)).filterMap pick = ((told row).take i).filterMap pick ++ (pick (.str sx, y)).toList := by
        rw [List.take_succ, isXY, List.filterMap_append]
        cases h : pick (.str sx, y) <;> simp [h]
      have len : (((told row).take i).filterMap pick).length < sizeLine := by
        refine small_lt (k := 3) ?_ (by decide)
        refine Nat.le_trans (List.length_filterMap_le _ _) (Nat.le_trans ?_ few)
        rw [List.length_take]
        exact Nat.min_le_right _ _
      refine ⟨t, _, rfl, SqT.of upd_same, rfl, _, _, rfl, _, _, rfl, rfl, rfl, ?_⟩
      refine ⟨_, rfl, rfl, ⟨_, rfl, ?_⟩⟩
      by_cases e : decide (V.str sx = V.str "name") = true
      · rw [e]
        refine iteT ⟨_, rfl, len, fun _ => ⟨?_, x4.trans (Ext.new nt)⟩⟩
        rw [next, show pick (.str sx, y) = some y from if_pos e]
        rfl
      · rw [Bool.not_eq_true] at e
        rw [e]
        refine iteF ⟨?_, x4.trans (Ext.new nt)⟩
        rw [next, show pick (.str sx, y) = none from if_neg (by rw [e]; exact Bool.false_ne_true)]
        simp
    · rintro acc H4 ⟨rfl, x4⟩
      have all : (told row).take (partsOf row).length = told row := List.take_of_length_le (by show ((partsOf row).zip ((rowV row).drop 1)).length ≤ _; rw [List.length_zip]; exact Nat.min_le_left _ _)
      rw [all, named]
      refine ⟨?_, fun p np => q _ p upd_same (((x2.trans x3).trans x4).trans (Ext.new np))⟩
      rw [← named]
      exact Nat.le_of_lt (small_lt (k := 3) (Nat.le_trans (List.length_filterMap_le _ _) few) (by decide))
/-! ### the program: programs that can be -/
def spHead : Sp := fun vs H Q _ => ∃ (a : Addr) (p : Prog), vs = [.ref a] ∧ ProgAt H a p ∧ p.Ok ∧ Q (.bl true) H
abbrev nHead : List Str := ["program", "params", "names", "rows"]
theorem scHead : FnScope nHead ["program"] (defScope s_head_can_be) := ⟨rfl, rfl, rfl, by decide +kernel, rfl, by decide +kernel, by decide +kernel⟩
theorem ok_head {f fN fT : Addr} {fd fdN fdT : FuncData} (D : Df K mg "head_can_be" s_head_can_be ["program"] f fd) (DN : Df K mg "is_number" s_is_number ["value", "low", "high"] fN fdN) (DT : Df K mg "is_tuple_of" s_is_tuple_of ["value", "many"] fT fdT)
    (B : Bt mg) (G : Gk mg) : FnOk P w K mg base CX0 2 f fd ["program"] spHead := by
  have GN : FnOk P w K mg base CX0 1 fN fdN ["value", "low", "high"] spNum := ok_num DN B
  have GT : FnOk P w K mg base CX0 1 fT fdT ["value", "many"] (spTupOf K) := ok_tupOf DT B
  refine D.F.ok scHead (fun vs H Q E h => ?_) (fun cdv A outer s H vs Q E hr h => ?_)
  · obtain ⟨a, p, rfl, _⟩ := h
    rfl
  · obtain ⟨a, p, rfl, hp, ok, q⟩ := h
    refine ⟨_, pss_cons (ps_if (pt_not (pt_val (pcall DT GT hr (pa_cons (pv 0) (pa_cons pe_int pa_nil))))) (pss_one (ps_ret pe_bl)) pss_nil)
      (pss_cons (ps_asg (pv 0) (pg_tup rfl (pgs_cons (pg_name (i := 1) scHead.nd rfl (Or.inl rfl)) (pgs_cons (pg_name (i := 2) scHead.nd rfl (Or.inl rfl)) (pgs_cons (pg_name (i := 3) scHead.nd rfl (Or.inl rfl)) pgs_nil)))))
      (pss_cons (ps_if (PW.pt (pw_or (pt_not (pt_val (pcall DN GN hr (pa_cons (pv 2) (pa_cons pe_int (pa_cons (pe_num G.names) pa_nil)))))) (pw_or1 (pt_not (pt_val (pcall DN GN hr (pa_cons (pv 1) (pa_cons pe_int (pa_cons (pv 2) pa_nil)))))))))
        (pss_one (ps_ret pe_bl)) pss_nil)
      (pss_one (ps_ret (pe_and (pe_callB call_isi (by rfl) B.isinstance (by decide +kernel) (pa_cons (pv 3) (pa_cons (pe_bltn (v := .ty "tuple") (by rfl) B.tuple (by decide +kernel) rfl) pa_nil)))
        (pe_one (pe_cmpR op_gt (pe_callB call_len_seq (by rfl) B.len PySem.boot_len (pa_cons (pv 3) pa_nil)) pe_int (nomark _)))))))), ?_⟩
    obtain ⟨rs, as, ha, hrs, hrows⟩ := hp.ex
    refine ⟨_, rfl, a, _, 3, rfl, SqT.of ha, _, rfl, iteF ?_⟩
    refine ⟨_, rfl, a, _, rfl, SqT.of ha, rfl, _, _, rfl, _, _, rfl, _, _, rfl, rfl, ?_⟩
    have n0 := ok.n0
    have n1 := ok.n1
    have pn := ok.pn
    refine ⟨_, rfl, p.names, 1, 8, rfl, _, rfl, ?_⟩
    rw [decide_eq_true (show (1 : Int) ≤ p.names by omega), decide_eq_true (show (p.names : Int) ≤ 8 by omega)]
    refine iteF ⟨_, rfl, _, rfl, p.params, 0, p.names, rfl, _, rfl, ?_⟩
    rw [decide_eq_true (show (0 : Int) ≤ p.params by omega), decide_eq_true (show (p.params : Int) ≤ p.names by omega)]
    refine iteF ?_
    have hT : SqT K H rs (as.map V.ref) := SqT.of hrs
    refine ⟨_, rfl, _, _, _, _, true, rfl, .ty "tuple", tyT hT, kit_ty (by decide +kernel), _, rfl, iteT ?_⟩
    refine ⟨_, rfl, rs, _, rfl, .inr hT, _, _, rfl, rfl, ?_⟩
    have r0 := ok.r0
    show Q (.bl (decide ((0 : Int) < ((as.map V.ref).length : Int)))) H
    rw [decide_eq_true (show (0 : Int) < ((as.map V.ref).length : Int) by rw [List.length_map, hrows.len]; omega)]
    exact q
end
end Bw
namespace Bw
open PySem PySem.Spec PyProof.Rows L2 GxR Gx RZ
section
variable {base : Heap} {K : PySem.W.Frag} {mg : Str → Option Value} {P : Program} {w : World}
def spCheck (T : Addr) : Sp := fun vs H Q _ => ∃ (a : Addr) (p : Prog), vs = [.ref a] ∧ ProgAt H a p ∧ p.Ok ∧ TabG H T ∧ ∀ H', Ext no H H' → Q .non H'
abbrev nCheck : List Str := ["program", "names", "rows", "many", "at", "row"]
theorem scCheck : FnScope nCheck ["program"] (defScope s_check_program) := ⟨rfl, rfl, rfl, by decide +kernel, rfl, by decide +kernel, by decide +kernel⟩
theorem ok_check {f fH fR c T fN fT d : Addr} {fd fdH fdR fdN fdT : FuncData} {es : Array DictEntry} {n0 : Nat} (D : Df K mg "check_program" s_check_program ["program"] f fd) (DH : Df K mg "head_can_be" s_head_can_be ["program"] fH fdH)
    (DR : Dc K mg "row_can_be" s_row_can_be ["row", "names", "many"] fR fdR c) (TB : TabB base mg c T) (DN : Df K mg "is_number" s_is_number ["value", "low", "high"] fN fdN) (DT : Df K mg "is_tuple_of" s_is_tuple_of ["value", "many"] fT fdT)
    (PT0 : Parts K w mg d es n0) (B : Bt mg) (G : Gk mg) : FnOk P w K mg base CX0 5 f fd ["program"] (spCheck T) := by
  have GH : FnOk P w K mg base CX0 2 fH fdH ["program"] spHead := ok_head DH DN DT B G
  have GR : FnOk P w K mg base CX0 4 fR fdR ["row", "names", "many"] (spRowCan T) := ok_rowCan DR TB DN PT0 B G
  refine D.F.ok scCheck (fun vs H Q E h => ?_) (fun cdv A outer s H vs Q E hr h => ?_)
  · obtain ⟨a, p, rfl, _⟩ := h
    rfl
  · obtain ⟨a, p, rfl, hp, ok, tab, q⟩ := h
    refine ⟨_, pss_cons (ps_if (pt_not (pt_val (pcall DH GH (hr.mono (show 2 ≤ 4 by decide)) (pa_cons (pv 0) pa_nil)))) (pss_one ps_never) pss_nil)
      (pss_cons (ps_set (i := 1) scCheck.nd rfl (.inl rfl) (pe_ix ix_tup (pv 0) pe_int (fun _ _ => rfl)))
      (pss_cons (ps_set (i := 2) scCheck.nd rfl (.inl rfl) (pe_ix ix_tup (pv 0) pe_int (fun _ _ => rfl)))
      (pss_cons (ps_set (i := 3) scCheck.nd rfl (.inl rfl) (pe_callB (call_min2 rfl) (by rfl) B.min (by decide +kernel) (pa_cons (pe_callB call_len_seq (by rfl) B.len PySem.boot_len (pa_cons (pv 2) pa_nil)) (pa_cons (pe_num G.rows) pa_nil))))
      (pss_one (ps_for PassesOwn.never rfl (pi_enumT (by rfl) B.enumerate (pa_cons (pv 2) pa_nil)) (pg_tup rfl (pgs_cons (pg_name (i := 4) scCheck.nd rfl (.inl rfl)) (pgs_cons (pg_name (i := 5) scCheck.nd rfl (.inl rfl)) pgs_nil)))
        (pss_one (ps_if (PW.pt (pw_or (pt_cmpR op_eq (pv 4) (pe_num G.rows) (nomark _)) (pw_or1 (pt_not (pt_val (pcall DR.D GR hr (pa_cons (pv 5) (pa_cons (pv 1) (pa_cons (pv 3) pa_nil)))))))))
          (pss_one ps_never) pss_nil))))))), ?_⟩
    obtain ⟨rs, as, ha, hrs, hrows⟩ := hp.ex
    refine ⟨_, rfl, a, p, rfl, hp, ok, _, rfl, iteF ?_⟩
    refine ⟨_, rfl, a, _, 1, _, rfl, rfl, SqT.of ha, atI_nat (j := 1) rfl, ?_⟩
    refine ⟨_, rfl, a, _, 2, _, rfl, rfl, SqT.of ha, atI_nat (j := 2) rfl, ?_⟩
    have hrl : (as.map V.ref).length = p.rows.length := by rw [List.length_map, hrows.len]
    have r24 := ok.r1
    refine ⟨_, rfl, rs, _, rfl, .inr (SqT.of hrs), _, _, rfl, ?_⟩
    rw [hrl, if_neg (show ¬ (24 : Int) < ((p.rows.length : Nat) : Int) by omega)]
    refine ⟨_, rfl, rs, _, rfl, SqT.of hrs, for_enumT (xs := as.map V.ref) (fun i σ H2 => (∃ v3 v4, σ = [some (.ref a), some (.int p.names), some (.ref rs), some (.int p.rows.length), v3, v4]) ∧ Ext no H H2) ⟨⟨none, none, rfl⟩, Ext.refl _ _⟩ (fun i σ H2 x2 => SqT.of (x2.2.tup _ _ hrs)) ?_ ?_⟩
    · rintro i x t σ H2 isX ⟨⟨v3, v4, rfl⟩, x2⟩ nt
      rw [List.getElem?_map] at isX
      obtain ⟨r, hr0, rfl⟩ : ∃ r, as[i]? = some r ∧ x = V.ref r := by
        cases e : as[i]? with
        | none => rw [e] at isX; cases isX
        | some r => rw [e] at isX; exact ⟨r, rfl, (Option.some.inj isX).symm⟩
      have hi : i < p.rows.length := by
        rw [← hrows.len]
        exact (List.getElem?_eq_some_iff.mp hr0).1
      have hrow := x2.tup _ _ (hrows.at_ i r _ hr0 (List.getElem?_eq_getElem hi))
      have x3 : Ext no H2 (upd H2 t (.tup [.int i, .ref r])) := Ext.new nt
      refine ⟨t, _, rfl, SqT.of upd_same, rfl, _, _, rfl, _, _, rfl, rfl, ?_⟩
      refine ⟨_, rfl, rfl, ⟨_, rfl, ?_⟩⟩
      rw [decide_eq_false (fun z : V.int i = V.int 24 => by have := V.int.inj z; omega)]
      refine iteF ⟨_, rfl, _, rfl, _, rfl, ?_⟩
      refine ⟨r, p.rows[i], p.names, p.rows.length, rfl, x3.tup _ _ hrow, ok.ok _ (List.getElem_mem hi), x3.tab T (x2.tab T tab), fun H4 x4 => ⟨_, rfl, iteF ⟨⟨_, _, rfl⟩, (x2.trans x3).trans x4⟩⟩⟩
    · rintro σ H2 ⟨_, x2⟩
      exact q _ x2
def spGiven (T : Addr) : Sp := fun vs H Q _ => ∃ (a g : Addr) (p : Prog) (given : List Int) (fuel : Nat), vs = [.ref a, .ref g, .int fuel] ∧ ProgAt H a p ∧ H g = some (.tup (given.map V.int)) ∧ given.length = p.params ∧ Nums given ∧ fuel ≤ 1000 ∧ TabG H T ∧ ∀ H', Ext no H H' → Q .non H'
theorem scGiven : FnScope ["program", "given", "fuel"] ["program", "given", "fuel"] (defScope s_check_given) := ⟨rfl, rfl, rfl, by decide +kernel, rfl, by decide +kernel, by decide +kernel⟩
theorem ok_given {f fV c T fN fT : Addr} {fd fdV fdN fdT : FuncData} (D : Df K mg "check_given" s_check_given ["program", "given", "fuel"] f fd) (DV : Dc K mg "are_values" s_are_values ["numbers"] fV fdV c) (TB : TabB base mg c T)
    (DN : Df K mg "is_number" s_is_number ["value", "low", "high"] fN fdN) (DT : Df K mg "is_tuple_of" s_is_tuple_of ["value", "many"] fT fdT) (B : Bt mg) (G : Gk mg) : FnOk P w K mg base CX0 5 f fd ["program", "given", "fuel"] (spGiven T) := by
  have GN : FnOk P w K mg base CX0 1 fN fdN ["value", "low", "high"] spNum := ok_num DN B
  have GT : FnOk P w K mg base CX0 1 fT fdT ["value", "many"] (spTupOf K) := ok_tupOf DT B
  have GV : FnOk P w K mg base CX0 4 fV fdV ["numbers"] (spVals K T) := ok_vals DV TB DN B G
  refine D.F.ok scGiven (fun vs H Q E h => ?_) (fun cdv A outer s H vs Q E hr h => ?_)
  · obtain ⟨a, g, p, given, fuel, rfl, _⟩ := h
    rfl
  · obtain ⟨a, g, p, given, fuel, rfl, hp, hg, hgl, hgn, hf, tab, q⟩ := h
    have hr1 := hr.mono (show 1 ≤ 4 by decide)
    refine ⟨_, pss_cons (ps_if (PW.pt (pw_or (pt_not (pt_val (pcall DT GT hr1 (pa_cons (pv 1) (pa_cons (pe_ix ix_tup (pv 0) pe_int (fun _ _ => rfl)) pa_nil))))) (pw_or1 (pt_not (pt_val (pcall DV.D GV hr (pa_cons (pv 1) pa_nil))))))) (pss_one ps_never) pss_nil)
      (pss_one (ps_if (pt_not (pt_val (pcall DN GN hr1 (pa_cons (pv 2) (pa_cons pe_int (pa_cons (pe_num G.fuel) pa_nil)))))) (pss_one ps_never) pss_nil)), ?_⟩
    obtain ⟨rs, as, ha, hrs, hrows⟩ := hp.ex
    refine ⟨_, rfl, _, rfl, a, _, 0, _, rfl, rfl, SqT.of ha, atI_nat (j := 0) rfl, ?_⟩
    refine ⟨g, _, p.params, rfl, SqT.of hg, _, rfl, ?_⟩
    rw [decide_eq_true (show (((given.map V.int).length : Nat) : Int) = p.params by rw [List.length_map, hgl])]
    refine iteF ⟨_, rfl, g, given, rfl, SqT.of hg, hgn, tab, fun H1 x1 => ⟨_, rfl, iteF ?_⟩⟩
    refine ⟨_, rfl, fuel, 0, 1000, rfl, _, rfl, ?_⟩
    rw [decide_eq_true (show (0 : Int) ≤ fuel by omega), decide_eq_true (show (fuel : Int) ≤ 1000 by omega)]
    exact iteF (q _ x1)
end
end Bw
namespace Bw
open PySem PySem.Spec PyProof.Rows L2 GxR Gx RZ
/-! ### the program: what a row does -/
def makersV : List V := [.str "put", .str "copy", .str "add", .str "take", .str "less", .str "call"]
structure Makers (K : PySem.W.Frag) (mg : Str → Option Value) (m : Addr) : Prop where
  g : mg "MAKERS" = some (.ref m)
  tup : ∀ H, SqT K H m makersV
def isMaker : Row → Bool
  | .put .. => true
  | .copy .. => true
  | .add .. => true
  | .take .. => true
  | .less .. => true
  | .call .. => true
  | _ => false
theorem in_makers (row : Row) : inV (.str (wordOf row)) makersV = isMaker row := by
  cases row with
  | put => exact (by decide +kernel : inV (.str "put") makersV = true)
  | copy => exact (by decide +kernel : inV (.str "copy") makersV = true)
  | add => exact (by decide +kernel : inV (.str "add") makersV = true)
  | take => exact (by decide +kernel : inV (.str "take") makersV = true)
  | less => exact (by decide +kernel : inV (.str "less") makersV = true)
  | call => exact (by decide +kernel : inV (.str "call") makersV = true)
  | say => exact (by decide +kernel : inV (.str "say") makersV = false)
  | iff => exact (by decide +kernel : inV (.str "if") makersV = false)
  | go => exact (by decide +kernel : inV (.str "go") makersV = false)
  | fin => exact (by decide +kernel : inV (.str "end") makersV = false)
/-- the names that a row is handed -/
def handedOf (row : Row) : List Nat := if isMaker row = true then (namesOf row).drop 1 else namesOf row
theorem maker_names {row : Row} (h : isMaker row = true) : 0 < (natsV (namesOf row)).length := by
  cases row <;> first | exact Nat.zero_lt_succ _ | cases h
/-- the number of the row behind a row -/
def behind (row : Row) (i : Nat) (j : Bool) : Nat := match row with
  | .go r => r
  | .iff _ r => if j = true then r else i + 1
  | _ => i + 1
theorem kinds (row : Row) : (∃ r, row = .go r) ∨ (∃ n r, row = .iff n r) ∨ (decide (V.str (wordOf row) = V.str "go") = false ∧ decide (V.str (wordOf row) = V.str "if") = false ∧ ∀ i j, behind row i j = i + 1) := by
  cases row with
  | go r => exact .inl ⟨r, rfl⟩
  | iff n r => exact .inr (.inl ⟨n, r, rfl⟩)
  | put => exact .inr (.inr ⟨(by decide +kernel : decide (V.str "put" = V.str "go") = false), (by decide +kernel : decide (V.str "put" = V.str "if") = false), fun _ _ => rfl⟩)
  | copy => exact .inr (.inr ⟨(by decide +kernel : decide (V.str "copy" = V.str "go") = false), (by decide +kernel : decide (V.str "copy" = V.str "if") = false), fun _ _ => rfl⟩)
  | add => exact .inr (.inr ⟨(by decide +kernel : decide (V.str "add" = V.str "go") = false), (by decide +kernel : decide (V.str "add" = V.str "if") = false), fun _ _ => rfl⟩)
  | take => exact .inr (.inr ⟨(by decide +kernel : decide (V.str "take" = V.str "go") = false), (by decide +kernel : decide (V.str "take" = V.str "if") = false), fun _ _ => rfl⟩)
  | less => exact .inr (.inr ⟨(by decide +kernel : decide (V.str "less" = V.str "go") = false), (by decide +kernel : decide (V.str "less" = V.str "if") = false), fun _ _ => rfl⟩)
  | call => exact .inr (.inr ⟨(by decide +kernel : decide (V.str "call" = V.str "go") = false), (by decide +kernel : decide (V.str "call" = V.str "if") = false), fun _ _ => rfl⟩)
  | say => exact .inr (.inr ⟨(by decide +kernel : decide (V.str "say" = V.str "go") = false), (by decide +kernel : decide (V.str "say" = V.str "if") = false), fun _ _ => rfl⟩)
  | fin => exact .inr (.inr ⟨(by decide +kernel : decide (V.str "end" = V.str "go") = false), (by decide +kernel : decide (V.str "end" = V.str "if") = false), fun _ _ => rfl⟩)
section
variable {base : Heap} {K : PySem.W.Frag} {mg : Str → Option Value} {P : Program} {w : World}
def spHanded : Sp := fun vs H Q _ => ∃ (r o : Addr) (row : Row), vs = [.ref r, .ref o] ∧ H r = some (.tup (rowV row)) ∧ H o = some (.tup (natsV (namesOf row))) ∧ ∀ H' t, H' t = some (.tup (natsV (handedOf row))) → Ext no H H' → Q (.ref t) H'
theorem scHanded : FnScope ["row", "ones"] ["row", "ones"] (defScope s_handed) := ⟨rfl, rfl, rfl, by decide +kernel, rfl, by decide +kernel, by decide +kernel⟩
theorem first_word {K : PySem.W.Frag} {row : Row} : atI (rowV row) 0 = some (.str (wordOf row)) := by
  obtain ⟨rest, word⟩ := rowV_word row
  rw [word]
  exact atI_nat (j := 0) rfl
theorem ok_handed {f m : Addr} {fd : FuncData} (D : Df K mg "handed" s_handed ["row", "ones"] f fd) (MK : Makers K mg m) : FnOk P w K mg base CX0 1 f fd ["row", "ones"] spHanded := by
  refine D.F.ok scHanded (fun vs H Q E h => ?_) (fun cdv A outer s H vs Q E hr h => ?_)
  · obtain ⟨r, o, row, rfl, _⟩ := h
    rfl
  · obtain ⟨r, o, row, rfl, hrow, ho, q⟩ := h
    refine ⟨_, pss_one (ps_ret (pe_ifExp (pt_cmpR op_in_seq (pe_ix ix_tup (pv 0) pe_int (fun _ _ => rfl)) (pe_glob (v := .ref m) (by rfl) MK.g rfl) (by rfl)) (pe_slice sl_tup (pv 1) (po_some pe_int) po_none) (pv 1))), ?_⟩
    refine ⟨_, rfl, r, _, 0, _, rfl, rfl, SqT.of hrow, first_word (K := K), m, _, rfl, .inr (MK.tup H), rfl, by decide +kernel, _, rfl, ?_⟩
    show if inV (.str (wordOf row)) makersV = true then _ else _
    rw [in_makers]
    by_cases e : isMaker row = true
    · rw [e]
      refine iteT ⟨_, rfl, 1, rfl, o, _, rfl, SqT.of ho, notAll (k := 1) (by decide) (maker_names e), fun p np => q _ p ?_ (Ext.new np)⟩
      rw [upd_same, show cutV (natsV (namesOf row)) (some 1) none = (natsV (namesOf row)).drop 1 from cutFrom _ 1, handedOf, if_pos e, ← List.map_drop]
    · rw [Bool.not_eq_true] at e
      rw [e]
      refine iteF ⟨_, rfl, q _ o ?_ (Ext.refl _ _)⟩
      rw [ho, handedOf, if_neg (by rw [e]; exact Bool.false_ne_true)]
def spAtEnd : Sp := fun vs H Q _ => ∃ (rs : Addr) (as : List Addr) (rows : List Row) (i : Nat), vs = [.ref rs, .int i] ∧ H rs = some (.tup (as.map V.ref)) ∧ RowsAt H as rows ∧ i ≤ rows.length ∧ Q (.bl (atEnd rows i)) H
theorem scAtEnd : FnScope ["rows", "at"] ["rows", "at"] (defScope s_at_end) := ⟨rfl, rfl, rfl, by decide +kernel, rfl, by decide +kernel, by decide +kernel⟩
theorem ok_atEnd {f : Addr} {fd : FuncData} (D : Df K mg "at_end" s_at_end ["rows", "at"] f fd) (B : Bt mg) : FnOk P w K mg base CX0 1 f fd ["rows", "at"] spAtEnd := by
  refine D.F.ok scAtEnd (fun vs H Q E h => ?_) (fun cdv A outer s H vs Q E hr h => ?_)
  · obtain ⟨rs, as, rows, i, rfl, _⟩ := h
    rfl
  · obtain ⟨rs, as, rows, i, rfl, hrs, hrows, hi, q⟩ := h
    refine ⟨_, pss_one (ps_ret (pe_or (pe_cmpR op_eq (pv 1) (pe_callB call_len_seq (by rfl) B.len PySem.boot_len (pa_cons (pv 0) pa_nil)) (nomark _)) (pe_one (pe_cmpR op_eq (pe_ix ix_tup (pe_ix ix_tup (pv 0) (pv 1) (fun _ _ => rfl)) pe_int (fun _ _ => rfl)) pe_str (nomark _))))), ?_⟩
    have hl : (as.map V.ref).length = rows.length := by rw [List.length_map, hrows.len]
    refine ⟨_, rfl, _, rfl, rs, _, rfl, .inr (SqT.of hrs), rfl, _, rfl, ?_⟩
    by_cases e : i = rows.length
    · subst e
      rw [decide_eq_true (show V.int rows.length = V.int ((as.map V.ref).length : Nat) by rw [hl])]
      refine iteT ?_
      have z : atEnd rows rows.length = true := by
        unfold atEnd
        rw [List.getElem?_eq_none_iff.mpr (Nat.le_refl _)]
      rw [z] at q
      exact q
    · rw [decide_eq_false (fun z : V.int i = V.int ((as.map V.ref).length : Nat) => e (by have := V.int.inj z; omega))]
      have lt : i < rows.length := by omega
      have la : i < as.length := by rw [hrows.len]; exact lt
      have ai : as[i]? = some as[i] := List.getElem?_eq_getElem la
      have ri : rows[i]? = some rows[i] := List.getElem?_eq_getElem lt
      refine iteF ⟨_, rfl, _, rfl, rs, _, i, _, rfl, rfl, SqT.of hrs, atI_nat (by rw [List.getElem?_map, ai]; rfl), as[i], _, 0, _, rfl, rfl, SqT.of (hrows.at_ i _ _ ai ri), first_word (K := K), rfl, ?_⟩
      have z : decide (V.str (wordOf rows[i]) = V.str "end") = atEnd rows i := by
        unfold atEnd
        rw [ri]
        by_cases fe : rows[i] = .fin
        · rw [fe]
          exact decide_eq_true rfl
        · rw [word_end fe]
          cases h : rows[i] <;> first | rfl | exact absurd h fe
      rw [z]
      exact q
def spNext : Sp := fun vs H Q _ => ∃ (r : Addr) (row : Row) (i : Nat) (j : Bool), vs = [.ref r, .int i, .bl j] ∧ H r = some (.tup (rowV row)) ∧ Q (.int (behind row i j)) H
theorem scNext : FnScope ["row", "at", "jumps"] ["row", "at", "jumps"] (defScope s_next_row) := ⟨rfl, rfl, rfl, by decide +kernel, rfl, by decide +kernel, by decide +kernel⟩
theorem ok_next {f : Addr} {fd : FuncData} (D : Df K mg "next_row" s_next_row ["row", "at", "jumps"] f fd) : FnOk P w K mg base CX0 1 f fd ["row", "at", "jumps"] spNext := by
  refine D.F.ok scNext (fun vs H Q E h => ?_) (fun cdv A outer s H vs Q E hr h => ?_)
  · obtain ⟨r, row, i, j, rfl, _⟩ := h
    rfl
  · obtain ⟨r, row, i, j, rfl, hrow, q⟩ := h
    refine ⟨_, pss_cons (ps_if (pt_cmpR op_eq (pe_ix ix_tup (pv 0) pe_int (fun _ _ => rfl)) pe_str (nomark _)) (pss_one (ps_ret (pe_ix ix_tup (pv 0) pe_int (fun _ _ => rfl)))) pss_nil)
      (pss_cons (ps_if (PW.pt (pw_and (pt_cmpR op_eq (pe_ix ix_tup (pv 0) pe_int (fun _ _ => rfl)) pe_str (nomark _)) (pw_and1 (pt_val (pv 2))))) (pss_one (ps_ret (pe_ix ix_tup (pv 0) pe_int (fun _ _ => rfl)))) pss_nil)
      (pss_one (ps_ret (pe_op op_add (pv 1) pe_int)))), ?_⟩
    have hT := SqT.of (K := K) hrow
    refine ⟨_, rfl, r, _, 0, _, rfl, rfl, hT, first_word (K := K), rfl, _, rfl, ?_⟩
    have plus : behind row i j = i + 1 → Q (.int ((i : Int) + 1)) H := fun e => by
      rw [e] at q
      exact q
    rcases kinds row with ⟨g, rfl⟩ | ⟨n, g, rfl⟩ | ⟨n1, n2, e⟩
    · refine yS ⟨_, rfl, r, _, 1, _, rfl, rfl, hT, atI_nat (j := 1) rfl, q⟩
    · refine nS (show decide (V.str "if" = V.str "go") = false by decide +kernel) ⟨_, rfl, r, _, 0, _, rfl, rfl, hT, first_word (K := K), rfl, _, rfl, yS ⟨_, rfl, j, rfl, ?_⟩⟩
      cases j with
      | true => exact iteT ⟨_, rfl, r, _, 2, _, rfl, rfl, hT, atI_nat (j := 2) rfl, q⟩
      | false => exact iteF ⟨_, rfl, _, _, rfl, rfl, plus rfl⟩
    · refine nS n1 ⟨_, rfl, r, _, 0, _, rfl, rfl, hT, first_word (K := K), rfl, _, rfl, nS n2 ?_⟩
      exact iteF ⟨_, rfl, _, _, rfl, rfl, plus (e i j)⟩
def spMoves (K : PySem.W.Frag) : Sp := fun vs H Q _ => ∃ (x y : V) (e : Addr), vs = [x, .ref e, y] ∧ SqT K H e [] ∧ Q .non H
abbrev nMoves : List Str := ["frame", "moves", "cells", "word", "one", "other", "parts", "left", "right"]
theorem scMoves : FnScope nMoves ["frame", "moves", "cells"] (defScope s_do_moves) := ⟨rfl, rfl, rfl, by decide +kernel, rfl, by decide +kernel, by decide +kernel⟩
theorem ok_moves {f : Addr} {fd : FuncData} (D : Df K mg "do_moves" s_do_moves ["frame", "moves", "cells"] f fd) : FnOk P w K mg base CX0 1 f fd ["frame", "moves", "cells"] (spMoves K) := by
  refine D.F.ok scMoves (fun vs H Q E h => ?_) (fun cdv A outer s H vs Q E hr h => ?_)
  · obtain ⟨x, y, e, rfl, _⟩ := h
    rfl
  · obtain ⟨x, y, e, rfl, hT, q⟩ := h
    refine ⟨_, pss_one (ps_for PassesOwn.never rfl (pi_tup (pv 1)) (pg_tup rfl (pgs_cons (pg_name (i := 3) scMoves.nd rfl (.inl rfl)) (pgs_cons (pg_name (i := 4) scMoves.nd rfl (.inl rfl)) (pgs_cons (pg_name (i := 5) scMoves.nd rfl (.inl rfl)) pgs_nil)))) pss_never), ?_⟩
    refine ⟨_, rfl, e, rfl, ⟨_, hT⟩, for_tup (xs := []) (fun i σ H2 => H2 = H) rfl (fun i σ H2 _ z => by rw [z]; exact hT) (fun i x σ H2 z => by simp at z) fun σ H2 z => ?_⟩
    rw [z]
    exact q
end
end Bw
namespace Bw
open PySem PySem.Spec PyProof.Rows L2 GxR Gx RZ
def numsOf (row : Row) (c : List Int) : List Int := (handedOf row).map (at0 c)
def madeOf : Row → List Int → Int
  | .put _ v, _ => v
  | .copy _ o, c => at0 c o
  | .add _ a b, c => (at0 c a + at0 c b) % 1000
  | .take _ a b, c => (at0 c a - at0 c b) % 1000
  | .less _ a b, c => if at0 c a < at0 c b then 1 else 0
  | .call _ o, c => (7 * at0 c o * at0 c o + at0 c o + 3) % 1000
  | _, _ => 0
theorem made_row {row : Row} (h : isMaker row = true) (c : List Int) : ∃ n rest, namesOf row = n :: rest ∧ doRow row c = c.set n (madeOf row c) := by
  cases row <;> first | exact ⟨_, _, rfl, rfl⟩ | cases h
theorem kept_row {row : Row} (h : isMaker row = false) (c : List Int) : doRow row c = c := by
  cases row <;> first | rfl | cases h
section
variable {base : Heap} {K : PySem.W.Frag} {mg : Str → Option Value} {P : Program} {w : World}
def spMade : Sp := fun vs H Q _ => ∃ (r nl : Addr) (row : Row) (c : List Int), vs = [.ref r, .ref nl] ∧ H r = some (.tup (rowV row)) ∧ isMaker row = true ∧ H nl = some (.lst ((numsOf row c).map V.int)) ∧ Nums c ∧ Q (.int (madeOf row c)) H
abbrev nMade : List Str := ["row", "numbers", "word", "one", "other"]
theorem scMade : FnScope nMade ["row", "numbers"] (defScope s_made_of) := ⟨rfl, rfl, rfl, by decide +kernel, rfl, by decide +kernel, by decide +kernel⟩
theorem ok_made {f : Addr} {fd : FuncData} (D : Df K mg "made_of" s_made_of ["row", "numbers"] f fd) (G : Gk mg) : FnOk P w K mg base CX0 1 f fd ["row", "numbers"] spMade := by
  refine D.F.ok scMade (fun vs H Q E h => ?_) (fun cdv A outer s H vs Q E hr h => ?_)
  · obtain ⟨r, nl, row, c, rfl, _⟩ := h
    rfl
  · obtain ⟨r, nl, row, c, rfl, hrow, mk, hnl, hc, q⟩ := h
    refine ⟨_, pss_cons (ps_set (i := 2) scMade.nd rfl (.inl rfl) (pe_ix ix_tup (pv 0) pe_int (fun _ _ => rfl)))
      (pss_cons (ps_if (pt_cmpR op_eq (pv 2) pe_str (nomark _)) (pss_one (ps_ret (pe_ix ix_tup (pv 0) pe_int (fun _ _ => rfl)))) pss_nil)
      (pss_cons (ps_if (pt_cmpR op_eq (pv 2) pe_str (nomark _)) (pss_one (ps_ret (pe_ix ix_list (pv 1) pe_int (fun _ _ => rfl)))) pss_nil)
      (pss_cons (ps_if (pt_cmpR op_eq (pv 2) pe_str (nomark _)) (pss_one (ps_ret (pe_op op_mod (pe_op op_add (pe_op op_add (pe_op op_mul (pe_op op_mul pe_int (pe_ix ix_list (pv 1) pe_int (fun _ _ => rfl))) (pe_ix ix_list (pv 1) pe_int (fun _ _ => rfl))) (pe_ix ix_list (pv 1) pe_int (fun _ _ => rfl))) pe_int) (pe_num G.rest)))) pss_nil)
      (pss_cons (ps_asg (pv 1) (pg_lst rfl (pgs_cons (pg_name (i := 3) scMade.nd rfl (.inl rfl)) (pgs_cons (pg_name (i := 4) scMade.nd rfl (.inl rfl)) pgs_nil))))
      (pss_cons (ps_if (pt_cmpR op_eq (pv 2) pe_str (nomark _)) (pss_one (ps_ret (pe_op op_mod (pe_op op_add (pv 3) (pv 4)) (pe_num G.rest)))) pss_nil)
      (pss_cons (ps_if (pt_cmpR op_eq (pv 2) pe_str (nomark _)) (pss_one (ps_ret (pe_op op_mod (pe_op op_sub (pv 3) (pv 4)) (pe_num G.rest)))) pss_nil)
      (pss_one (ps_ret (pe_ifExp (pt_cmpR op_lt (pv 3) (pv 4) (nomark _)) pe_int pe_int))))))))), ?_⟩
    have hT := SqT.of (K := K) hrow
    have pos1000 : (0 : Int) < 1000 := by decide
    refine ⟨_, rfl, r, _, 0, _, rfl, rfl, hT, first_word (K := K), ?_⟩
    cases row with
    | put n v => exact ⟨_, rfl, rfl, _, rfl, yS ⟨_, rfl, r, _, 2, _, rfl, rfl, hT, atI_nat (j := 2) rfl, q⟩⟩
    | copy n o =>
      refine ⟨_, rfl, rfl, _, rfl, nS (show decide (V.str "copy" = V.str "put") = false by decide +kernel) ?_⟩
      exact ⟨_, rfl, rfl, _, rfl, yS ⟨_, rfl, nl, _, 0, _, rfl, rfl, SqL.of hnl, atI_nat (j := 0) rfl, q⟩⟩
    | call n o =>
      obtain ⟨o0, o1⟩ := hc.at0 o
      refine ⟨_, rfl, rfl, _, rfl, nS (show decide (V.str "call" = V.str "put") = false by decide +kernel) ?_⟩
      refine ⟨_, rfl, rfl, _, rfl, nS (show decide (V.str "call" = V.str "copy") = false by decide +kernel) ?_⟩
      refine ⟨_, rfl, rfl, _, rfl, yS ⟨_, rfl, nl, _, 0, _, rfl, rfl, SqL.of hnl, atI_nat (j := 0) rfl, _, _, rfl, rfl, .inl ⟨by decide, by decide⟩, ?_⟩⟩
      refine ⟨_, rfl, nl, _, 0, _, rfl, rfl, SqL.of hnl, atI_nat (j := 0) rfl, _, _, rfl, rfl, .inl ⟨by omega, by omega⟩, ?_⟩
      exact ⟨_, rfl, nl, _, 0, _, rfl, rfl, SqL.of hnl, atI_nat (j := 0) rfl, _, _, rfl, rfl, _, _, rfl, rfl, _, _, rfl, rfl, pos1000, q⟩
    | add n a b =>
      refine ⟨_, rfl, rfl, _, rfl, nS (show decide (V.str "add" = V.str "put") = false by decide +kernel) ?_⟩
      refine ⟨_, rfl, rfl, _, rfl, nS (show decide (V.str "add" = V.str "copy") = false by decide +kernel) ?_⟩
      refine ⟨_, rfl, rfl, _, rfl, nS (show decide (V.str "add" = V.str "call") = false by decide +kernel) ?_⟩
      refine ⟨_, rfl, nl, _, rfl, SqL.of hnl, rfl, _, _, rfl, _, _, rfl, rfl, ?_⟩
      exact ⟨_, rfl, rfl, _, rfl, yS ⟨_, rfl, _, rfl, _, _, rfl, rfl, _, _, rfl, rfl, pos1000, q⟩⟩
    | take n a b =>
      refine ⟨_, rfl, rfl, _, rfl, nS (show decide (V.str "take" = V.str "put") = false by decide +kernel) ?_⟩
      refine ⟨_, rfl, rfl, _, rfl, nS (show decide (V.str "take" = V.str "copy") = false by decide +kernel) ?_⟩
      refine ⟨_, rfl, rfl, _, rfl, nS (show decide (V.str "take" = V.str "call") = false by decide +kernel) ?_⟩
      refine ⟨_, rfl, nl, _, rfl, SqL.of hnl, rfl, _, _, rfl, _, _, rfl, rfl, ?_⟩
      refine ⟨_, rfl, rfl, _, rfl, nS (show decide (V.str "take" = V.str "add") = false by decide +kernel) ?_⟩
      exact ⟨_, rfl, rfl, _, rfl, yS ⟨_, rfl, _, rfl, _, _, rfl, rfl, _, _, rfl, rfl, pos1000, q⟩⟩
    | less n a b =>
      refine ⟨_, rfl, rfl, _, rfl, nS (show decide (V.str "less" = V.str "put") = false by decide +kernel) ?_⟩
      refine ⟨_, rfl, rfl, _, rfl, nS (show decide (V.str "less" = V.str "copy") = false by decide +kernel) ?_⟩
      refine ⟨_, rfl, rfl, _, rfl, nS (show decide (V.str "less" = V.str "call") = false by decide +kernel) ?_⟩
      refine ⟨_, rfl, nl, _, rfl, SqL.of hnl, rfl, _, _, rfl, _, _, rfl, rfl, ?_⟩
      refine ⟨_, rfl, rfl, _, rfl, nS (show decide (V.str "less" = V.str "add") = false by decide +kernel) ?_⟩
      refine ⟨_, rfl, rfl, _, rfl, nS (show decide (V.str "less" = V.str "take") = false by decide +kernel) ?_⟩
      refine ⟨_, rfl, _, rfl, _, _, rfl, rfl, _, rfl, ite2 (fun e => ?_) (fun e => ?_)⟩
      · have q2 : Q (.int (if at0 c a < at0 c b then 1 else 0)) H := q
        rw [if_pos (of_decide_eq_true e)] at q2
        exact q2
      · have q2 : Q (.int (if at0 c a < at0 c b then 1 else 0)) H := q
        rw [if_neg (fun z => e (decide_eq_true z))] at q2
        exact q2
    | _ => cases mk
/-! ### the machine of a run over names -/
/-- the class and what is known of it -/
structure Mcls (K : PySem.W.Frag) (C : Addr) : Prop where
  cls : Cls K C
  frame : NoAttr K C "frame"
  junk : NoAttr K C "junk"
  spent : NoAttr K C "spent"
  cells : NoAttr K C "cells"
structure Dm (K : PySem.W.Frag) (C : Addr) (m : Str) (qual : Str) (st : Stmt) (ps : List Str) (f : Addr) (fd : FuncData) : Prop where
  F : Fun K m qual st f fd
  b : Binds K fd ps []
  at_ : Meth K C m f
def fs1 (fr : Addr) : List (Str × V) := [("frame", .ref fr)]
def fs2 (fr jk : Addr) : List (Str × V) := [("frame", .ref fr), ("junk", .ref jk)]
def fs3 (fr jk : Addr) : List (Str × V) := [("frame", .ref fr), ("junk", .ref jk), ("spent", .int 0)]
def mfs (fr jk cl : Addr) : List (Str × V) := [("frame", .ref fr), ("junk", .ref jk), ("spent", .int 0), ("cells", .ref cl)]
theorem putNe {f g : Str} {v x : V} {r : List (Str × V)} (h : g ≠ f) : putF f v ((g, x) :: r) = (g, x) :: putF f v r := if_neg h
theorem put1 (fr : Addr) : putF "frame" (.ref fr) [] = fs1 fr := rfl
theorem put2 (fr jk : Addr) : putF "junk" (.ref jk) (fs1 fr) = fs2 fr jk := putNe (by decide +kernel)
theorem put3 (fr jk : Addr) : putF "spent" (.int 0) (fs2 fr jk) = fs3 fr jk := by
  rw [fs2, putNe (by decide +kernel), putNe (by decide +kernel)]
  rfl
theorem put4 (fr jk cl : Addr) : putF "cells" (.ref cl) (fs3 fr jk) = mfs fr jk cl := by
  rw [fs3, putNe (by decide +kernel), putNe (by decide +kernel), putNe (by decide +kernel)]
  rfl
def spUnknown (C : Addr) : Sp := fun vs H Q _ => ∃ (m dx jk : Addr) (fs : List (Str × V)), vs = [.ref m] ∧ H m = some (.ins C dx fs) ∧ fs.lookup ("junk" : Str) = some (.ref jk) ∧ H jk = some (.lst []) ∧ Q (.int 0) H
theorem scUnknown : FnScope ["self", "number"] ["self"] (defScope s_m_unknown) := ⟨rfl, rfl, rfl, by decide +kernel, rfl, by decide +kernel, by decide +kernel⟩
theorem ok_unknown {f C : Addr} {fd : FuncData} (D : Dm K C "unknown" "Machine.unknown" s_m_unknown ["self"] f fd) (M : Mcls K C) : FnOk P w K mg base CX0 1 f fd ["self"] (spUnknown C) := by
  refine D.F.ok scUnknown (fun vs H Q E h => ?_) (fun cdv A outer s H vs Q E hr h => ?_)
  · obtain ⟨m, dx, jk, fs, rfl, _⟩ := h
    rfl
  · obtain ⟨m, dx, jk, fs, rfl, hm, hj, hl, q⟩ := h
    refine ⟨_, pss_cons (ps_if (pt_not (pt_truth (pe_fld (pv 0) rfl) (fun _ => rfl))) (pss_one (ps_ret pe_int)) pss_nil) pss_never, ?_⟩
    refine ⟨_, rfl, m, C, dx, fs, _, rfl, hm, M.cls, M.junk, hj, false, .inl ⟨_, SqL.of hl, rfl⟩, iteT ?_⟩
    exact q
def spInit (C : Addr) : Sp := fun vs H Q _ => ∃ (m dx fr jk e : Addr) (names : Nat), vs = [.ref m, .ref fr, .ref jk] ∧ H m = some (.ins C dx []) ∧ H fr = some (.tup [.int names, .int 0, .ref e]) ∧ H jk = some (.lst []) ∧ names ≤ 8 ∧
  ∀ H' cl, H cl = none → H' m = some (.ins C dx (mfs fr jk cl)) → H' cl = some (.lst ((List.replicate names (0 : Int)).map V.int)) → Ext (fun x => x = m) H H' → Q .non H'
theorem scInit : FnScope ["self", "frame", "junk"] ["self", "frame", "junk"] (defScope s_m_init) := ⟨rfl, rfl, rfl, by decide +kernel, rfl, by decide +kernel, by decide +kernel⟩
theorem rep_snoc (n : Nat) : ((List.replicate n (0 : Int)).map V.int) ++ [.int 0] = (List.replicate (n + 1) (0 : Int)).map V.int := by
  rw [List.replicate_succ', List.map_append]
  rfl
theorem ok_init {f C fU : Addr} {fd fdU : FuncData} (F : Fun K "__init__" "Machine.__init__" s_m_init f fd) (DU : Dm K C "unknown" "Machine.unknown" s_m_unknown ["self"] fU fdU) (M : Mcls K C) (B : Bt mg) : FnOk P w K mg base CX0 2 f fd ["self", "frame", "junk"] (spInit C) := by
  have GU : FnOk P w K mg base CX0 1 fU fdU ["self"] (spUnknown C) := ok_unknown DU M
  refine F.ok scInit (fun vs H Q E h => ?_) (fun cdv A outer s H vs Q E hr h => ?_)
  · obtain ⟨m, dx, fr, jk, e, names, rfl, _⟩ := h
    rfl
  · obtain ⟨m, dx, fr, jk, e, names, rfl, hm, hfr, hjk, n8, q⟩ := h
    refine ⟨_, pss_cons (ps_fld (pv 0) (pv 1) rfl) (pss_cons (ps_fld (pv 0) (pv 2) rfl) (pss_cons (ps_fld (pv 0) pe_int rfl) (pss_cons (ps_fld (pv 0) (pe_lst pa_nil) rfl)
      (pss_one (ps_while PassesOwn.never (pt_cmpR op_lt (pe_callB call_len_seq (by rfl) B.len PySem.boot_len (pa_cons (pe_fld (pv 0) rfl) pa_nil)) (pe_op op_add (pe_ix ix_tup (pv 1) pe_int (fun _ _ => rfl)) (pe_ix ix_tup (pv 1) pe_int (fun _ _ => rfl))) (nomark _))
        (pss_one (ps_expr (pe_bm PySem.F.plainAttrs_list PySem.F.slot_list_append PySem.F.type_list_append mt_append (pe_fld (pv 0) rfl) (pa_cons (pe_meth0 (pv 0) M.cls DU.at_ GU hr DU.b .nil pass0) pa_nil))))))))), ?_⟩
    have f1 := put1 fr
    have f2 := put2 fr jk
    have f3 := put3 fr jk
    have f4 := put4 fr jk
    have step : ∀ {H1 : Hp} {fs : List (Str × V)} {o : HO}, H1 m = some (.ins C dx fs) → Ext (fun x => x = m) H1 (upd H1 m o) := fun {H1 fs o} h => Ext.put h rfl (fun _ z => by cases z) (fun _ z => by cases z)
    refine ⟨_, rfl, _, rfl, m, C, dx, _, rfl, hm, M.cls, M.frame, by decide, ?_⟩
    rw [f1]
    refine ⟨_, rfl, _, rfl, m, C, dx, _, rfl, upd_same, M.cls, M.junk, by show 1 < 1000; decide, ?_⟩
    rw [f2]
    refine ⟨_, rfl, m, C, dx, _, rfl, upd_same, M.cls, M.spent, by show 2 < 1000; decide, ?_⟩
    rw [f3]
    generalize h3 : upd (upd (upd H m (.ins C dx (fs1 fr))) m (.ins C dx (fs2 fr jk))) m (.ins C dx (fs3 fr jk)) = H3
    have x3 : Ext (fun x => x = m) H H3 := by rw [← h3]; exact ((step hm).trans (step upd_same)).trans (step upd_same)
    have hm3 : H3 m = some (.ins C dx (fs3 fr jk)) := by rw [← h3]; exact upd_same
    refine ⟨Nat.zero_le _, fun cl ncl => ?_⟩
    have ne : m ≠ cl := ne_of_none hm3 ncl
    refine ⟨_, rfl, m, C, dx, _, rfl, by rw [upd_ne ne]; exact hm3, M.cls, M.cells, by show 3 < 1000; decide, ?_⟩
    rw [f4]
    generalize h4 : upd (upd H3 cl (.lst [])) m (.ins C dx (mfs fr jk cl)) = H4
    have hm4 : H4 m = some (.ins C dx (mfs fr jk cl)) := by rw [← h4]; exact upd_same
    have hc4 : H4 cl = some (.lst []) := by rw [← h4, upd_ne ne.symm]; exact upd_same
    have hm3' : (upd H3 cl (.lst [])) m = some (.ins C dx (fs3 fr jk)) := by rw [upd_ne ne]; exact hm3
    have x4 : Ext (fun x => x = m) H H4 := by rw [← h4]; exact (x3.trans (Ext.new ncl)).trans (step hm3')
    have ncl0 : H cl = none := x3.dom cl ncl
    have l1 : (mfs fr jk cl).lookup ("cells" : Str) = some (.ref cl) := rfl
    have l2 : (mfs fr jk cl).lookup ("junk" : Str) = some (.ref jk) := rfl
    have l3 : (mfs fr jk cl).lookup ("unknown" : Str) = none := rfl
    let Wn : Nat → L2.St → Hp → Prop := fun k σ H2 => ∃ n : Nat, k = names - n ∧ n ≤ names ∧ σ = [some (.ref m), some (.ref fr), some (.ref jk)] ∧ H2 m = some (.ins C dx (mfs fr jk cl)) ∧ H2 cl = some (.lst ((List.replicate n (0 : Int)).map V.int)) ∧ Ext (fun x => x = m) H H2
    refine ⟨Wn, ⟨names, 0, rfl, Nat.zero_le _, rfl, hm4, hc4, x4⟩, ?_⟩
    rintro k σ H5 ⟨n, rfl, hn, rfl, hm5, hc5, x5⟩
    have hfr5 := x5.tup _ _ hfr
    have hjk5 := x5.lst (fun z => by rw [z, hm] at hjk; cases hjk) hjk
    have len5 : ((List.replicate n (0 : Int)).map V.int).length = n := by rw [List.length_map, List.length_replicate]
    refine ⟨_, rfl, m, C, dx, _, _, rfl, hm5, M.cls, M.cells, l1, cl, _, rfl, .inl (SqL.of hc5), ?_⟩
    refine ⟨_, rfl, fr, _, 0, _, rfl, rfl, SqT.of hfr5, atI_nat (j := 0) rfl, _, rfl, fr, _, 1, _, rfl, rfl, SqT.of hfr5, atI_nat (j := 1) rfl, _, _, rfl, rfl, _, _, rfl, rfl, _, rfl, ite2 (fun e1 => ?_) (fun e1 => ?_)⟩
    · have lt : n < names := by
        have z := of_decide_eq_true e1
        rw [len5] at z
        omega
      refine ⟨fun σ' H' => Wn (names - (n + 1)) σ' H', fun σ' H' z => ⟨_, by omega, z⟩, ?_⟩
      refine ⟨_, rfl, m, C, dx, _, _, rfl, hm5, M.cls, M.cells, l1, .inl ⟨rfl, _, SqL.of hc5⟩, ?_⟩
      refine ⟨_, rfl, m, dx, _, rfl, hm5, l3, ?_⟩
      refine ⟨m, dx, jk, _, rfl, hm5, l2, hjk5, cl, _, _, rfl, rfl, hc5, by rw [len5]; exact small_lt (k := 8) (by omega) (by decide), ?_⟩
      refine ⟨n + 1, rfl, lt, rfl, by rw [upd_ne ne]; exact hm5, by rw [upd_same, rep_snoc], x5.own ncl0⟩
    · have en : n = names := by
        have z : ¬ (((List.replicate n (0 : Int)).map V.int).length : Int) < (names : Int) + 0 := fun z => e1 (decide_eq_true z)
        rw [len5] at z
        omega
      subst en
      exact q _ cl ncl0 hm5 hc5 x5
end
end Bw
namespace Bw
open PySem PySem.Spec PyProof.Rows L2 GxR Gx RZ
theorem names_ok {names many : Nat} {row : Row} (ok : RowOk names many row) : ∀ n ∈ namesOf row, n < names := by
  cases row with
  | put n v => intro k hk; rw [List.mem_singleton.mp hk]; exact ok.1
  | copy n o => intro k hk; simp [namesOf] at hk; rcases hk with rfl | rfl; exact ok.1; exact ok.2
  | add n a b => intro k hk; simp [namesOf] at hk; rcases hk with rfl | rfl | rfl; exact ok.1; exact ok.2.1; exact ok.2.2
  | take n a b => intro k hk; simp [namesOf] at hk; rcases hk with rfl | rfl | rfl; exact ok.1; exact ok.2.1; exact ok.2.2
  | less n a b => intro k hk; simp [namesOf] at hk; rcases hk with rfl | rfl | rfl; exact ok.1; exact ok.2.1; exact ok.2.2
  | call n o => intro k hk; simp [namesOf] at hk; rcases hk with rfl | rfl; exact ok.1; exact ok.2
  | say n => intro k hk; rw [List.mem_singleton.mp hk]; exact ok
  | iff n r => intro k hk; rw [List.mem_singleton.mp hk]; exact ok.1
  | go r => intro k hk; simp [namesOf] at hk
  | fin => intro k hk; simp [namesOf] at hk
theorem handed_ok {names many : Nat} {row : Row} (ok : RowOk names many row) : ∀ n ∈ handedOf row, n < names := fun n hn => by
  unfold handedOf at hn
  split at hn
  · exact names_ok ok n (List.mem_of_mem_drop hn)
  · exact names_ok ok n hn
theorem handed_few (row : Row) : (handedOf row).length ≤ 3 := by
  cases row <;> simp [handedOf, namesOf, isMaker]
section
variable {base : Heap} {K : PySem.W.Frag} {mg : Str → Option Value} {P : Program} {w : World}
/-- the machine at m, its cells at cl -/
structure MachAt (C : Addr) (H : Hp) (m cl : Addr) (names : Nat) : Prop where
  ex : ∃ dx fr jk e : Addr, H m = some (.ins C dx (mfs fr jk cl)) ∧ H fr = some (.tup [.int names, .int 0, .ref e]) ∧ H e = some (.tup [])
theorem MachAt.ext {C m cl : Addr} {H H' : Hp} {names : Nat} {b : Addr → Prop} (h : MachAt C H m cl names) (x : Ext b H H') (n : ¬ b m) : MachAt C H' m cl names := by
  obtain ⟨dx, fr, jk, e, h1, h2, h3⟩ := h.ex
  exact ⟨dx, fr, jk, e, x.oth m _ n (fun _ z => by cases z) h1, x.tup _ _ h2, x.tup _ _ h3⟩
structure GroupAt (H : Hp) (g : Addr) (row : Row) : Prop where
  ex : ∃ e1 b e2 : Addr, H g = some (.tup [.ref e1, .ref b, .ref e2]) ∧ H e1 = some (.tup []) ∧ H b = some (.tup (natsV (namesOf row))) ∧ H e2 = some (.tup [])
theorem GroupAt.ext {H H' : Hp} {g : Addr} {row : Row} {b : Addr → Prop} (h : GroupAt H g row) (x : Ext b H H') : GroupAt H' g row := by
  obtain ⟨e1, bx, e2, h1, h2, h3, h4⟩ := h.ex
  exact ⟨e1, bx, e2, x.tup _ _ h1, x.tup _ _ h2, x.tup _ _ h3, x.tup _ _ h4⟩
def spEat (C : Addr) : Sp := fun vs H Q _ => ∃ (m cl : Addr) (names : Nat), vs = [.ref m] ∧ MachAt C H m cl names ∧ Q .non H
theorem scEat : FnScope ["self", "box"] ["self"] (defScope s_m_eat) := ⟨rfl, rfl, rfl, by decide +kernel, rfl, by decide +kernel, by decide +kernel⟩
theorem ok_eat {f C : Addr} {fd : FuncData} (D : Dm K C "eat" "Machine.eat" s_m_eat ["self"] f fd) (M : Mcls K C) : FnOk P w K mg base CX0 1 f fd ["self"] (spEat C) := by
  refine D.F.ok scEat (fun vs H Q E h => ?_) (fun cdv A outer s H vs Q E hr h => ?_)
  · obtain ⟨m, cl, names, rfl, _⟩ := h
    rfl
  · obtain ⟨m, cl, names, rfl, hm, q⟩ := h
    obtain ⟨dx, fr, jk, e, hm, hfr, he⟩ := hm.ex
    refine ⟨_, pss_one (ps_for PassesOwn.never rfl (pi_tup (pe_ix ix_tup (pe_fld (pv 0) rfl) pe_int (fun _ _ => rfl))) (pg_name (i := 1) scEat.nd rfl (.inl rfl)) pss_never), ?_⟩
    refine ⟨_, rfl, m, C, dx, _, _, rfl, hm, M.cls, M.frame, rfl, fr, _, 2, _, rfl, rfl, SqT.of hfr, atI_nat (j := 2) rfl, e, rfl, ⟨_, SqT.of he⟩, ?_⟩
    refine for_tup (xs := []) (fun i σ H2 => H2 = H) rfl (fun i σ H2 _ z => by rw [z]; exact SqT.of he) (fun i x σ H2 z => by simp at z) fun σ H2 z => ?_
    rw [z]
    exact q
def spDoRow (C : Addr) : Sp := fun vs H Q _ => ∃ (m r g cl : Addr) (row : Row) (names many : Nat) (c : List Int), vs = [.ref m, .ref r, .ref g] ∧ H r = some (.tup (rowV row)) ∧ GroupAt H g row ∧ MachAt C H m cl names ∧ H cl = some (.lst (c.map V.int)) ∧ c.length = names ∧ RowOk names many row ∧ Nums c ∧
  ∀ H' nl, H nl = none → H' nl = some (.lst ((numsOf row c).map V.int)) → H' cl = some (.lst ((doRow row c).map V.int)) → Ext (fun x => x = cl) H H' → Q (.ref nl) H'
abbrev nDoRow : List Str := ["self", "row", "group", "ahead", "boxes", "behind", "numbers", "box"]
theorem scDoRow : FnScope nDoRow ["self", "row", "group"] (defScope s_m_do_row) := ⟨rfl, rfl, rfl, by decide +kernel, rfl, by decide +kernel, by decide +kernel⟩
theorem ok_doRow {f C fE fM fH fK mk : Addr} {fd fdE fdM fdH fdK : FuncData} (D : Dm K C "do_row" "Machine.do_row" s_m_do_row ["self", "row", "group"] f fd) (DE : Dm K C "eat" "Machine.eat" s_m_eat ["self"] fE fdE) (DM : Df K mg "do_moves" s_do_moves ["frame", "moves", "cells"] fM fdM)
    (DH : Df K mg "handed" s_handed ["row", "ones"] fH fdH) (DK : Df K mg "made_of" s_made_of ["row", "numbers"] fK fdK) (M : Mcls K C) (MK : Makers K mg mk) (G : Gk mg) : FnOk P w K mg base CX0 2 f fd ["self", "row", "group"] (spDoRow C) := by
  have GE : FnOk P w K mg base CX0 1 fE fdE ["self"] (spEat C) := ok_eat DE M
  have GM : FnOk P w K mg base CX0 1 fM fdM ["frame", "moves", "cells"] (spMoves K) := ok_moves DM
  have GH : FnOk P w K mg base CX0 1 fH fdH ["row", "ones"] spHanded := ok_handed DH MK
  have GK : FnOk P w K mg base CX0 1 fK fdK ["row", "numbers"] spMade := ok_made DK G
  refine D.F.ok scDoRow (fun vs H Q E h => ?_) (fun cdv A outer s H vs Q E hr h => ?_)
  · obtain ⟨m, r, g, cl, row, names, many, c, rfl, _⟩ := h
    rfl
  · obtain ⟨m, r, g, cl, row, names, many, c, rfl, hrow, hg, hm, hcl, clen, ok, hc, q⟩ := h
    refine ⟨_, pss_cons (ps_asg (pv 2) (pg_tup rfl (pgs_cons (pg_name (i := 3) scDoRow.nd rfl (.inl rfl)) (pgs_cons (pg_name (i := 4) scDoRow.nd rfl (.inl rfl)) (pgs_cons (pg_name (i := 5) scDoRow.nd rfl (.inl rfl)) pgs_nil)))))
      (pss_cons (ps_expr (pcall DM GM hr (pa_cons (pe_fld (pv 0) rfl) (pa_cons (pv 3) (pa_cons (pe_fld (pv 0) rfl) pa_nil)))))
      (pss_cons (ps_setLc (i := 6) (own := [("box", 7)]) (g := gName 7) (tt := tYes) (te := tOp (rIxL K) (tFld K (tVar 0) "cells") (tVar 7)) rfl scDoRow.nd rfl rfl (sw_true rfl rfl rfl (by decide +kernel)) (pi_tup (pcall DH GH hr (pa_cons (pv 1) (pa_cons (pv 4) pa_nil)))) (blkOk_by (N := nDoRow) (sc := defScope s_m_do_row) (by decide +kernel))
          (fun _ _ _ _ _ => pg_name (i := 7) scDoRow.nd rfl (Or.inl rfl)) (fun _ _ _ _ _ => pts_nil) (fun _ _ _ _ _ => pe_ix ix_list (pe_fld (pv 0) rfl) (pv 7) (fun _ _ => rfl)))
      (pss_cons (ps_if (pt_cmpR op_eq (pe_ix ix_tup (pv 1) pe_int (fun _ _ => rfl)) pe_str (nomark _)) (pss_one (ps_expr (pe_meth0 (pv 0) M.cls DE.at_ GE hr DE.b .nil pass0))) pss_nil)
      (pss_cons (ps_if (pt_cmpR op_in_seq (pe_ix ix_tup (pv 1) pe_int (fun _ _ => rfl)) (pe_glob (v := .ref mk) (by rfl) MK.g rfl) (by rfl)) (pss_one (ps_asg (pcall DK GK hr (pa_cons (pv 1) (pa_cons (pv 6) pa_nil))) (pg_sub (pe_fld (pv 0) rfl) (pe_ix ix_tup (pv 4) pe_int (fun _ _ => rfl)) set_list))) pss_nil)
      (pss_cons (ps_expr (pcall DM GM hr (pa_cons (pe_fld (pv 0) rfl) (pa_cons (pv 5) (pa_cons (pe_fld (pv 0) rfl) pa_nil)))))
      (pss_one (ps_ret (pv 6)))))))), ?_⟩
    obtain ⟨e1, bo, e2, hg1, he1, hbo, he2⟩ := hg.ex
    obtain ⟨dx, fr, jk, e, hm1, hfr, he⟩ := hm.ex
    -- ahead, boxes, behind = group
    refine ⟨_, rfl, g, _, rfl, SqT.of hg1, rfl, _, _, rfl, _, _, rfl, _, _, rfl, rfl, ?_⟩
    -- do_moves(self.frame, ahead, self.cells)
    refine ⟨_, rfl, m, C, dx, _, _, rfl, hm1, M.cls, M.frame, rfl, _, rfl, _, rfl, m, C, dx, _, _, rfl, hm1, M.cls, M.cells, rfl, ?_⟩
    refine ⟨_, _, e1, rfl, SqT.of he1, ?_⟩
    -- numbers
    refine ⟨_, rfl, _, rfl, r, bo, row, rfl, hrow, hbo, fun H1 t ht x1 => ?_⟩
    refine ⟨t, rfl, ⟨_, SqT.of ht⟩, fun nl nnl => ?_⟩
    have nl0 : H nl = none := x1.dom nl nnl
    refine lc_tup (K := K) (a := t) (xs := natsV (handedOf row)) (fun j H2 => H2 nl = some (.lst ((((handedOf row).take j).map (at0 c)).map V.int)) ∧ Ext no H1 H2)
      ⟨upd_same, Ext.new nnl⟩ (fun j H2 _ z => SqT.of (z.2.tup _ _ ht)) ?_ ?_
    · rintro j x H2 hx ⟨hnl, x2⟩
      have hx' := hx
      rw [List.getElem?_map] at hx
      obtain ⟨k, hk, rfl⟩ : ∃ k, (handedOf row)[j]? = some k ∧ x = V.int (k : Int) := by
        cases e : (handedOf row)[j]? with
        | none => rw [e] at hx; cases hx
        | some k => rw [e] at hx; exact ⟨k, rfl, (Option.some.inj hx).symm⟩
      have kn : k < c.length := by rw [clen]; exact handed_ok ok k (List.mem_of_getElem? hk)
      have few : ((((handedOf row).take j).map (at0 c)).map V.int).length ≤ 3 := by
        rw [List.length_map, List.length_map, List.length_take]
        have := handed_few row
        omega
      refine ⟨rfl, ?_⟩
      have x02 := x1.trans x2
      refine ⟨_, rfl, m, C, dx, _, _, rfl, x02.oth m _ (fun z => z) (fun _ z => by cases z) hm1, M.cls, M.cells, rfl, _, rfl, cl, _, k, _, rfl, rfl, SqL.of (x02.lst (fun z => z) hcl), atI_nat (at_get kn), _, hnl, small_lt few (by decide), ?_, x2.own nnl⟩
      rw [upd_same, List.take_add_one, hk, List.map_append, List.map_append]
      rfl
    rintro H2 ⟨hnl, x2⟩
    rw [show (natsV (handedOf row)).length = (handedOf row).length from List.length_map .., List.take_of_length_le (Nat.le_refl _)] at hnl
    have x02 := x1.trans x2
    have hm2 := x02.oth m _ (fun z => z) (fun _ z => by cases z) hm1
    have hcl2 := x02.lst (fun z => z) hcl
    have hrow2 := x02.tup _ _ hrow
    have hT := SqT.of (K := K) hrow2
    have hbo2 := x02.tup _ _ hbo
    have hnl2 : H2 nl = some (.lst ((numsOf row c).map V.int)) := hnl
    have mach2 : MachAt C H2 m cl names := ⟨dx, fr, jk, e, hm2, x02.tup _ _ hfr, x02.tup _ _ he⟩
    -- if row[0] == "call"
    refine ⟨_, rfl, r, _, 0, _, rfl, rfl, hT, first_word (K := K), rfl, _, rfl, ite2 (fun e5 => ⟨_, rfl, m, dx, _, rfl, hm2, rfl, m, cl, names, rfl, mach2, ?_⟩) (fun e5 => ?_)⟩
    all_goals
      refine ⟨_, rfl, r, _, 0, _, rfl, rfl, hT, first_word (K := K), mk, _, rfl, .inr (MK.tup H2), rfl, by decide +kernel, _, rfl, ?_⟩
      show if inV (.str (wordOf row)) makersV = true then _ else _
      rw [in_makers]
      by_cases mkr : isMaker row = true
      · rw [mkr]
        obtain ⟨n, rest, hn, hdo⟩ := made_row mkr c
        have nn : n < names := names_ok ok n (by rw [hn]; exact List.mem_cons_self ..)
        have hbo3 : H2 bo = some (.tup (natsV (n :: rest))) := by rw [← hn]; exact hbo2
        refine iteT ⟨_, rfl, _, rfl, r, nl, row, c, rfl, hrow2, mkr, hnl2, hc, ?_⟩
        refine ⟨_, rfl, m, C, dx, _, _, rfl, hm2, M.cls, M.cells, rfl, _, rfl, bo, _, 0, _, rfl, rfl, SqT.of hbo3, atI_nat (j := 0) rfl, ?_⟩
        refine ⟨cl, _, n, n, rfl, rfl, hcl2, ixN_nat (by rw [List.length_map, clen]; exact nn), ?_⟩
        have x3 : Ext (fun x => x = cl) H2 (upd H2 cl (.lst ((c.map V.int).set n (.int (madeOf row c))))) := Ext.put hcl2 rfl (fun _ z => by cases z) (fun _ z => by cases z)
        have hcl3 : (upd H2 cl (.lst ((c.map V.int).set n (.int (madeOf row c))))) cl = some (.lst ((doRow row c).map V.int)) := by rw [upd_same, hdo, List.map_set]
        have hm3 := x3.oth m _ (fun z : m = cl => by rw [z, hcl2] at hm2; cases hm2) (fun _ z => by cases z) hm2
        have hnl3 := x3.lst (fun z : nl = cl => by rw [z, hcl] at nl0; cases nl0) hnl2
        generalize upd H2 cl (.lst ((c.map V.int).set n (.int (madeOf row c)))) = H3 at x3 hcl3 hm3 hnl3
        refine ⟨_, rfl, m, C, dx, _, _, rfl, hm3, M.cls, M.frame, rfl, _, rfl, _, rfl, m, C, dx, _, _, rfl, hm3, M.cls, M.cells, rfl, _, _, e2, rfl, SqT.of (x3.tup _ _ (x02.tup _ _ he2)), ?_⟩
        exact ⟨_, rfl, q _ nl nl0 hnl3 hcl3 (x02.of0.trans x3)⟩
      · rw [Bool.not_eq_true] at mkr
        rw [mkr]
        refine iteF ⟨_, rfl, m, C, dx, _, _, rfl, hm2, M.cls, M.frame, rfl, _, rfl, _, rfl, m, C, dx, _, _, rfl, hm2, M.cls, M.cells, rfl, _, _, e2, rfl, SqT.of (x02.tup _ _ he2), ?_⟩
        exact ⟨_, rfl, q _ nl nl0 hnl2 (by rw [kept_row mkr]; exact hcl2) x02.of0⟩
end
end Bw
namespace Bw
open PySem PySem.Spec PyProof.Rows L2 GxR Gx RZ
theorem behind_next (row : Row) (c : List Int) (i : Nat) : behind row i (!PyData.eqv (.list ((numsOf row c).map PyData.int)) (.list [.int 0])) = nextAt row c i := by
  cases row with
  | iff n r =>
    have e : PyData.eqv (.list ((numsOf (.iff n r) c).map PyData.int)) (.list [.int 0]) = (at0 c n == 0) := by
      show ((at0 c n == 0) && true) = _
      exact Bool.and_true _
    rw [e]
    show (if (!(at0 c n == 0)) = true then r else i + 1) = if at0 c n = 0 then i + 1 else r
    by_cases z : at0 c n = 0
    · rw [z]; rfl
    · rw [if_neg z, show (at0 c n == 0) = false from beq_eq_false_iff_ne.mpr z]; rfl
  | _ => rfl
theorem says (row : Row) (c said : List Int) : (∃ n, row = .say n) ∨ (decide (V.str (wordOf row) = V.str "say") = false ∧ saidOf row c said = said) := by
  cases row with
  | say n => exact .inl ⟨n, rfl⟩
  | put => exact .inr ⟨(by decide +kernel : decide (V.str "put" = V.str "say") = false), rfl⟩
  | copy => exact .inr ⟨(by decide +kernel : decide (V.str "copy" = V.str "say") = false), rfl⟩
  | add => exact .inr ⟨(by decide +kernel : decide (V.str "add" = V.str "say") = false), rfl⟩
  | take => exact .inr ⟨(by decide +kernel : decide (V.str "take" = V.str "say") = false), rfl⟩
  | less => exact .inr ⟨(by decide +kernel : decide (V.str "less" = V.str "say") = false), rfl⟩
  | call => exact .inr ⟨(by decide +kernel : decide (V.str "call" = V.str "say") = false), rfl⟩
  | iff => exact .inr ⟨(by decide +kernel : decide (V.str "if" = V.str "say") = false), rfl⟩
  | go => exact .inr ⟨(by decide +kernel : decide (V.str "go" = V.str "say") = false), rfl⟩
  | fin => exact .inr ⟨(by decide +kernel : decide (V.str "end" = V.str "say") = false), rfl⟩
/-- what is new is hidden from who did not know it -/
theorem Ext.hid {H H1 H2 : Hp} {p : Addr} (a : Ext no H H1) (n : H p = none) (b : Ext (fun x => x = p) H1 H2) : Ext no H H2 :=
  ⟨fun x xs h => b.tup _ _ (a.tup _ _ h), fun x o m t h => b.oth x o (fun z : x = p => by rw [z, n] at h; cases h) t (a.oth x o m t h), fun T t => b.tab T (a.tab T t), fun x h => a.dom x (b.dom x h)⟩
section
variable {base : Heap} {K : PySem.W.Frag} {mg : Str → Option Value} {P : Program} {w : World}
structure GroupsAt (H : Hp) (gs : List Addr) (rows : List Row) : Prop where
  len : gs.length = rows.length
  at_ : ∀ (i : Nat) (g : Addr) (row : Row), gs[i]? = some g → rows[i]? = some row → GroupAt H g row
theorem GroupsAt.ext {m : Addr → Prop} {H H' : Hp} {gs : List Addr} {rows : List Row} (h : GroupsAt H gs rows) (e : Ext m H H') : GroupsAt H' gs rows := ⟨h.len, fun i g row h1 h2 => (h.at_ i g row h1 h2).ext e⟩
def spTold (C : Addr) : Sp := fun vs H Q _ => ∃ (rs gl m cl : Addr) (as gs : List Addr) (rows : List Row) (names fuel : Nat) (c0 : List Int), vs = [.ref rs, .ref gl, .int fuel, .ref m] ∧ H rs = some (.tup (as.map V.ref)) ∧ RowsAt H as rows ∧ (∀ row ∈ rows, RowOk names rows.length row) ∧
  H gl = some (.lst (gs.map V.ref)) ∧ GroupsAt H gs rows ∧ MachAt C H m cl names ∧ H cl = some (.lst (c0.map V.int)) ∧ c0.length = names ∧ Nums c0 ∧ fuel ≤ 1000 ∧ gl ≠ cl ∧
  ∀ H' t sd, H sd = none → ToldAt H' t sd (goM rows fuel c0 0 [] 0) → Ext (fun x => x = cl) H H' → Q (.ref t) H'
abbrev nTold : List Str := ["rows", "groups", "fuel", "machine", "said", "at", "done", "numbers"]
theorem scTold : FnScope nTold ["rows", "groups", "fuel", "machine"] (defScope s_told_of) := ⟨rfl, rfl, rfl, by decide +kernel, rfl, by decide +kernel, by decide +kernel⟩
theorem ok_told {f C fA fX fD fE fM fH fK mk : Addr} {fd fdA fdX fdD fdE fdM fdH fdK : FuncData} (D : Df K mg "told_of" s_told_of ["rows", "groups", "fuel", "machine"] f fd) (DA : Df K mg "at_end" s_at_end ["rows", "at"] fA fdA) (DX : Df K mg "next_row" s_next_row ["row", "at", "jumps"] fX fdX)
    (DD : Dm K C "do_row" "Machine.do_row" s_m_do_row ["self", "row", "group"] fD fdD) (DE : Dm K C "eat" "Machine.eat" s_m_eat ["self"] fE fdE) (DM : Df K mg "do_moves" s_do_moves ["frame", "moves", "cells"] fM fdM)
    (DH : Df K mg "handed" s_handed ["row", "ones"] fH fdH) (DK : Df K mg "made_of" s_made_of ["row", "numbers"] fK fdK) (M : Mcls K C) (MK : Makers K mg mk) (B : Bt mg) (G : Gk mg) : FnOk P w K mg base CX0 3 f fd ["rows", "groups", "fuel", "machine"] (spTold C) := by
  have GA : FnOk P w K mg base CX0 1 fA fdA ["rows", "at"] spAtEnd := ok_atEnd DA B
  have GX : FnOk P w K mg base CX0 1 fX fdX ["row", "at", "jumps"] spNext := ok_next DX
  have GD : FnOk P w K mg base CX0 2 fD fdD ["self", "row", "group"] (spDoRow C) := ok_doRow DD DE DM DH DK M MK G
  refine D.F.ok scTold (fun vs H Q E h => ?_) (fun cdv A outer s H vs Q E hr h => ?_)
  · obtain ⟨rs, gl, m, cl, as, gs, rows, names, fuel, c0, rfl, _⟩ := h
    rfl
  · obtain ⟨rs, gl, m, cl, as, gs, rows, names, fuel, c0, rfl, hrs, hrows, oks, hgl, hgs, hm, hcl, clen, hnum, hf, gcl, q⟩ := h
    have hr1 := hr.mono (show 1 ≤ 2 by decide)
    have hu := hr.units
    refine ⟨_, pss_cons (ps_set (i := 4) scTold.nd rfl (.inl rfl) (pe_lst pa_nil))
      (pss_cons (ps_asg2 pe_int (pg_name (i := 5) scTold.nd rfl (.inl rfl)) (pg_name (i := 6) scTold.nd rfl (.inl rfl)))
      (pss_cons (ps_while PassesOwn.never (pt_not (pt_val (pcall DA GA hr1 (pa_cons (pv 0) (pa_cons (pv 5) pa_nil)))))
        (pss_cons (ps_if (pt_cmpR op_eq (pv 6) (pv 2) (nomark _)) (pss_one (ps_ret (pe_tup (pa_cons (pv 4) (pa_cons (pe_tup (pa_cons pe_str pa_nil)) (pa_cons (pv 6) pa_nil)))))) pss_nil)
        (pss_cons (ps_set (i := 7) scTold.nd rfl (.inl rfl) (pe_meth (pv 3) M.cls DD.at_ GD hr DD.b .nil pass0 (pa_cons (pe_ix ix_tup (pv 0) (pv 5) (fun _ _ => rfl)) (pa_cons (pe_ix ix_list (pv 1) (pv 5) (fun _ _ => rfl)) pa_nil))))
        (pss_cons (ps_if (pt_cmpR op_eq (pe_ix ix_tup (pe_ix ix_tup (pv 0) (pv 5) (fun _ _ => rfl)) pe_int (fun _ _ => rfl)) pe_str (nomark _)) (pss_one (ps_expr (pe_bm PySem.F.plainAttrs_list PySem.F.slot_list_append PySem.F.type_list_append mt_append (pv 4) (pa_cons (pe_ix ix_list (pv 7) pe_int (fun _ _ => rfl)) pa_nil)))) pss_nil)
        (pss_cons (ps_set (i := 5) scTold.nd rfl (.inl rfl) (pcall DX GX hr1 (pa_cons (pe_ix ix_tup (pv 0) (pv 5) (fun _ _ => rfl)) (pa_cons (pv 5) (pa_cons (pe_cmpR (op_neD hu) (pv 7) (pe_lst (pa_cons pe_int pa_nil)) (nomark _)) pa_nil)))))
        (pss_one (ps_aug (i := 6) scTold.nd rfl (.inl rfl) pe_int ip_add)))))))
      (pss_one (ps_ret (pe_tup (pa_cons (pv 4) (pa_cons (pe_tup (pa_cons pe_str pa_nil)) (pa_cons (pv 6) pa_nil)))))))), ?_⟩
    refine ⟨Nat.zero_le _, fun sd nsd => ?_⟩
    have x0 : Ext (fun x => x = cl) H (upd H sd (.lst [])) := Ext.new nsd
    have ncs : cl ≠ sd := ne_of_none hcl nsd
    have nms : ¬ m = cl := fun z => by
      obtain ⟨dx, fr, jk, e, h1, _⟩ := hm.ex
      rw [z, hcl] at h1
      cases h1
    let Wn : Nat → L2.St → Hp → Prop := fun k σ H2 => ∃ (c : List Int) (i : Nat) (said : List Int) (done : Nat) (v7 : Option V), σ = [some (.ref rs), some (.ref gl), some (.int fuel), some (.ref m), some (.ref sd), some (.int i), some (.int done), v7] ∧ k = fuel - done ∧ done ≤ fuel ∧ c.length = names ∧ Nums c ∧ i ≤ rows.length ∧
      H2 cl = some (.lst (c.map V.int)) ∧ H2 sd = some (.lst (said.map V.int)) ∧ said.length ≤ done ∧ Ext (fun x => x = cl) H H2 ∧ goM rows (fuel - done) c i said done = goM rows fuel c0 0 [] 0
    refine ⟨Wn, ⟨fuel, c0, 0, [], 0, none, rfl, rfl, Nat.zero_le _, clen, hnum, Nat.zero_le _, by rw [upd_ne ncs]; exact hcl, upd_same, Nat.le_refl _, x0, rfl⟩, ?_⟩
    rintro k σ H2 ⟨c, i, said, done, v7, rfl, rfl, hdf, cl2, hc, hi, hcl2, hsd2, hsl, x2, hgo⟩
    have hrs2 := x2.tup _ _ hrs
    have hrows2 := hrows.ext x2
    have theEnd : ∀ b : Bool, goM rows (fuel - done) c i said done = (said, b, done) → ∀ e, H2 e = none → ∀ t, (upd H2 e (.tup [.str (if b = true then "end" else "long")])) t = none →
        Q (.ref t) (upd (upd H2 e (.tup [.str (if b = true then "end" else "long")])) t (.tup [.ref sd, .ref e, .int done])) := fun b hb e ne t nt => by
      have ys : Ext no H2 (upd (upd H2 e (.tup [.str (if b = true then "end" else "long")])) t (.tup [.ref sd, .ref e, .int done])) := (Ext.new ne).trans (Ext.new nt)
      refine q _ t sd nsd ?_ (x2.trans ys.of0)
      rw [← hgo, hb]
      exact ⟨e, upd_same, ys.lst (fun z => z) hsd2, (Ext.new (m := no) nt).tup _ _ upd_same⟩
    refine ⟨_, rfl, _, rfl, rs, as, rows, i, rfl, hrs2, hrows2, hi, _, rfl, ?_⟩
    by_cases ae : atEnd rows i = true
    · rw [ae]
      exact iteF ⟨_, rfl, by show 1 ≤ sizeLine; decide, fun e' ne' => ⟨_, rfl, by show 3 ≤ sizeLine; decide, fun t nt => theEnd true (goM_end ae) e' ne' t nt⟩⟩
    rw [Bool.not_eq_true] at ae
    rw [ae]
    obtain ⟨row, hrow, nfin⟩ := atEnd_of ae
    have ilt : i < rows.length := (List.getElem?_eq_some_iff.mp hrow).1
    refine iteT ⟨fun σ' H' => done < fuel ∧ Wn (fuel - (done + 1)) σ' H', fun σ' H' ⟨lt, h⟩ => ⟨_, by omega, h⟩, ?_⟩
    refine ⟨_, rfl, _, rfl, rfl, _, rfl, ite2 (fun e2 => ?_) (fun e2 => ?_)⟩
    · have ef : (done : Int) = (fuel : Int) := V.int.inj (of_decide_eq_true e2)
      have e0 : fuel - done = 0 := by omega
      exact ⟨_, rfl, by show 1 ≤ sizeLine; decide, fun e' ne' => ⟨_, rfl, by show 3 ≤ sizeLine; decide, fun t nt => theEnd false (by rw [e0]; exact goM_out ae) e' ne' t nt⟩⟩
    have lt : done < fuel := by
      have : ¬ (done : Int) = (fuel : Int) := fun z => e2 (decide_eq_true (by rw [z]))
      omega
    obtain ⟨r, her⟩ : ∃ r, as[i]? = some r := ⟨_, List.getElem?_eq_getElem (by rw [hrows.len]; exact ilt)⟩
    obtain ⟨g, heg⟩ : ∃ g, gs[i]? = some g := ⟨_, List.getElem?_eq_getElem (by rw [hgs.len]; exact ilt)⟩
    have har : (as.map V.ref)[i]? = some (.ref r) := by rw [List.getElem?_map, her]; rfl
    have hag : (gs.map V.ref)[i]? = some (.ref g) := by rw [List.getElem?_map, heg]; rfl
    have rok : RowOk names rows.length row := oks row (List.mem_of_getElem? hrow)
    have hm2 : MachAt C H2 m cl names := hm.ext x2 nms
    have hgl2 := x2.lst gcl hgl
    -- numbers = machine.do_row(rows[at], groups[at])
    obtain ⟨dx, fr, jk, e, hm1, hfr, he⟩ := hm2.ex
    refine ⟨_, rfl, m, dx, _, rfl, hm1, rfl, _, rfl, _, rfl, rs, _, i, _, rfl, rfl, SqT.of hrs2, atI_nat har, _, rfl, _, rfl, gl, _, i, _, rfl, rfl, SqL.of hgl2, atI_nat hag, ?_⟩
    refine ⟨m, r, g, cl, row, names, rows.length, c, rfl, hrows2.at_ i r row her hrow, (hgs.ext x2).at_ i g row heg hrow, hm2, hcl2, cl2, rok, hc, fun H3 nl nnl hnl3 hcl3 x3 => ?_⟩
    have x03 := x2.trans x3
    have hrs3 := x03.tup _ _ hrs
    have hr3 := (hrows.ext x03).at_ i r row her hrow
    have hT := SqT.of (K := K) hr3
    have hsd3 := x3.lst (fun z : sd = cl => ncs z.symm) hsd2
    refine ⟨_, rfl, _, rfl, rs, _, i, _, rfl, rfl, SqT.of hrs3, atI_nat har, r, _, 0, _, rfl, rfl, hT, first_word (K := K), rfl, _, rfl, ?_⟩
    have dec : (∃ n, row = .say n) ∨ (decide (V.str (wordOf row) = V.str "say") = false ∧ saidOf row c said = said) := says row c said
    rcases dec with ⟨n, rfl⟩ | ⟨ns, es0⟩
    · refine yS ⟨_, rfl, .inl ⟨rfl, _, SqL.of hsd3⟩, _, rfl, nl, _, 0, _, rfl, rfl, SqL.of hnl3, atI_nat (j := 0) rfl, sd, _, _, rfl, rfl, hsd3, by rw [List.length_map]; exact small_lt (k := 1000) (by omega) (by decide), ?_⟩
      have nls : nl ≠ sd := fun z => by rw [z, hsd2] at nnl; cases nnl
      have es : said ++ [at0 c n] = saidOf (.say n) c said := rfl
      have z1 : (upd H3 sd (.lst (said.map V.int ++ [.int (at0 c n)]))) sd = some (.lst ((said ++ [at0 c n]).map V.int)) := by rw [upd_same, List.map_append]; rfl
      have z2 : (upd H3 sd (.lst (said.map V.int ++ [.int (at0 c n)]))) cl = some (.lst ((doRow (.say n) c).map V.int)) := by rw [upd_ne ncs]; exact hcl3
      have z3 : (upd H3 sd (.lst (said.map V.int ++ [.int (at0 c n)]))) nl = some (.lst ((numsOf (.say n) c).map V.int)) := by rw [upd_ne nls]; exact hnl3
      have x4 : Ext (fun x => x = cl) H (upd H3 sd (.lst (said.map V.int ++ [.int (at0 c n)]))) := x03.own nsd
      have sl4 : (said ++ [at0 c n]).length ≤ done + 1 := by rw [List.length_append]; show said.length + 1 ≤ done + 1; omega
      generalize upd H3 sd (.lst (said.map V.int ++ [.int (at0 c n)])) = H4 at z1 z2 z3 x4
      generalize hrowe : Row.say n = row at *
      have hrs4 := x4.tup _ _ hrs
      have hr4 := (hrows.ext x4).at_ i r row her hrow
      -- at = next_row(rows[at], at, numbers != [0])
      refine ⟨_, rfl, _, rfl, rs, _, i, _, rfl, rfl, SqT.of hrs4, atI_nat har, _, rfl, _, rfl, by show 1 ≤ sizeLine; decide, fun z0 nz0 => ?_⟩
      have x5 : Ext (fun x => x = cl) H4 (upd H4 z0 (.lst [.int 0])) := Ext.new nz0
      have hsd5 := x5.lst (fun z : sd = cl => ncs z.symm) z1
      have hcl5 : (upd H4 z0 (.lst [.int 0])) cl = some (.lst ((doRow row c).map V.int)) := by rw [upd_ne (ne_of_none z2 nz0)]; exact z2
      have hnl5 : (upd H4 z0 (.lst [.int 0])) nl = some (.lst ((numsOf row c).map V.int)) := by rw [upd_ne (ne_of_none z3 nz0)]; exact z3
      refine ⟨.list ((numsOf row c).map PyData.int), .list [.int 0], .lst (SqL.of hnl5) (dpInts _), .lst (SqL.of upd_same) (.cons (.int 0) .nil), shInts _, shInts [0], ?_⟩
      refine ⟨r, row, i, _, rfl, x5.tup _ _ hr4, ?_⟩
      rw [behind_next]
      -- done += 1
      refine ⟨_, rfl, _, _, rfl, rfl, lt, ?_⟩
      refine ⟨doRow row c, nextAt row c i, saidOf row c said, done + 1, _, rfl, rfl, lt, by rw [doRow_len]; exact cl2, hc.row rok, next_le rok hrow, hcl5, by rw [← es]; exact hsd5, ?_, x4.trans x5, ?_⟩
      · rw [← es]; exact sl4
      · rw [← hgo, show fuel - done = (fuel - (done + 1)) + 1 by omega, goM_step hrow nfin]
    · refine nS ns ?_
      have es := es0.symm
      have z1 := hsd3
      have z2 := hcl3
      have z3 := hnl3
      have x4 := x03
      have sl4 : said.length ≤ done + 1 := by omega
      have hrs4 := x4.tup _ _ hrs
      have hr4 := (hrows.ext x4).at_ i r row her hrow
      -- at = next_row(rows[at], at, numbers != [0])
      refine ⟨_, rfl, _, rfl, rs, _, i, _, rfl, rfl, SqT.of hrs4, atI_nat har, _, rfl, _, rfl, by show 1 ≤ sizeLine; decide, fun z0 nz0 => ?_⟩
      have x5 : Ext (fun x => x = cl) H3 (upd H3 z0 (.lst [.int 0])) := Ext.new nz0
      have hsd5 := x5.lst (fun z : sd = cl => ncs z.symm) z1
      have hcl5 : (upd H3 z0 (.lst [.int 0])) cl = some (.lst ((doRow row c).map V.int)) := by rw [upd_ne (ne_of_none z2 nz0)]; exact z2
      have hnl5 : (upd H3 z0 (.lst [.int 0])) nl = some (.lst ((numsOf row c).map V.int)) := by rw [upd_ne (ne_of_none z3 nz0)]; exact z3
      refine ⟨.list ((numsOf row c).map PyData.int), .list [.int 0], .lst (SqL.of hnl5) (dpInts _), .lst (SqL.of upd_same) (.cons (.int 0) .nil), shInts _, shInts [0], ?_⟩
      refine ⟨r, row, i, _, rfl, x5.tup _ _ hr4, ?_⟩
      rw [behind_next]
      -- done += 1
      refine ⟨_, rfl, _, _, rfl, rfl, lt, ?_⟩
      refine ⟨doRow row c, nextAt row c i, saidOf row c said, done + 1, _, rfl, rfl, lt, by rw [doRow_len]; exact cl2, hc.row rok, next_le rok hrow, hcl5, by rw [← es]; exact hsd5, ?_, x4.trans x5, ?_⟩
      · rw [← es]; exact sl4
      · rw [← hgo, show fuel - done = (fuel - (done + 1)) + 1 by omega, goM_step hrow nfin]
end
end Bw
namespace Bw
open PySem PySem.Spec PyProof.Rows L2 GxR Gx RZ
theorem GroupsAt.snoc {H : Hp} {gs : List Addr} {rows : List Row} {g : Addr} {row : Row} (h : GroupsAt H gs rows) (e : GroupAt H g row) : GroupsAt H (gs ++ [g]) (rows ++ [row]) := by
  refine ⟨by rw [List.length_append, List.length_append, h.len]; rfl, fun i g' row' h1 h2 => ?_⟩
  by_cases hi : i < gs.length
  · rw [List.getElem?_append_left hi] at h1
    rw [List.getElem?_append_left (show i < rows.length by rw [← h.len]; exact hi)] at h2
    exact h.at_ i g' row' h1 h2
  · have hi2 : i = gs.length := by
      have last := (List.getElem?_eq_some_iff.mp h1).1
      rw [List.length_append] at last
      simp at last
      omega
    subst hi2
    rw [List.getElem?_append_right (Nat.le_refl _), Nat.sub_self] at h1
    rw [List.getElem?_append_right (show rows.length ≤ gs.length by rw [h.len]; exact Nat.le_refl _), h.len, Nat.sub_self] at h2
    cases h1
    cases h2
    exact e
section
variable {base : Heap} {K : PySem.W.Frag} {mg : Str → Option Value} {P : Program} {w : World}
def spRun (T1 T2 T3 : Addr) : Sp := fun vs H Q _ => ∃ (a g : Addr) (p : Prog) (given : List Int) (fuel : Nat), vs = [.ref a, .ref g, .int fuel] ∧ ProgAt H a p ∧ p.Ok ∧ H g = some (.tup (given.map V.int)) ∧ given.length = p.params ∧ Nums given ∧ fuel ≤ 1000 ∧ TabG H T1 ∧ TabG H T2 ∧ TabG H T3 ∧
  ∀ H' t sd, H sd = none → ToldAt H' t sd (goM p.rows fuel (cells0 p.names given) 0 [] 0) → Ext no H H' → Q (.ref t) H'
abbrev nRun : List Str := ["program", "given", "fuel", "params", "names", "rows", "machine", "groups", "row"]
theorem scRun : FnScope nRun ["program", "given", "fuel"] (defScope s_run) := ⟨rfl, rfl, rfl, by decide +kernel, rfl, by decide +kernel, by decide +kernel⟩
theorem ok_run {f C fC fG fI fN fT : Addr} {T1 T2 T3 : Addr} {fd fdC fdG fdI fdN fdT : FuncData} (D : Df K mg "run" s_run ["program", "given", "fuel"] f fd) (DC : Df K mg "check_program" s_check_program ["program"] fC fdC) (DG : Df K mg "check_given" s_check_given ["program", "given", "fuel"] fG fdG)
    (DN : Df K mg "names_of" s_names_of ["row"] fN fdN) (DT : Df K mg "told_of" s_told_of ["rows", "groups", "fuel", "machine"] fT fdT) (MC : Mk K C fI) (gM : mg "Machine" = some (.ref C)) (bI : Binds K fdI ["self", "frame", "junk"] []) (B : Bt mg)
    (GC : FnOk P w K mg base CX0 5 fC fdC ["program"] (spCheck T1)) (GG : FnOk P w K mg base CX0 5 fG fdG ["program", "given", "fuel"] (spGiven T2)) (GN : FnOk P w K mg base CX0 4 fN fdN ["row"] (spNames T3))
    (GI : FnOk P w K mg base CX0 2 fI fdI ["self", "frame", "junk"] (spInit C)) (GT : FnOk P w K mg base CX0 3 fT fdT ["rows", "groups", "fuel", "machine"] (spTold C)) (M : Mcls K C) :
    FnOk P w K mg base CX0 6 f fd ["program", "given", "fuel"] (spRun T1 T2 T3) := by
  refine D.F.ok scRun (fun vs H Q E h => ?_) (fun cdv A outer s H vs Q E hr h => ?_)
  · obtain ⟨a, g, p, given, fuel, rfl, _⟩ := h
    rfl
  · obtain ⟨a, g, p, given, fuel, rfl, hp, ok, hg, hgl, hgn, hf, tab1, tab2, tab3, q⟩ := h
    have hr3 := hr.mono (show 3 ≤ 5 by decide)
    have hr4 := hr.mono (show 4 ≤ 5 by decide)
    refine ⟨_, pss_cons (ps_expr (pcall DC GC hr (pa_cons (pv 0) pa_nil)))
      (pss_cons (ps_expr (pcall DG GG hr (pa_cons (pv 0) (pa_cons (pv 1) (pa_cons (pv 2) pa_nil)))))
      (pss_cons (ps_asg (pv 0) (pg_tup rfl (pgs_cons (pg_name (i := 3) scRun.nd rfl (.inl rfl)) (pgs_cons (pg_name (i := 4) scRun.nd rfl (.inl rfl)) (pgs_cons (pg_name (i := 5) scRun.nd rfl (.inl rfl)) pgs_nil)))))
      (pss_cons (ps_set (i := 6) scRun.nd rfl (.inl rfl) (pe_make MC GI hr3 (by rfl) gM bI .nil pass0 (pa_cons (pe_tup (pa_cons (pv 4) (pa_cons pe_int (pa_cons (pe_tup pa_nil) pa_nil)))) (pa_cons (pe_lst pa_nil) pa_nil))))
      (pss_cons (ps_asg (pe_callTy call_list_of (by rfl) B.list (by decide +kernel) (pa_cons (pv 1) pa_nil)) (pg_front (pe_fld (pv 6) rfl) (pv 3)))
      (pss_cons (ps_setLc (i := 7) (own := [("row", 8)]) (g := gName 8) (tt := tYes) rfl scRun.nd rfl rfl (sw_true rfl rfl rfl (by decide +kernel)) (pi_tup (pv 5)) (blkOk_by (N := nRun) (sc := defScope s_run) (by decide +kernel))
          (fun _ _ _ _ _ => pg_name (i := 8) scRun.nd rfl (Or.inl rfl)) (fun _ _ _ _ _ => pts_nil) (fun _ _ _ _ _ => pe_tup (pa_cons (pe_tup pa_nil) (pa_cons (pcall DN GN hr4 (pa_cons (pv 8) pa_nil)) (pa_cons (pe_tup pa_nil) pa_nil)))))
      (pss_one (ps_ret (pcall DT GT hr3 (pa_cons (pv 5) (pa_cons (pv 7) (pa_cons (pv 2) (pa_cons (pv 6) pa_nil)))))))))))), ?_⟩
    -- the checks
    refine ⟨_, rfl, a, p, rfl, hp, ok, tab1, fun H1 x1 => ?_⟩
    refine ⟨_, rfl, _, rfl, _, rfl, a, g, p, given, fuel, rfl, hp.ext x1, x1.tup _ _ hg, hgl, hgn, hf, x1.tab _ tab2, fun H2 x2 => ?_⟩
    have x02 := x1.trans x2
    obtain ⟨rs, as, ha, hrs, hrows⟩ := (hp.ext x02).ex
    have hg2 := x02.tup _ _ hg
    refine ⟨_, rfl, a, _, rfl, SqT.of ha, rfl, _, _, rfl, _, _, rfl, _, _, rfl, rfl, ?_⟩
    -- machine = Machine((names, 0, ()), [])
    refine ⟨_, rfl, Nat.zero_le _, fun e ne => ⟨by show 3 ≤ sizeLine; decide, fun fr nfr => ⟨Nat.zero_le _, fun jk njk => fun m dx nm ndx nxm => ?_⟩⟩⟩
    generalize h3 : upd H2 e (.tup []) = H3 at nfr njk nm ndx ⊢
    have he3 : H3 e = some (.tup []) := by rw [← h3]; exact upd_same
    have x3 : Ext no H2 H3 := by rw [← h3]; exact Ext.new ne
    generalize h4 : upd H3 fr (.tup [.int p.names, .int 0, .ref e]) = H4 at njk nm ndx ⊢
    have hfr4 : H4 fr = some (.tup [.int p.names, .int 0, .ref e]) := by rw [← h4]; exact upd_same
    have x4 : Ext no H3 H4 := by rw [← h4]; exact Ext.new nfr
    generalize h5 : upd H4 jk (.lst []) = H5 at nm ndx ⊢
    have hjk5 : H5 jk = some (.lst []) := by rw [← h5]; exact upd_same
    have x5 : Ext no H4 H5 := by rw [← h5]; exact Ext.new njk
    have nm' : (upd H5 dx (.own m)) m = none := by rw [upd_ne nxm.symm]; exact nm
    have x6 : Ext no H5 (upd (upd H5 dx (.own m)) m (.ins C dx [])) := (Ext.new ndx).trans (Ext.new nm')
    generalize h6 : upd (upd H5 dx (.own m)) m (.ins C dx []) = H6 at x6 ⊢
    have hm6 : H6 m = some (.ins C dx []) := by rw [← h6]; exact upd_same
    have x05 : Ext no H H5 := ((x02.trans x3).trans x4).trans x5
    have x46 : Ext no H4 H6 := x5.trans x6
    have x06 := x05.trans x6
    have m0 : H m = none := x05.dom m nm
    refine ⟨m, dx, fr, jk, e, p.names, rfl, hm6, x46.tup _ _ hfr4, x6.lst (fun z => z) hjk5, ok.n1, fun H7 cl ncl hm7 hcl7 x7 => ⟨rfl, ?_⟩⟩
    have x07 : Ext no H H7 := x06.hid m0 x7
    have cl0 : H cl = none := x06.dom cl ncl
    have ha7 := x7.tup _ _ (x6.tup _ _ (x5.tup _ _ (x4.tup _ _ (x3.tup _ _ ha))))
    have hrs7 := x7.tup _ _ (x6.tup _ _ (x5.tup _ _ (x4.tup _ _ (x3.tup _ _ hrs))))
    have hrows7 := ((((hrows.ext x3).ext x4).ext x5).ext x6).ext x7
    have he7 := x7.tup _ _ (x46.tup _ _ (x4.tup _ _ he3))
    have hfr7 := x7.tup _ _ (x46.tup _ _ hfr4)
    have hg7 := x07.tup _ _ hg
    -- machine.cells[:params] = list(given)
    refine ⟨_, rfl, g, _, rfl, .inr (SqT.of hg7), fun l nl => ?_⟩
    have ncl' : cl ≠ l := ne_of_none hcl7 nl
    have nml : m ≠ l := ne_of_none hm7 nl
    have lc : (mfs fr jk cl).lookup ("cells" : Str) = some (.ref cl) := rfl
    have rl : ((List.replicate p.names (0 : Int)).map V.int).length = p.names := by rw [List.length_map, List.length_replicate]
    have pn := ok.pn
    have n8 := ok.n1
    refine ⟨_, rfl, m, C, dx, _, _, rfl, by rw [upd_ne nml]; exact hm7, M.cls, M.cells, lc, _, rfl, cl, l, _, _, p.params, rfl, rfl, rfl, by rw [upd_ne ncl']; exact hcl7, upd_same, ncl', by rw [rl]; exact pn, by rw [rl, List.length_map]; exact Nat.le_of_lt (small_lt (k := 16) (by omega) (by decide)), ?_⟩
    have cells : given.map V.int ++ ((List.replicate p.names (0 : Int)).map V.int).drop p.params = (cells0 p.names given).map V.int := by
      rw [cells0, List.map_append, ← List.map_drop, List.drop_replicate, hgl]
    rw [cells]
    have x8 : Ext (fun x => x = cl) H7 (upd (upd H7 l (.lst (given.map V.int))) cl (.lst ((cells0 p.names given).map V.int))) := (Ext.new nl).trans (Ext.put (by rw [upd_ne ncl']; exact hcl7) rfl (fun _ z => by cases z) (fun _ z => by cases z))
    generalize h8 : upd (upd H7 l (.lst (given.map V.int))) cl (.lst ((cells0 p.names given).map V.int)) = H8 at x8 ⊢
    have hcl8 : H8 cl = some (.lst ((cells0 p.names given).map V.int)) := by rw [← h8]; exact upd_same
    have x08 : Ext no H H8 := x07.hid cl0 x8
    have nmc : ¬ m = cl := fun z => by rw [z, hcl7] at hm7; cases hm7
    have mach8 : MachAt C H8 m cl p.names := ⟨dx, fr, jk, e, x8.oth m _ nmc (fun _ z => by cases z) hm7, x8.tup _ _ hfr7, x8.tup _ _ he7⟩
    have hrs8 := x8.tup _ _ hrs7
    have hrows8 := hrows7.ext x8
    have tab8 := x08.tab _ tab3
    -- groups
    refine ⟨_, rfl, rs, rfl, ⟨_, SqT.of hrs8⟩, fun gl ngl => ?_⟩
    have r24 := ok.r1
    refine lc_tup (K := K) (a := rs) (xs := as.map V.ref) (fun j H9 => ∃ gs : List Addr, gs.length = j ∧ H9 gl = some (.lst (gs.map V.ref)) ∧ GroupsAt H9 gs (p.rows.take j) ∧ Ext no H8 H9)
      ⟨[], rfl, upd_same, ⟨rfl, fun i g row h _ => by simp at h⟩, Ext.new ngl⟩ (fun j H9 _ z => z.elim fun gs z => SqT.of (z.2.2.2.tup _ _ hrs8)) ?_ ?_
    · rintro j x H9 hx ⟨gs, hl, hgl9, hgs, x9⟩
      rw [List.getElem?_map] at hx
      obtain ⟨r, hr0, rfl⟩ : ∃ r, as[j]? = some r ∧ x = V.ref r := by
        cases e : as[j]? with
        | none => rw [e] at hx; cases hx
        | some r => rw [e] at hx; exact ⟨r, rfl, (Option.some.inj hx).symm⟩
      have jlt : j < p.rows.length := by
        rw [← hrows.len]
        exact (List.getElem?_eq_some_iff.mp hr0).1
      have hj : p.rows[j]? = some p.rows[j] := List.getElem?_eq_getElem jlt
      refine ⟨rfl, ?_⟩
      refine ⟨Nat.zero_le _, fun e1 ne1 => ?_⟩
      have y1 : Ext no H9 (upd H9 e1 (.tup [])) := Ext.new ne1
      have he1 : (upd H9 e1 (.tup [])) e1 = some (.tup []) := upd_same
      generalize upd H9 e1 (.tup []) = G1 at y1 he1 ⊢
      refine ⟨_, rfl, r, p.rows[j], rfl, y1.tup _ _ (x9.tup _ _ (hrows8.at_ j r _ hr0 hj)), y1.tab _ (x9.tab _ tab8), fun G2 t ht y2 => ?_⟩
      refine ⟨Nat.zero_le _, fun e2 ne2 => ⟨by show 3 ≤ sizeLine; decide, fun gg ngg => ?_⟩⟩
      have y3 : Ext no G2 (upd G2 e2 (.tup [])) := Ext.new ne2
      have he2 : (upd G2 e2 (.tup [])) e2 = some (.tup []) := upd_same
      generalize upd G2 e2 (.tup []) = G3 at y3 he2 ngg ⊢
      have y4 : Ext no G3 (upd G3 gg (.tup [.ref e1, .ref t, .ref e2])) := Ext.new ngg
      have hgg : (upd G3 gg (.tup [.ref e1, .ref t, .ref e2])) gg = some (.tup [.ref e1, .ref t, .ref e2]) := upd_same
      generalize upd G3 gg (.tup [.ref e1, .ref t, .ref e2]) = G4 at y4 hgg ⊢
      have y04 : Ext no H9 G4 := ((y1.trans y2).trans y3).trans y4
      have hgl4 := y04.lst (fun z => z) hgl9
      have grp : GroupAt G4 gg p.rows[j] := ⟨e1, t, e2, hgg, y4.tup _ _ (y3.tup _ _ (y2.tup _ _ he1)), y4.tup _ _ (y3.tup _ _ ht), y4.tup _ _ he2⟩
      have y5 : Ext (fun x => x = gl) G4 (upd G4 gl (.lst (gs.map V.ref ++ [.ref gg]))) := Ext.put hgl4 rfl (fun _ z => by cases z) (fun _ z => by cases z)
      refine ⟨_, hgl4, by rw [List.length_map, hl]; exact small_lt (k := 24) (by omega) (by decide), gs ++ [gg], by rw [List.length_append, hl]; rfl, by rw [upd_same, List.map_append]; rfl, ?_, (x9.trans y04).own ngl⟩
      rw [List.take_add_one, hj]
      exact ((hgs.ext y04).snoc grp).ext y5
    rintro H9 ⟨gs, hl, hgl9, hgs, x9⟩
    have all : p.rows.take (as.map V.ref).length = p.rows := List.take_of_length_le (by rw [List.length_map, hrows.len]; exact Nat.le_refl _)
    rw [all] at hgs
    have gcl : gl ≠ cl := fun z => by rw [z, hcl8] at ngl; cases ngl
    have hcl9 := x9.lst (fun z => z) hcl8
    refine ⟨_, rfl, _, rfl, _, rfl, _, rfl, rs, gl, m, cl, as, gs, p.rows, p.names, fuel, cells0 p.names given, rfl, x9.tup _ _ hrs8, hrows8.ext x9, ok.ok, hgl9, hgs, mach8.ext x9 (fun z => z), hcl9, cells0_len (by rw [hgl]; exact pn), cells0_nums hgn, hf, gcl, fun H10 t sd nsd told x10 => ?_⟩
    exact q _ t sd ((x08.trans x9).dom sd nsd) told ((x08.trans x9).hid cl0 x10)
end
end Bw
namespace Bw
open PySem PySem.Spec PyProof.Rows L2 GxR Gx RZ
theorem said_few (rows : List Row) : ∀ (f : Nat) (c : List Int) (i : Nat) (s : List Int) (d : Nat), (goM rows f c i s d).1.length ≤ s.length + f
  | 0, c, i, s, d => by
    unfold goM
    exact Nat.le_refl _
  | f + 1, c, i, s, d => by
    by_cases e : atEnd rows i = true
    · rw [goM_end e]
      exact Nat.le_add_right _ _
    · rw [Bool.not_eq_true] at e
      obtain ⟨row, hrow, nf⟩ := atEnd_of e
      rw [goM_step hrow nf]
      have ih := said_few rows f (doRow row c) (nextAt row c i) (saidOf row c s) (d + 1)
      have one : (saidOf row c s).length ≤ s.length + 1 := by
        cases row <;> simp [saidOf]
      omega
def toldD (r : List Int × Bool × Nat) : PyData := .tuple [.list (r.1.map PyData.int), .tuple [.str (if r.2.1 = true then "end" else "long")], .int r.2.2]
theorem told_dp {K : PySem.W.Frag} {H : Hp} {a sd : Addr} {r : List Int × Bool × Nat} (h : ToldAt H a sd r) : Dp K H (.ref a) (toldD r) := by
  obtain ⟨e, h1, h2, h3⟩ := h.ex
  exact .tup (SqT.of h1) (.cons (.lst (SqL.of h2) (dpInts _)) (.cons (.tup (SqT.of h3) (.cons (.str _) .nil)) (.cons (.int _) .nil)))
theorem told_lv {r : List Int × Bool × Nat} (h : r.1.length ≤ 100000) : Lv 3 (toldD r) = true := by
  have each : (r.1.map PyData.int).all (Lv 1) = true := List.all_eq_true.mpr fun x hx => by
    obtain ⟨z, _, rfl⟩ := List.mem_map.mp hx
    rfl
  have l2 : Lv 2 (.list (r.1.map PyData.int)) = true := by
    show (decide ((r.1.map PyData.int).length ≤ 100000) && (r.1.map PyData.int).all (Lv 1)) = true
    rw [each, decide_eq_true (by rw [List.length_map]; exact h)]
    rfl
  show (decide (3 ≤ 100000) && (Lv 2 (.list (r.1.map PyData.int)) && _)) = true
  rw [l2]
  rfl
theorem ToldAt.ext {m : Addr → Prop} {H H' : Hp} {a sd : Addr} {r : List Int × Bool × Nat} (h : ToldAt H a sd r) (x : Ext m H H') (n : ¬ m sd) : ToldAt H' a sd r := by
  obtain ⟨e, h1, h2, h3⟩ := h.ex
  exact ⟨e, x.tup _ _ h1, x.lst n h2, x.tup _ _ h3⟩
section
variable {base : Heap} {K : PySem.W.Frag} {mg : Str → Option Value} {P : Program} {w : World}
def spLaw (K : PySem.W.Frag) (T1 T2 T3 : Addr) : Sp := fun vs H Q _ => ∃ (a : Addr) (ns : List Int), vs = [.ref a] ∧ SqL K H a (ns.map V.int) ∧ ns.length ≤ 63 ∧ TabG H T1 ∧ TabG H T2 ∧ TabG H T3 ∧ ∀ H', Q (.bl true) H'
abbrev nLaw : List Str := ["_law_script", "_law_box", "_law_turn", "_law_program_here", "_law_given", "_law_fuel", "_law_due", "_law_again", "_law_found", "_law_k"]
theorem scLaw : FnScope nLaw ["_law_script"] (defScope s_law) := ⟨rfl, rfl, rfl, by decide +kernel, rfl, by decide +kernel, by decide +kernel⟩
theorem ok_law {f fB fT fR fP fL fA fU T1 T2 T3 : Addr} {fd fdB fdT fdR fdP fdL fdA fdU : FuncData} (D : Df K mg "law" s_law ["_law_script"] f fd) (DB : Df K mg "_law_begun" s_begun ["_law_script"] fB fdB) (DT : Df K mg "_law_take" s_take ["_law_box", "_law_many"] fT fdT)
    (DR : Df K mg "_law_row" s_row ["_law_box", "_law_names", "_law_many", "_law_at"] fR fdR) (DP : Df K mg "_law_program" s_program ["_law_box", "_law_most"] fP fdP) (DL : Df K mg "_law_run" s_lrun ["_law_program_here", "_law_given", "_law_fuel"] fL fdL)
    (DA : Df K mg "_law_alike" s_alike ["_law_found", "_law_due"] fA fdA) (DU : Df K mg "run" s_run ["program", "given", "fuel"] fU fdU) (GU : FnOk P w K mg base CX0 6 fU fdU ["program", "given", "fuel"] (spRun T1 T2 T3)) (B : Bt mg) :
    FnOk P w K mg base CX0 7 f fd ["_law_script"] (spLaw K T1 T2 T3) := by
  have GB : FnOk P w K mg base CX0 1 fB fdB ["_law_script"] (spBegun K) := ok_begun DB B
  have GT : FnOk P w K mg base CX0 1 fT fdT ["_law_box", "_law_many"] spTake := ok_take DT
  have GP : FnOk P w K mg base CX0 3 fP fdP ["_law_box", "_law_most"] spProgram := ok_program DP DT DR B
  have GL : FnOk P w K mg base CX0 1 fL fdL ["_law_program_here", "_law_given", "_law_fuel"] spLrun := ok_lrun DL B
  have GA : FnOk P w K mg base CX0 3 fA fdA ["_law_found", "_law_due"] (spAlike K 3) := ok_alike DA B 3
  refine D.F.ok scLaw (fun vs H Q E h => ?_) (fun cdv A outer s H vs Q E hr h => ?_)
  · obtain ⟨a, ns, rfl, _⟩ := h
    rfl
  · obtain ⟨a, ns, rfl, hS, few, tab1, tab2, tab3, q⟩ := h
    have hr1 := hr.mono (show 1 ≤ 6 by decide)
    have hr3 := hr.mono (show 3 ≤ 6 by decide)
    refine ⟨_, pss_cons (ps_set (i := 1) scLaw.nd rfl (.inr rfl) (pcall DB GB hr1 (pa_cons (pv 0) pa_nil)))
      (pss_cons (ps_for PassesOwn.never rfl (pi_range1 (by rfl) B.range (pa_cons pe_int pa_nil)) (pg_name (i := 2) scLaw.nd rfl (.inl rfl))
        (pss_cons (ps_set (i := 3) scLaw.nd rfl (.inl rfl) (pcall DP GP hr3 (pa_cons (pv 1) (pa_cons pe_int pa_nil))))
        (pss_cons (ps_set (i := 4) scLaw.nd rfl (.inl rfl) (pe_callTy call_tuple_of (by rfl) B.tuple (by decide +kernel) (pa_cons
          (pe_lc (own := [("_law_k", 9)]) (g := gName 9) (tt := tYes) rfl scLaw.nd (pi_range1 (by rfl) B.range (pa_cons (pe_ix ix_tup (pv 3) pe_int (fun _ _ => rfl)) pa_nil)) (blkOk_by (N := nLaw) (sc := defScope s_law) (by decide +kernel))
            (fun _ _ _ _ _ => pg_name (i := 9) scLaw.nd rfl (Or.inl rfl)) (fun _ _ _ _ _ => pts_nil)
            (fun _ _ _ _ _ => pe_ix (r := rIxL K) ix_list (pe_lst (pa_cons (pcall DT GT hr1 (pa_cons (pv 1) (pa_cons pe_int pa_nil))) (pa_cons (pcall DT GT hr1 (pa_cons (pv 1) (pa_cons pe_int pa_nil))) pa_nil))) (pcall DT GT hr1 (pa_cons (pv 1) (pa_cons pe_int pa_nil))) (fun _ _ => rfl))) pa_nil)))
        (pss_one (ps_for PassesOwn.never rfl (pi_list (pe_lst (pa_cons (pcall DT GT hr1 (pa_cons (pv 1) (pa_cons pe_int pa_nil))) (pa_cons (pe_ix ix_list (pe_lst (pa_cons pe_int (pa_cons pe_int (pa_cons (pcall DT GT hr1 (pa_cons (pv 1) (pa_cons pe_int pa_nil))) pa_nil)))) (pcall DT GT hr1 (pa_cons (pv 1) (pa_cons pe_int pa_nil))) (fun _ _ => rfl)) pa_nil))))
          (pg_name (i := 5) scLaw.nd rfl (.inl rfl))
          (pss_cons (ps_set (i := 6) scLaw.nd rfl (.inl rfl) (pcall DL GL hr1 (pa_cons (pv 3) (pa_cons (pv 4) (pa_cons (pv 5) pa_nil)))))
          (pss_one (ps_for PassesOwn.never rfl (pi_range1 (by rfl) B.range (pa_cons pe_int pa_nil)) (pg_name (i := 7) scLaw.nd rfl (.inl rfl))
            (pss_cons (ps_set (i := 8) scLaw.nd rfl (.inl rfl) (pcall DU GU hr (pa_cons (pv 3) (pa_cons (pv 4) (pa_cons (pv 5) pa_nil)))))
            (pss_cons (ps_if (pt_not (pt_val (pcall DA GA hr3 (pa_cons (pv 8) (pa_cons (pv 6) pa_nil))))) (pss_one (ps_ret pe_bl)) pss_nil)
            (pss_one (ps_expr (pe_bm PySem.F.plainAttrs_list PySem.F.slot_list_append PySem.F.type_list_append mt_append (pe_ix ix_tup (pv 8) pe_int (fun _ _ => rfl)) (pa_cons pe_int pa_nil))))))))))))))
      (pss_one (ps_ret (pe_bl)))), ?_⟩
    refine ⟨_, rfl, a, ns, rfl, hS, few, fun H1 b l nb nl bo1 x1 => ?_⟩
    refine ⟨6, rfl, by decide, by decide, for_range (lo := 0) (n := 6) (fun i σ H2 => (∃ v2 v3 v4 v5 v6 v7 v8, σ = [some (.ref a), some (.ref b), v2, v3, v4, v5, v6, v7, v8, none]) ∧ BoxAt H2 b l ∧ TabG H2 T1 ∧ TabG H2 T2 ∧ TabG H2 T3)
      ⟨⟨_, _, _, _, _, _, _, rfl⟩, bo1, x1.tab _ tab1, x1.tab _ tab2, x1.tab _ tab3⟩ ?_ ?_⟩
    · rintro i σ H2 hi ⟨⟨v2, v3, v4, v5, v6, v7, v8, rfl⟩, bo2, t1, t2, t3⟩
      -- a program
      refine ⟨_, rfl, b, l, 24, rfl, bo2, by decide, by decide, fun H3 pa p ok _ hp3 bo3 x3 => ?_⟩
      obtain ⟨rs, as, hpa, hrs, hrows⟩ := hp3.ex
      have pn := ok.pn
      have n8 := ok.n1
      -- what is handed in
      refine ⟨_, rfl, pa, _, 0, _, rfl, rfl, SqT.of hpa, atI_nat (j := 0) rfl, p.params, rfl, by omega, by omega, fun G nG => ?_⟩
      refine lc_range (lo := 0) (n := p.params) (fun j H4 => ∃ gv : List Int, gv.length = j ∧ H4 G = some (.lst (gv.map V.int)) ∧ Nums gv ∧ BoxAt H4 b l ∧ Ext (bx b l) H3 H4)
        ⟨[], rfl, upd_same, fun v h => by simp at h, bo3.new nG, Ext.new nG⟩ ?_ ?_
      · rintro j H4 hj ⟨gv, hgl, hG4, hgn, bo4, x4⟩
        rw [show ((0 : Int) + (j : Int)) = (j : Int) from Int.zero_add _]
        refine ⟨rfl, ?_⟩
        refine ⟨_, rfl, b, l, 1000, rfl, bo4, by decide, by decide, fun H5 r1 r10 r11 bo5 x5 => ?_⟩
        refine ⟨_, rfl, b, l, 3, rfl, bo5, by decide, by decide, fun H6 r2 r20 r21 bo6 x6 => ⟨by show 2 ≤ sizeLine; decide, fun L nL => ?_⟩⟩
        refine ⟨_, rfl, b, l, 2, rfl, bo6.new nL, by decide, by decide, fun H7 k k0 k1 bo7 x7 => ?_⟩
        obtain ⟨v, ev, hv⟩ := pick2 (x := .int r1) (y := .int r2) k0 k1
        refine ⟨L, _, k, v, rfl, rfl, SqL.of (x7.lst (bo6.nb nL) upd_same), ev, ?_⟩
        obtain ⟨z, rfl, z0, z1⟩ : ∃ z : Int, v = .int z ∧ 0 ≤ z ∧ z < 1000 := by
          rcases hv with rfl | rfl
          · exact ⟨_, rfl, r10, r11⟩
          · exact ⟨_, rfl, r20, by omega⟩
        have x47 : Ext (bx b l) H4 H7 := ((x5.trans x6).trans (Ext.new nL)).trans x7
        have hG7 := x47.lst (bo3.nb nG) hG4
        have y : Ext (fun x => x = G) H7 (upd H7 G (.lst (gv.map V.int ++ [.int z]))) := Ext.put hG7 rfl (fun _ z => by cases z) (fun _ z => by cases z)
        refine ⟨_, hG7, by rw [List.length_map]; exact small_lt (k := 8) (by omega) (by decide), gv ++ [z], by rw [List.length_append, hgl]; rfl, by rw [upd_same, List.map_append]; rfl, fun u hu => ?_, bo7.ext y (fun z => bo3.nb nG (.inl z.symm)) (fun z => bo3.nb nG (.inr z.symm)), (x4.trans x47).own nG⟩
        rcases List.mem_append.mp hu with h | h
        · exact hgn u h
        · rw [List.mem_singleton.mp h]
          exact ⟨z0, z1⟩
      rintro H4 ⟨gv, hgl, hG4, hgn, bo4, x4⟩
      refine ⟨G, _, rfl, .inl ⟨SqL.of hG4, fun g ng => ?_⟩⟩
      have x5 : Ext (bx b l) H3 (upd H4 g (.tup (gv.map V.int))) := x4.trans (Ext.new ng)
      have hg5 : (upd H4 g (.tup (gv.map V.int))) g = some (.tup (gv.map V.int)) := upd_same
      have bo5 := bo4.new (o := .tup (gv.map V.int)) ng
      generalize upd H4 g (.tup (gv.map V.int)) = H5 at x5 hg5 bo5 ⊢
      -- the fuels
      refine ⟨_, rfl, b, l, 12, rfl, bo5, by decide, by decide, fun H6 f1 f10 f11 bo6 x6 => ?_⟩
      refine ⟨_, rfl, b, l, 200, rfl, bo6, by decide, by decide, fun H7 f2 f20 f21 bo7 x7 => ⟨by show 3 ≤ sizeLine; decide, fun L nL => ?_⟩⟩
      refine ⟨_, rfl, b, l, 3, rfl, bo7.new nL, by decide, by decide, fun H8 k k0 k1 bo8 x8 => ?_⟩
      obtain ⟨v, ev, hv⟩ := pick3 (x := .int 1000) (y := .int 1000) (z := .int f2) k0 k1
      refine ⟨L, _, k, v, rfl, rfl, SqL.of (x8.lst (bo7.nb nL) upd_same), ev, by show 2 ≤ sizeLine; decide, fun FL nFL => ?_⟩
      obtain ⟨z2, rfl, z2m⟩ : ∃ z : Nat, v = .int z ∧ z ≤ 1000 := by
        rcases hv with rfl | rfl | rfl
        · exact ⟨1000, rfl, by decide⟩
        · exact ⟨1000, rfl, by decide⟩
        · exact ⟨f2.toNat, by rw [Int.toNat_of_nonneg f20], by omega⟩
      obtain ⟨z1, rfl, z1m⟩ : ∃ z : Nat, f1 = (z : Int) ∧ z ≤ 1000 := ⟨f1.toNat, by omega, by omega⟩
      have x58 : Ext (bx b l) H5 (upd H8 FL (.lst [.int z1, .int z2])) := ((x6.trans x7).trans (Ext.new nL)).trans (x8.trans (Ext.new nFL))
      have hFL : (upd H8 FL (.lst [.int z1, .int z2])) FL = some (.lst [.int z1, .int z2]) := upd_same
      have bo9 := bo8.new (o := .lst [.int z1, .int z2]) nFL
      generalize upd H8 FL (.lst [.int z1, .int z2]) = H9 at x58 hFL bo9 ⊢
      have X : Ext (bx b l) H2 H9 := x3.trans (x5.trans x58)
      have hp9 : ProgAt H9 pa p := (hp3.ext x5).ext x58
      have hg9 := x58.tup _ _ hg5
      have t19 := X.tab _ t1
      have t29 := X.tab _ t2
      have t39 := X.tab _ t3
      refine ⟨FL, rfl, ⟨_, SqL.of hFL⟩, for_list (K := K) (a := FL) (xs := [.int z1, .int z2]) (fun i σ H2 => (∃ v2 v5 v6 v7 v8, σ = [some (.ref a), some (.ref b), v2, some (.ref pa), some (.ref g), v5, v6, v7, v8, none]) ∧ Ext no H9 H2)
        ⟨⟨_, _, _, _, _, rfl⟩, Ext.refl _ _⟩ (fun i σ H2 _ z => SqL.of (z.2.lst (fun z => z) hFL)) ?_ ?_⟩
      · rintro i2 y σ H10 hy ⟨⟨u2, u5, u6, u7, u8, rfl⟩, x10⟩
        obtain ⟨fuel, rfl, hf⟩ : ∃ fuel : Nat, y = .int fuel ∧ fuel ≤ 1000 := by
          match i2, hy with
          | 0, hy => exact ⟨z1, (Option.some.inj hy).symm, z1m⟩
          | 1, hy => exact ⟨z2, (Option.some.inj hy).symm, z2m⟩
          | _ + 2, hy => simp at hy
        -- due
        refine ⟨_, rfl, _, rfl, _, rfl, pa, g, p, gv, fuel, rfl, hp9.ext x10, ok, x10.tup _ _ hg9, hgl, hgn, hf, fun H11 due sdd _ told11 x11 => ?_⟩
        have x911 := x10.trans x11
        generalize hres : goM p.rows fuel (cells0 p.names gv) 0 [] 0 = res at told11
        have short : res.1.length ≤ 100000 := by
          have := said_few p.rows fuel (cells0 p.names gv) 0 [] 0
          rw [hres] at this
          have e0 : ([] : List Int).length = 0 := rfl
          omega
        refine ⟨2, rfl, by decide, by decide, for_range (lo := 0) (n := 2) (fun i σ H2 => (∃ v2 v7 v8, σ = [some (.ref a), some (.ref b), v2, some (.ref pa), some (.ref g), some (.int fuel), some (.ref due), v7, v8, none]) ∧ Ext no H11 H2)
          ⟨⟨_, _, _, rfl⟩, Ext.refl _ _⟩ ?_ ?_⟩
        · rintro i3 σ H12 hi3 ⟨⟨w2, w7, w8, rfl⟩, x12⟩
          have x912 := x911.trans x12
          refine ⟨_, rfl, _, rfl, _, rfl, pa, g, p, gv, fuel, rfl, hp9.ext x912, ok, x912.tup _ _ hg9, hgl, hgn, hf, x912.tab _ t19, x912.tab _ t29, x912.tab _ t39, fun H13 fo sdf nsdf told13 x13 => ?_⟩
          rw [hres] at told13
          have told12 := told11.ext (x12.trans x13) (fun z => z)
          refine ⟨_, rfl, _, rfl, _, _, toldD res, rfl, told_dp told13, told_dp told12, told_lv short, _, rfl, iteF ?_⟩
          obtain ⟨e, hfo, hsd, he⟩ := told13.ex
          refine ⟨_, rfl, fo, _, 0, _, rfl, rfl, SqT.of hfo, atI_nat (j := 0) rfl, .inl ⟨rfl, _, SqL.of hsd⟩, sdf, _, _, rfl, rfl, hsd, ?_, ⟨⟨_, _, _, rfl⟩, x12.trans (x13.own nsdf)⟩⟩
          rw [List.length_map]
          exact small_lt short (by decide)
        · rintro σ H12 ⟨⟨w2, w7, w8, rfl⟩, x12⟩
          exact ⟨⟨_, _, _, _, _, rfl⟩, x911.trans x12⟩
      · rintro σ H10 ⟨⟨u2, u5, u6, u7, u8, rfl⟩, x10⟩
        exact ⟨⟨_, _, _, _, _, _, _, rfl⟩, bo9.ext x10 (fun z => z) (fun z => z), x10.tab _ t19, x10.tab _ t29, x10.tab _ t39⟩
    · rintro σ H2 _
      exact q _
end
end Bw
namespace Bw
open PySem PySem.Spec PyProof.Rows L2 GxR
/-! ### the end: what the top has left -/
/-- as LamX.walk_ofTs, where the tables of the defs named in xs are asked for -/
theorem walk_tabs {l : PySem.W.OpenLaw} {n k : Nat} {q : Program} {loose : List Str} {XP : (Str → Option Value) → Heap → Prop} {YP : World → Heap → Prop} {d : DefRec} {K : Params → PySem.W.Frag} {x : Str} (xs : List Str)
    (most : l.most = some n) (few : n ≤ sizeLine) (plain : d.params.defaults = []) (room : Room k callerA) (recs : ∀ y ∈ xs, ((recsOf q).any fun e => e.name == y) = true) (isIn : ∀ (w : World) (h : Heap), YP w h → (K w.params).In h)
    (F : ∀ (w : World) (mg : Str → Option Value) (fa : Addr) (h : Heap), (K w.params).In h → h.Ns mainGlobals mg → mg d.name = some (.ref fa) → (∀ y ∈ xs, ∀ f, mg y = some (.ref f) → LamX.OwnTab (K w.params) f h) → LamX.LawAtS l w (K w.params) CX0 k n x mg fa h) : PySem.W.WalkO q loose XP YP l.row.toRowW d [] (fun f vs => PySem.call f vs) := by
  refine Att.attach_callB most plain fun w s₀ s₁ mg mb fa o pm cd doc a vs ns G Y ho hd hcd hmg isList areInts short bits hg => ?_
  have there := isIn w _ Y
  have tabs : ∀ y ∈ xs, ∀ f, mg y = some (.ref f) → LamX.OwnTab (K w.params) f s₁.heap := by
    intro y hy f isF c T o1 fd1 e dd vs1 sl k1 k2 k3 k4 k5
    obtain ⟨rec, isRec, named⟩ := List.any_eq_true.mp (recs y hy)
    obtain ⟨f', o', fd', c', T', g1, g2, g3, g4, _, ⟨⟨oc, vc, g5, _, g6, g7⟩, empty⟩⟩ := G.T.tab rec isRec
    rw [beq_iff_eq.mp named, isF] at g1
    obtain rfl : f = f' := Value.ref.inj (Option.some.inj g1)
    obtain rfl : o1 = o' := Option.some.inj ((there _ _ k1).symm.trans g2)
    obtain rfl : fd1 = fd' := Data.func.inj (k2.symm.trans g3)
    obtain rfl : c = c' := Value.ref.inj (k3.symm.trans g4)
    obtain rfl : ({ cls := e, dict := dd, data := .fields vs1, slots := sl } : Obj) = oc := Option.some.inj ((there _ _ k4).symm.trans g5)
    obtain rfl : vs1 = vc := Data.fields.inj g6
    obtain rfl : T = T' := Value.ref.inj (Option.some.inj (k5.symm.trans g7))
    exact empty
  obtain ⟨fd, cs, sp, empty, apart, codes, binds, says, keeps⟩ := F w mg fa _ there G.T.g hmg tabs
  exact LamX.law_callTs there G.T.g G.T.b G.T.builtins G.T.nolimit hg empty apart codes G.T.bmain isList areInts (Nat.le_trans short few) room keeps binds (fun H isT isS => says H a ns short bits isT isS) fun _ _ _ z => z
section
variable {K : PySem.W.Frag} {h : Heap} {mg : Str → Option Value} {w : World} {A : Prop}
abbrev Bnd (x qual : Str) (st : Stmt) (ps : List Str) : Prop := ∀ (kV doc pm : Value) (an : Option Addr) (cdv ct : Value) (us : List Value), us.length = ps.length → bindArgs (PySem.W.fnOf x qual (defArgs st) (defBody st) (defScope st) .none kV doc pm an cdv ct) ⟨us, []⟩ = pure (ps.zip us)
theorem df_mk (x : Str) (st : Stmt) (ps : List Str) {f : Addr} {oc : Value} {od an : Option Addr} {osl : Array (Option Value)} {kV doc pm cdv ct : Value} (KX : K.In h) (G : h.Ns mainGlobals mg) (b : Bnd x x st ps)
    (at_ : PySem.W.nsIn K mainGlobals x = some (some (.ref f))) (lk : K.lookup f = some ⟨oc, od, .func (PySem.W.fnOf x x (defArgs st) (defBody st) (defScope st) .none kV doc pm an cdv ct), osl⟩) (cd : PySem.W.codeIn K cdv x = true) (kp : PySem.W.keepIn K (.ref f) = true)
    (next : ∀ f fd, Df K mg x st ps f fd → A) : A :=
  next f _ ⟨fun_mk (st := st) lk cd kp, (fun_mk (st := st) lk cd kp).binds b, PySem.W.mg_of KX G at_⟩
/-- a def that holds a generator expression: its code at c, its table at T -/
structure Gen (K : PySem.W.Frag) (h : Heap) (c T : Addr) : Prop where
  hd : PySem.W.CodeHd h c T
  no : K.lookup T = none
  tab : h.get? T = some { cls := .none, data := .fields #[] }
theorem dc_mk (x : Str) (st : Stmt) (ps : List Str) {f c T : Addr} {oc : Value} {od an : Option Addr} {osl : Array (Option Value)} {kV doc pm ct e : Value} {dd : Option Addr} {vs : Array Value} {sl : Array (Option Value)} (KX : K.In h) (G : h.Ns mainGlobals mg) (own : ∀ f, mg x = some (.ref f) → LamX.OwnTab K f h) (b : Bnd x x st ps)
    (at_ : PySem.W.nsIn K mainGlobals x = some (some (.ref f))) (lk : K.lookup f = some ⟨oc, od, .func (PySem.W.fnOf x x (defArgs st) (defBody st) (defScope st) .none kV doc pm an (.ref c) ct), osl⟩) (cd : PySem.W.codeIn K (.ref c) x = true) (kp : PySem.W.keepIn K (.ref f) = true)
    (lc : K.lookup c = some ⟨e, dd, .fields vs, sl⟩) (at11 : vs[11]? = some (.ref T)) (hd : PySem.W.codeHdIn K c T = true) (no : K.lookup T = none)
    (next : ∀ f fd c T, Dc K mg x st ps f fd c → Gen K h c T → A) : A :=
  next f _ c T ⟨⟨fun_mk (st := st) lk cd kp, (fun_mk (st := st) lk cd kp).binds b, PySem.W.mg_of KX G at_⟩, ⟨oc, od, kV, doc, pm, an, ct, osl, rfl, lk, cd⟩⟩
    ⟨PySem.W.codeHd_of_K KX hd, no, own f (PySem.W.mg_of KX G at_) c T _ _ e dd vs sl lk rfl rfl lc at11⟩
theorem dm_mk {C : Addr} (_ : Mcls K C) (m qual : Str) (st : Stmt) (ps : List Str) {f : Addr} {oc : Value} {od an : Option Addr} {osl : Array (Option Value)} {kV doc pm cdv ct : Value} (b : Bnd m qual st ps)
    (at_ : PySem.W.findIn K (.ref C) m = some (some (.ref f))) (fn : PySem.W.isFn K (.ref f) = true) (lk : K.lookup f = some ⟨oc, od, .func (PySem.W.fnOf m qual (defArgs st) (defBody st) (defScope st) .none kV doc pm an cdv ct), osl⟩) (cd : PySem.W.codeIn K cdv qual = true) (kp : PySem.W.keepIn K (.ref f) = true)
    (next : ∀ f fd, Dm K C m qual st ps f fd → A) : A :=
  next f _ ⟨fun_mk (st := st) lk cd kp, (fun_mk (st := st) lk cd kp).binds b, ⟨at_, fn, kp⟩⟩
structure PartAt (K : PySem.W.Frag) (d : Addr) (word : Str) (xs : List V) : Prop where
  ex : ∃ a, PySem.W.nsIn K d word = some (some (.ref a)) ∧ ∀ H, SqT K H a xs
theorem part_mk {d a : Addr} {word : Str} {xs : List V} {od : Option Addr} {its : Array Value} {n : Nat} {sl : Array (Option Value)} (at_ : PySem.W.nsIn K d word = some (some (.ref a))) (lk : K.lookup a = some ⟨.type "tuple", od, .seq its n, sl⟩) (few : its.size ≤ 10) (v : Vals xs its.toList) : PartAt K d word xs :=
  ⟨a, at_, fun H => .inr ⟨_, its, n, lk, rfl, rfl, Nat.le_trans few (by decide), v⟩⟩
end
end Bw
namespace Bw
open PySem PySem.Spec PyProof.Rows L2 GxR
theorem law_binds {K : PySem.W.Frag} {f : Addr} {fd : FuncData} (F : Fun K "law" "law" s_law f fd) : ∀ (s : Shared) (u : Value), BindsTo s fd ⟨[u], []⟩ [("_law_script", u)] := by
  obtain ⟨oc, od, kV, doc, pm, an, cdv, ct, osl, same, _, _⟩ := F.ex
  subst same
  exact fun s u => .of_eq rfl
theorem all3 {R : Addr × Addr → Prop} {x y z : Addr × Addr} (hx : R x) (hy : R y) (hz : R z) : ∀ p ∈ [x, y, z], R p := fun p hp => by
  simp only [List.mem_cons, List.not_mem_nil, or_false] at hp
  rcases hp with e | e | e <;> (rw [e]; assumption)
theorem tab_of {H : Hp} {T : Addr} (h : H T = some (.tbl #[])) : TabG H T := ⟨#[], h, trivial⟩
theorem law_at {l : PySem.W.OpenLaw} {w : World} {K : PySem.W.Frag} {mg : Str → Option Value} {h : Heap} {fa : Addr} {f1 f2 f3 f4 f5 f6 f7 f8 f9 f10 f11 f12 f13 f14 f15 f16 f17 f18 f19 f20 f21 f22 f23 f24 f25 fI C d mk c1 c2 c3 T1 T2 T3 : Addr}
    {d1 d2 d3 d4 d5 d6 d7 d8 d9 d10 d11 d12 d13 d14 d15 d16 d17 d18 d19 d20 d21 d22 d23 d24 d25 dI : FuncData} {es : Array DictEntry} {n0 : Nat}
    (DL : Df K mg "law" s_law ["_law_script"] f1 d1) (isL : mg "law" = some (.ref fa)) (DB : Df K mg "_law_begun" s_begun ["_law_script"] f2 d2) (DT : Df K mg "_law_take" s_take ["_law_box", "_law_many"] f3 d3) (DR : Df K mg "_law_row" s_row ["_law_box", "_law_names", "_law_many", "_law_at"] f4 d4)
    (DP : Df K mg "_law_program" s_program ["_law_box", "_law_most"] f5 d5) (DLr : Df K mg "_law_run" s_lrun ["_law_program_here", "_law_given", "_law_fuel"] f6 d6) (DA : Df K mg "_law_alike" s_alike ["_law_found", "_law_due"] f7 d7) (DU : Df K mg "run" s_run ["program", "given", "fuel"] f8 d8)
    (DC : Df K mg "check_program" s_check_program ["program"] f9 d9) (DG : Df K mg "check_given" s_check_given ["program", "given", "fuel"] f10 d10) (DH0 : Df K mg "head_can_be" s_head_can_be ["program"] f11 d11) (DRC : Dc K mg "row_can_be" s_row_can_be ["row", "names", "many"] f12 d12 c1) (G1 : Gen K h c1 T1)
    (DV : Dc K mg "are_values" s_are_values ["numbers"] f13 d13 c2) (G2 : Gen K h c2 T2) (DNm : Dc K mg "names_of" s_names_of ["row"] f14 d14 c3) (G3 : Gen K h c3 T3) (DN : Df K mg "is_number" s_is_number ["value", "low", "high"] f15 d15) (DTu : Df K mg "is_tuple_of" s_is_tuple_of ["value", "many"] f16 d16)
    (DTo : Df K mg "told_of" s_told_of ["rows", "groups", "fuel", "machine"] f17 d17) (DAe : Df K mg "at_end" s_at_end ["rows", "at"] f18 d18) (DX : Df K mg "next_row" s_next_row ["row", "at", "jumps"] f19 d19) (DMv : Df K mg "do_moves" s_do_moves ["frame", "moves", "cells"] f20 d20)
    (DHd : Df K mg "handed" s_handed ["row", "ones"] f21 d21) (DMk : Df K mg "made_of" s_made_of ["row", "numbers"] f22 d22) (DmU : Dm K C "unknown" "Machine.unknown" s_m_unknown ["self"] f23 d23) (DmD : Dm K C "do_row" "Machine.do_row" s_m_do_row ["self", "row", "group"] f24 d24)
    (DmE : Dm K C "eat" "Machine.eat" s_m_eat ["self"] f25 d25) (DmI : Dm K C "__init__" "Machine.__init__" s_m_init ["self", "frame", "junk"] fI dI) (mkC : PySem.W.makesIn K C = true) (kpC : PySem.W.keepIn K (.ref C) = true) (gM : mg "Machine" = some (.ref C)) (M : Mcls K C)
    (PT0 : Parts K w mg d es n0) (MK : Makers K mg mk) (B : Bt mg) (G : Gk mg) : LamX.LawAtS l w K CX0 7 63 "_law_script" mg fa h := by
  obtain rfl : f1 = fa := Value.ref.inj (Option.some.inj (DL.g.symm.trans isL))
  refine ⟨d1, [(c1, T1), (c2, T2), (c3, T3)], spLaw K T1 T2 T3, ?_, ?_, ?_, law_binds DL.F, ?_, ?_⟩
  · exact all3 G1.tab G2.tab G3.tab
  · exact all3 G1.no G2.no G3.no
  · exact all3 G1.hd G2.hd G3.hd
  · intro H a ns short _ tabs isS
    exact ⟨a, ns, rfl, isS, short, tab_of (tabs (c1, T1) (by simp)), tab_of (tabs (c2, T2) (by simp)), tab_of (tabs (c3, T3) (by simp)), fun _ => rfl⟩
  · intro base inB _ TBs
    have B1 := TBs (c1, T1) (by simp)
    have B2 := TBs (c2, T2) (by simp)
    have B3 := TBs (c3, T3) (by simp)
    have TB1 : GxR.TabB base mg c1 T1 := ⟨B1.code, B1.bm, B1.gP⟩
    have TB2 : GxR.TabB base mg c2 T2 := ⟨B2.code, B2.bm, B2.gP⟩
    have TB3 : GxR.TabB base mg c3 T3 := ⟨B3.code, B3.bm, B3.gP⟩
    refine ok_law DL DB DT DR DP DLr DA DU (ok_run DU DC DG DNm.D DTo ⟨mkC, DmI.at_.at_, DmI.at_.fn, kpC⟩ gM DmI.b B (ok_check DC DH0 DRC TB1 DN DTu PT0 B G) (ok_given DG DV TB2 DN DTu B G) (ok_names DNm TB3 PT0 B) (ok_init DmI.F DmU M B) (ok_told DTo DAe DX DmD DmE DMv DHd DMk M MK B G) M) B
theorem bs_law : Bnd "law" "law" s_law ["_law_script"] := fun _ _ _ _ _ _ us hl => match us, hl with | [_], _ => rfl
theorem bs_begun : Bnd "_law_begun" "_law_begun" s_begun ["_law_script"] := fun _ _ _ _ _ _ us hl => match us, hl with | [_], _ => rfl
theorem bs_take : Bnd "_law_take" "_law_take" s_take ["_law_box", "_law_many"] := fun _ _ _ _ _ _ us hl => match us, hl with | [_, _], _ => rfl
theorem bs_row : Bnd "_law_row" "_law_row" s_row ["_law_box", "_law_names", "_law_many", "_law_at"] := fun _ _ _ _ _ _ us hl => match us, hl with | [_, _, _, _], _ => rfl
theorem bs_program : Bnd "_law_program" "_law_program" s_program ["_law_box", "_law_most"] := fun _ _ _ _ _ _ us hl => match us, hl with | [_, _], _ => rfl
theorem bs_lrun : Bnd "_law_run" "_law_run" s_lrun ["_law_program_here", "_law_given", "_law_fuel"] := fun _ _ _ _ _ _ us hl => match us, hl with | [_, _, _], _ => rfl
theorem bs_alike : Bnd "_law_alike" "_law_alike" s_alike ["_law_found", "_law_due"] := fun _ _ _ _ _ _ us hl => match us, hl with | [_, _], _ => rfl
theorem bs_run : Bnd "run" "run" s_run ["program", "given", "fuel"] := fun _ _ _ _ _ _ us hl => match us, hl with | [_, _, _], _ => rfl
theorem bs_check_program : Bnd "check_program" "check_program" s_check_program ["program"] := fun _ _ _ _ _ _ us hl => match us, hl with | [_], _ => rfl
theorem bs_check_given : Bnd "check_given" "check_given" s_check_given ["program", "given", "fuel"] := fun _ _ _ _ _ _ us hl => match us, hl with | [_, _, _], _ => rfl
theorem bs_head_can_be : Bnd "head_can_be" "head_can_be" s_head_can_be ["program"] := fun _ _ _ _ _ _ us hl => match us, hl with | [_], _ => rfl
theorem bs_row_can_be : Bnd "row_can_be" "row_can_be" s_row_can_be ["row", "names", "many"] := fun _ _ _ _ _ _ us hl => match us, hl with | [_, _, _], _ => rfl
theorem bs_are_values : Bnd "are_values" "are_values" s_are_values ["numbers"] := fun _ _ _ _ _ _ us hl => match us, hl with | [_], _ => rfl
theorem bs_names_of : Bnd "names_of" "names_of" s_names_of ["row"] := fun _ _ _ _ _ _ us hl => match us, hl with | [_], _ => rfl
theorem bs_is_number : Bnd "is_number" "is_number" s_is_number ["value", "low", "high"] := fun _ _ _ _ _ _ us hl => match us, hl with | [_, _, _], _ => rfl
theorem bs_is_tuple_of : Bnd "is_tuple_of" "is_tuple_of" s_is_tuple_of ["value", "many"] := fun _ _ _ _ _ _ us hl => match us, hl with | [_, _], _ => rfl
theorem bs_told_of : Bnd "told_of" "told_of" s_told_of ["rows", "groups", "fuel", "machine"] := fun _ _ _ _ _ _ us hl => match us, hl with | [_, _, _, _], _ => rfl
theorem bs_at_end : Bnd "at_end" "at_end" s_at_end ["rows", "at"] := fun _ _ _ _ _ _ us hl => match us, hl with | [_, _], _ => rfl
theorem bs_next_row : Bnd "next_row" "next_row" s_next_row ["row", "at", "jumps"] := fun _ _ _ _ _ _ us hl => match us, hl with | [_, _, _], _ => rfl
theorem bs_do_moves : Bnd "do_moves" "do_moves" s_do_moves ["frame", "moves", "cells"] := fun _ _ _ _ _ _ us hl => match us, hl with | [_, _, _], _ => rfl
theorem bs_handed : Bnd "handed" "handed" s_handed ["row", "ones"] := fun _ _ _ _ _ _ us hl => match us, hl with | [_, _], _ => rfl
theorem bs_made_of : Bnd "made_of" "made_of" s_made_of ["row", "numbers"] := fun _ _ _ _ _ _ us hl => match us, hl with | [_, _], _ => rfl
theorem bs_m_unknown : Bnd "unknown" "Machine.unknown" s_m_unknown ["self"] := fun _ _ _ _ _ _ us hl => match us, hl with | [_], _ => rfl
theorem bs_m_do_row : Bnd "do_row" "Machine.do_row" s_m_do_row ["self", "row", "group"] := fun _ _ _ _ _ _ us hl => match us, hl with | [_, _, _], _ => rfl
theorem bs_m_eat : Bnd "eat" "Machine.eat" s_m_eat ["self"] := fun _ _ _ _ _ _ us hl => match us, hl with | [_], _ => rfl
theorem bs_m_init : Bnd "__init__" "Machine.__init__" s_m_init ["self", "frame", "junk"] := fun _ _ _ _ _ _ us hl => match us, hl with | [_, _, _], _ => rfl
section
variable {K : PySem.W.Frag} {h : Heap} {mg : Str → Option Value} {w : World} {A : Prop}
theorem gk_mk {t1 t2 t3 t4 t5 : Tok} (KX : K.In h) (G : h.Ns mainGlobals mg) (a1 : PySem.W.nsIn K mainGlobals "VALUE_MOST" = some (some (.int 999 t1))) (a2 : PySem.W.nsIn K mainGlobals "NAMES_MOST" = some (some (.int 8 t2))) (a3 : PySem.W.nsIn K mainGlobals "ROWS_MOST" = some (some (.int 24 t3)))
    (a4 : PySem.W.nsIn K mainGlobals "FUEL_MOST" = some (some (.int 1000 t4))) (a5 : PySem.W.nsIn K mainGlobals "REST_BY" = some (some (.int 1000 t5))) (next : Gk mg → A) : A :=
  next ⟨⟨_, PySem.W.mg_of KX G a1⟩, ⟨_, PySem.W.mg_of KX G a2⟩, ⟨_, PySem.W.mg_of KX G a3⟩, ⟨_, PySem.W.mg_of KX G a4⟩, ⟨_, PySem.W.mg_of KX G a5⟩⟩
theorem bt_mk (KX : K.In h) (G : h.Ns mainGlobals mg) (a1 : PySem.W.nsIn K mainGlobals "len" = some none) (a2 : PySem.W.nsIn K mainGlobals "list" = some none) (a3 : PySem.W.nsIn K mainGlobals "int" = some none) (a4 : PySem.W.nsIn K mainGlobals "tuple" = some none) (a5 : PySem.W.nsIn K mainGlobals "dict" = some none) (a6 : PySem.W.nsIn K mainGlobals "range" = some none) (a7 : PySem.W.nsIn K mainGlobals "min" = some none) (a8 : PySem.W.nsIn K mainGlobals "isinstance" = some none) (a9 : PySem.W.nsIn K mainGlobals "bool" = some none) (a10 : PySem.W.nsIn K mainGlobals "str" = some none) (a11 : PySem.W.nsIn K mainGlobals "all" = some none) (a12 : PySem.W.nsIn K mainGlobals "zip" = some none) (a13 : PySem.W.nsIn K mainGlobals "enumerate" = some none) (next : Bt mg → A) : A :=
  next ⟨PySem.W.mg_none_of KX G a1, PySem.W.mg_none_of KX G a2, PySem.W.mg_none_of KX G a3, PySem.W.mg_none_of KX G a4, PySem.W.mg_none_of KX G a5, PySem.W.mg_none_of KX G a6, PySem.W.mg_none_of KX G a7, PySem.W.mg_none_of KX G a8, PySem.W.mg_none_of KX G a9, PySem.W.mg_none_of KX G a10, PySem.W.mg_none_of KX G a11, PySem.W.mg_none_of KX G a12, PySem.W.mg_none_of KX G a13⟩
theorem mc_mk {C : Addr} (KX : K.In h) (G : h.Ns mainGlobals mg) (at_ : PySem.W.nsIn K mainGlobals "Machine" = some (some (.ref C))) (pg : PySem.W.plainGet K C Str.empty = true) (hd : PySem.W.hasDictIn K C = true) (po : PySem.W.plainOver K C = true) (sa : PySem.W.findIn K (.ref C) "__setattr__" = some (some (.builtin "object.__setattr__")))
    (n1 : PySem.W.findIn K (.ref C) "frame" = some none) (n2 : PySem.W.findIn K (.ref C) "junk" = some none) (n3 : PySem.W.findIn K (.ref C) "spent" = some none) (n4 : PySem.W.findIn K (.ref C) "cells" = some none) (mkC : PySem.W.makesIn K C = true) (kpC : PySem.W.keepIn K (.ref C) = true)
    (next : mg "Machine" = some (.ref C) → Mcls K C → PySem.W.makesIn K C = true → PySem.W.keepIn K (.ref C) = true → A) : A :=
  next (PySem.W.mg_of KX G at_) ⟨⟨pg, hd, po, sa⟩, n1, n2, n3, n4⟩ mkC kpC
theorem mk_mk {m : Addr} {od : Option Addr} {its : Array Value} {n : Nat} {sl : Array (Option Value)} (KX : K.In h) (G : h.Ns mainGlobals mg) (at_ : PySem.W.nsIn K mainGlobals "MAKERS" = some (some (.ref m))) (lk : K.lookup m = some ⟨.type "tuple", od, .seq its n, sl⟩) (few : its.size ≤ 10) (v : Vals makersV its.toList) (next : ∀ m, Makers K mg m → A) : A :=
  next m ⟨PySem.W.mg_of KX G at_, fun H => .inr ⟨_, its, n, lk, rfl, rfl, Nat.le_trans few (by decide), v⟩⟩
theorem pt_mk {d : Addr} {es : Array DictEntry} {n : Nat} (KX : K.In h) (G : h.Ns mainGlobals mg) (at_ : PySem.W.nsIn K mainGlobals "PARTS" = some (some (.ref d))) (lk : K.lookup d = some ⟨.type "dict", none, .dict es n, #[]⟩) (lit : PySem.W.KeysLit w.params es.toList) (low : (d == sysModules) = false)
    (p1 : PartAt K d "put" [.str "name", .str "number"]) (p2 : PartAt K d "copy" [.str "name", .str "name"]) (p3 : PartAt K d "add" [.str "name", .str "name", .str "name"]) (p4 : PartAt K d "take" [.str "name", .str "name", .str "name"]) (p5 : PartAt K d "less" [.str "name", .str "name", .str "name"])
    (p6 : PartAt K d "call" [.str "name", .str "name"]) (p7 : PartAt K d "say" [.str "name"]) (p8 : PartAt K d "if" [.str "name", .str "row"]) (p9 : PartAt K d "go" [.str "row"]) (p10 : PartAt K d "end" []) (next : ∀ d es n, Parts K w mg d es n → A) : A :=
  next d es n ⟨PySem.W.mg_of KX G at_, ⟨lk, lit, low⟩, fun row => match row with
    | .put .. => p1.ex | .copy .. => p2.ex | .add .. => p3.ex | .take .. => p4.ex | .less .. => p5.ex | .call .. => p6.ex | .say .. => p7.ex | .iff .. => p8.ex | .go .. => p9.ex | .fin => p10.ex⟩
end
end Bw
open PySem PySem.W
open PyProof.Rows
set_option maxHeartbeats 0 in
theorem PySem.Challenge.cw_boxwitness_k04_runs_by_names_holds : PySem.Challenge.rw_boxwitness_k04_runs_by_names.Holds := by
  w_on
  o_law
  k_head
  case hw => w_witness2
  k_fill
  refine Bw.walk_tabs (l := PySem.Challenge.rw_boxwitness_k04_runs_by_names) (n := 63) (k := 7) (x := "_law_script") ["row_can_be", "are_values", "names_of"] rfl (by decide) rfl ⟨rfl, by decide, by decide⟩ ?recs (fun w h Y => PySem.W.kIn_of Y) ?F
  case recs => decide +kernel
  case F =>
    intro w mg fa h KX G hmg tabs
    refine' Bw.df_mk "law" Bw.s_law ["_law_script"] KX G Bw.bs_law ?az1 ?lz1 ?cz1 ?kz1 ?nz1
    (case az1 => k_is); (case lz1 => k_is); (case cz1 => k_is); (case kz1 => k_is)
    intro f fd DL
    refine' Bw.df_mk "_law_begun" Bw.s_begun ["_law_script"] KX G Bw.bs_begun ?az2 ?lz2 ?cz2 ?kz2 ?nz2
    (case az2 => k_is); (case lz2 => k_is); (case cz2 => k_is); (case kz2 => k_is)
    intro f fd DB
    refine' Bw.df_mk "_law_take" Bw.s_take ["_law_box", "_law_many"] KX G Bw.bs_take ?az3 ?lz3 ?cz3 ?kz3 ?nz3
    (case az3 => k_is); (case lz3 => k_is); (case cz3 => k_is); (case kz3 => k_is)
    intro f fd DT
    refine' Bw.df_mk "_law_row" Bw.s_row ["_law_box", "_law_names", "_law_many", "_law_at"] KX G Bw.bs_row ?az4 ?lz4 ?cz4 ?kz4 ?nz4
    (case az4 => k_is); (case lz4 => k_is); (case cz4 => k_is); (case kz4 => k_is)
    intro f fd DR
    refine' Bw.df_mk "_law_program" Bw.s_program ["_law_box", "_law_most"] KX G Bw.bs_program ?az5 ?lz5 ?cz5 ?kz5 ?nz5
    (case az5 => k_is); (case lz5 => k_is); (case cz5 => k_is); (case kz5 => k_is)
    intro f fd DP
    refine' Bw.df_mk "_law_run" Bw.s_lrun ["_law_program_here", "_law_given", "_law_fuel"] KX G Bw.bs_lrun ?az6 ?lz6 ?cz6 ?kz6 ?nz6
    (case az6 => k_is); (case lz6 => k_is); (case cz6 => k_is); (case kz6 => k_is)
    intro f fd DLr
    refine' Bw.df_mk "_law_alike" Bw.s_alike ["_law_found", "_law_due"] KX G Bw.bs_alike ?az7 ?lz7 ?cz7 ?kz7 ?nz7
    (case az7 => k_is); (case lz7 => k_is); (case cz7 => k_is); (case kz7 => k_is)
    intro f fd DA
    refine' Bw.df_mk "run" Bw.s_run ["program", "given", "fuel"] KX G Bw.bs_run ?az8 ?lz8 ?cz8 ?kz8 ?nz8
    (case az8 => k_is); (case lz8 => k_is); (case cz8 => k_is); (case kz8 => k_is)
    intro f fd DU
    refine' Bw.df_mk "check_program" Bw.s_check_program ["program"] KX G Bw.bs_check_program ?az9 ?lz9 ?cz9 ?kz9 ?nz9
    (case az9 => k_is); (case lz9 => k_is); (case cz9 => k_is); (case kz9 => k_is)
    intro f fd DC
    refine' Bw.df_mk "check_given" Bw.s_check_given ["program", "given", "fuel"] KX G Bw.bs_check_given ?az10 ?lz10 ?cz10 ?kz10 ?nz10
    (case az10 => k_is); (case lz10 => k_is); (case cz10 => k_is); (case kz10 => k_is)
    intro f fd DG
    refine' Bw.df_mk "head_can_be" Bw.s_head_can_be ["program"] KX G Bw.bs_head_can_be ?az11 ?lz11 ?cz11 ?kz11 ?nz11
    (case az11 => k_is); (case lz11 => k_is); (case cz11 => k_is); (case kz11 => k_is)
    intro f fd DH0
    refine' Bw.dc_mk "row_can_be" Bw.s_row_can_be ["row", "names", "many"] KX G (tabs "row_can_be" (by simp)) Bw.bs_row_can_be ?az12 ?lz12 ?cz12 ?kz12 ?qz12 ?ez12 ?dz12 ?zz12 ?nz12
    (case az12 => k_is); (case lz12 => k_is); (case cz12 => k_is); (case kz12 => k_is); (case qz12 => k_is); (case ez12 => rfl); (case dz12 => kernel_rfl); (case zz12 => kernel_rfl)
    intro f fd c T DRC G1
    refine' Bw.dc_mk "are_values" Bw.s_are_values ["numbers"] KX G (tabs "are_values" (by simp)) Bw.bs_are_values ?az13 ?lz13 ?cz13 ?kz13 ?qz13 ?ez13 ?dz13 ?zz13 ?nz13
    (case az13 => k_is); (case lz13 => k_is); (case cz13 => k_is); (case kz13 => k_is); (case qz13 => k_is); (case ez13 => rfl); (case dz13 => kernel_rfl); (case zz13 => kernel_rfl)
    intro f fd c T DV G2
    refine' Bw.dc_mk "names_of" Bw.s_names_of ["row"] KX G (tabs "names_of" (by simp)) Bw.bs_names_of ?az14 ?lz14 ?cz14 ?kz14 ?qz14 ?ez14 ?dz14 ?zz14 ?nz14
    (case az14 => k_is); (case lz14 => k_is); (case cz14 => k_is); (case kz14 => k_is); (case qz14 => k_is); (case ez14 => rfl); (case dz14 => kernel_rfl); (case zz14 => kernel_rfl)
    intro f fd c T DNm G3
    refine' Bw.df_mk "is_number" Bw.s_is_number ["value", "low", "high"] KX G Bw.bs_is_number ?az15 ?lz15 ?cz15 ?kz15 ?nz15
    (case az15 => k_is); (case lz15 => k_is); (case cz15 => k_is); (case kz15 => k_is)
    intro f fd DN
    refine' Bw.df_mk "is_tuple_of" Bw.s_is_tuple_of ["value", "many"] KX G Bw.bs_is_tuple_of ?az16 ?lz16 ?cz16 ?kz16 ?nz16
    (case az16 => k_is); (case lz16 => k_is); (case cz16 => k_is); (case kz16 => k_is)
    intro f fd DTu
    refine' Bw.df_mk "told_of" Bw.s_told_of ["rows", "groups", "fuel", "machine"] KX G Bw.bs_told_of ?az17 ?lz17 ?cz17 ?kz17 ?nz17
    (case az17 => k_is); (case lz17 => k_is); (case cz17 => k_is); (case kz17 => k_is)
    intro f fd DTo
    refine' Bw.df_mk "at_end" Bw.s_at_end ["rows", "at"] KX G Bw.bs_at_end ?az18 ?lz18 ?cz18 ?kz18 ?nz18
    (case az18 => k_is); (case lz18 => k_is); (case cz18 => k_is); (case kz18 => k_is)
    intro f fd DAe
    refine' Bw.df_mk "next_row" Bw.s_next_row ["row", "at", "jumps"] KX G Bw.bs_next_row ?az19 ?lz19 ?cz19 ?kz19 ?nz19
    (case az19 => k_is); (case lz19 => k_is); (case cz19 => k_is); (case kz19 => k_is)
    intro f fd DX
    refine' Bw.df_mk "do_moves" Bw.s_do_moves ["frame", "moves", "cells"] KX G Bw.bs_do_moves ?az20 ?lz20 ?cz20 ?kz20 ?nz20
    (case az20 => k_is); (case lz20 => k_is); (case cz20 => k_is); (case kz20 => k_is)
    intro f fd DMv
    refine' Bw.df_mk "handed" Bw.s_handed ["row", "ones"] KX G Bw.bs_handed ?az21 ?lz21 ?cz21 ?kz21 ?nz21
    (case az21 => k_is); (case lz21 => k_is); (case cz21 => k_is); (case kz21 => k_is)
    intro f fd DHd
    refine' Bw.df_mk "made_of" Bw.s_made_of ["row", "numbers"] KX G Bw.bs_made_of ?az22 ?lz22 ?cz22 ?kz22 ?nz22
    (case az22 => k_is); (case lz22 => k_is); (case cz22 => k_is); (case kz22 => k_is)
    intro f fd DMk
    refine' Bw.gk_mk KX G ?az23 ?bz23 ?cz23 ?dz23 ?ez23 ?nz23
    (case az23 => k_is); (case bz23 => k_is); (case cz23 => k_is); (case dz23 => k_is); (case ez23 => k_is)
    intro GK
    refine' Bw.bt_mk KX G ?a1z24 ?a2z24 ?a3z24 ?a4z24 ?a5z24 ?a6z24 ?a7z24 ?a8z24 ?a9z24 ?a10z24 ?a11z24 ?a12z24 ?a13z24 ?nz24
    (case a1z24 => k_is); (case a2z24 => k_is); (case a3z24 => k_is); (case a4z24 => k_is); (case a5z24 => k_is); (case a6z24 => k_is); (case a7z24 => k_is); (case a8z24 => k_is); (case a9z24 => k_is); (case a10z24 => k_is); (case a11z24 => k_is); (case a12z24 => k_is); (case a13z24 => k_is)
    intro BT
    refine' Bw.mk_mk KX G ?az25 ?lz25 ?sz25 ?vz25 ?nz25
    (case az25 => k_is); (case lz25 => k_is); (case sz25 => decide); (case vz25 => exact .cons ⟨_, rfl⟩ (.cons ⟨_, rfl⟩ (.cons ⟨_, rfl⟩ (.cons ⟨_, rfl⟩ (.cons ⟨_, rfl⟩ (.cons ⟨_, rfl⟩ .nil))))))
    intro m MK
    refine' Bw.pt_mk (w := w) KX G ?az26 ?lz26 ?litz26 ?lowz26 (Bw.part_mk ?a1z26 ?l1z26 ?s1z26 ?v1z26) (Bw.part_mk ?a2z26 ?l2z26 ?s2z26 ?v2z26) (Bw.part_mk ?a3z26 ?l3z26 ?s3z26 ?v3z26) (Bw.part_mk ?a4z26 ?l4z26 ?s4z26 ?v4z26) (Bw.part_mk ?a5z26 ?l5z26 ?s5z26 ?v5z26) (Bw.part_mk ?a6z26 ?l6z26 ?s6z26 ?v6z26) (Bw.part_mk ?a7z26 ?l7z26 ?s7z26 ?v7z26) (Bw.part_mk ?a8z26 ?l8z26 ?s8z26 ?v8z26) (Bw.part_mk ?a9z26 ?l9z26 ?s9z26 ?v9z26) (Bw.part_mk ?a10z26 ?l10z26 ?s10z26 ?v10z26) ?nz26
    (case az26 => k_is); (case lz26 => k_is); (case lowz26 => decide)
    (case litz26 => exact ⟨⟨_, _, rfl, rfl⟩, ⟨⟨_, _, rfl, rfl⟩, ⟨⟨_, _, rfl, rfl⟩, ⟨⟨_, _, rfl, rfl⟩, ⟨⟨_, _, rfl, rfl⟩, ⟨⟨_, _, rfl, rfl⟩, ⟨⟨_, _, rfl, rfl⟩, ⟨⟨_, _, rfl, rfl⟩, ⟨⟨_, _, rfl, rfl⟩, ⟨⟨_, _, rfl, rfl⟩, trivial⟩⟩⟩⟩⟩⟩⟩⟩⟩⟩)
    (case a1z26 => k_is); (case l1z26 => k_is); (case s1z26 => decide); (case v1z26 => exact .cons ⟨_, rfl⟩ (.cons ⟨_, rfl⟩ (.nil)))
    (case a2z26 => k_is); (case l2z26 => k_is); (case s2z26 => decide); (case v2z26 => exact .cons ⟨_, rfl⟩ (.cons ⟨_, rfl⟩ (.nil)))
    (case a3z26 => k_is); (case l3z26 => k_is); (case s3z26 => decide); (case v3z26 => exact .cons ⟨_, rfl⟩ (.cons ⟨_, rfl⟩ (.cons ⟨_, rfl⟩ (.nil))))
    (case a4z26 => k_is); (case l4z26 => k_is); (case s4z26 => decide); (case v4z26 => exact .cons ⟨_, rfl⟩ (.cons ⟨_, rfl⟩ (.cons ⟨_, rfl⟩ (.nil))))
    (case a5z26 => k_is); (case l5z26 => k_is); (case s5z26 => decide); (case v5z26 => exact .cons ⟨_, rfl⟩ (.cons ⟨_, rfl⟩ (.cons ⟨_, rfl⟩ (.nil))))
    (case a6z26 => k_is); (case l6z26 => k_is); (case s6z26 => decide); (case v6z26 => exact .cons ⟨_, rfl⟩ (.cons ⟨_, rfl⟩ (.nil)))
    (case a7z26 => k_is); (case l7z26 => k_is); (case s7z26 => decide); (case v7z26 => exact .cons ⟨_, rfl⟩ (.nil))
    (case a8z26 => k_is); (case l8z26 => k_is); (case s8z26 => decide); (case v8z26 => exact .cons ⟨_, rfl⟩ (.cons ⟨_, rfl⟩ (.nil)))
    (case a9z26 => k_is); (case l9z26 => k_is); (case s9z26 => decide); (case v9z26 => exact .cons ⟨_, rfl⟩ (.nil))
    (case a10z26 => k_is); (case l10z26 => k_is); (case s10z26 => decide); (case v10z26 => exact .nil)
    intro d es n PT0
    refine' Bw.mc_mk KX G ?az27 ?bz27 ?cz27 ?dz27 ?ez27 ?fz27 ?gz27 ?hz27 ?iz27 ?jz27 ?kz27 ?nz27
    (case az27 => k_is); (case bz27 => k_is); (case cz27 => k_is); (case dz27 => k_is); (case ez27 => k_is); (case fz27 => k_is); (case gz27 => k_is); (case hz27 => k_is); (case iz27 => k_is); (case jz27 => k_is); (case kz27 => k_is)
    intro gM M mkC kpC
    refine' Bw.dm_mk M "unknown" "Machine.unknown" Bw.s_m_unknown ["self"] Bw.bs_m_unknown ?az28 ?fz28 ?lz28 ?cz28 ?kz28 ?nz28
    (case az28 => k_is); (case fz28 => k_is); (case lz28 => k_is); (case cz28 => k_is); (case kz28 => k_is)
    intro f fd DmU
    refine' Bw.dm_mk M "do_row" "Machine.do_row" Bw.s_m_do_row ["self", "row", "group"] Bw.bs_m_do_row ?az29 ?fz29 ?lz29 ?cz29 ?kz29 ?nz29
    (case az29 => k_is); (case fz29 => k_is); (case lz29 => k_is); (case cz29 => k_is); (case kz29 => k_is)
    intro f fd DmD
    refine' Bw.dm_mk M "eat" "Machine.eat" Bw.s_m_eat ["self"] Bw.bs_m_eat ?az30 ?fz30 ?lz30 ?cz30 ?kz30 ?nz30
    (case az30 => k_is); (case fz30 => k_is); (case lz30 => k_is); (case cz30 => k_is); (case kz30 => k_is)
    intro f fd DmE
    refine' Bw.dm_mk M "__init__" "Machine.__init__" Bw.s_m_init ["self", "frame", "junk"] Bw.bs_m_init ?az31 ?fz31 ?lz31 ?cz31 ?kz31 ?nz31
    (case az31 => k_is); (case fz31 => k_is); (case lz31 => k_is); (case cz31 => k_is); (case kz31 => k_is)
    intro f fd DmI
    exact Bw.law_at DL hmg DB DT DR DP DLr DA DU DC DG DH0 DRC G1 DV G2 DNm G3 DN DTu DTo DAe DX DMv DHd DMk DmU DmD DmE DmI mkC kpC gM M PT0 MK BT GK
